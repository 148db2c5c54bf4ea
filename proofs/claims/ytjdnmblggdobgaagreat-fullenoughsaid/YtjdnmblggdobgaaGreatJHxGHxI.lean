import Derived.Test.YtjdnmblggdobgaaGreatJHzEHzF
import Derived.RangeFuncNested
import Derived.RangeFuncBound
import Derived.RangeFuncCalls
import Derived.RangeFuncLeaves
import Derived.Sort.MapsRangeIn
import Derived.Shelf.Abstract
import Derived.Shelf.RegionOpen
import Derived.OwnWalkIn
import Derived.TacticsInMore
import Derived.LoopNIn
import Derived.LoopIn
import Derived.Maps.AppendAt
import Derived.Sort.Grow
import Derived.Shelf.SlGeneric
import Derived.Shelf.SlLaysF0
import Derived.Shelf.SlSortCmp.WholeK
set_option maxHeartbeats 4000000
set_option maxRecDepth 100000
namespace Go.Proofs.YtjdnmblggdobgaaGreat
open Go.RowKit Go.Maps Go.Shelf Tryz
attribute [local go_sem] Oper.semAt_some
theorem zy5 (F:Fence) (n:Nat) (hf:F.fn 194) (bg:F.round=none) (hn:1<=n) (l Bm X:Nat) (all:List bk) (J Jx:List bk->World->Prop)
 (hY:∀A x W,J A W->A.length<all.length->YieldAt F (n - 1) prog l #[nb x] W fun e W'=>(e=.returned (.bool true)/\J (A++ [x]) W'/\KeepsWalks W W')\/(e=.returned (.bool false)/\Jx (A++ [x]) W'))
 (W:World) (hJ:AbidesFrom W.heap.size J) (hm:W.cell? ⟨Bm,0,none⟩=some (.map (some X))) (bf:jt W X all) (Y:(all.map bk.loc).Nodup) (h0:J [] W):
 CallsIn F n prog 194 #[.func (.yield l) #[] #[],.p Bm] W fun e W'=>(∃v,e=.returned v)/\((∃xs,xs.Perm all/\J xs W')\/(∃A,True/\Jx A W')):=by
 obtain ⟨D,ap,hD⟩:=bf;have ay:=ag hD;have a1:=ag Y;have ah:ub all all (Maps.has D):=⟨fun x=>by rw [hD.has,Cd],fun t h=>h,Y⟩;have az:=ag ah;clear hD Y ah;refine callsIn_of_wp func194 rfl hf ?_ bg;simp only [ntmps194,List.size_toArray,List.length_cons,List.length_nil,Nat.reduceAdd,Nat.reduceSub,Array.replicate_succ,Array.replicate_zero,List.push_toArray,List.append_toArray,List.nil_append,List.cons_append]
 gi_wp2_with (first
  | (gi_at_range;refine wpListIn_range_own _ rfl _ 199 rfl 3 101 qc underlying199 _ X all.length D rfl ap ?_;intro w0 au a8 bm)
  | gi_in)
 go_frame
 gi_loopw [4] (fun _ wr=>∃(left:Lit->Bool) (O:Nat) (A G:List bk),wr.ranges prog 3 ko X W.heap.size all.length D left O/\Hid (ub all G left/\(A++G).Perm all)/\J A wr)
  (fun _ wr=>wr.rangeLeft X W.heap.size)
 case atStart=>exact ⟨_,_,[],all,au,⟨az.o,List.Perm.refl _⟩,hJ [] W w0 none h0 a8 (fun r e=>by cases e)⟩
 case round=>
  obtain ⟨left,O,A,G,I,HI,V⟩:=hrel
  gi_wp2_with (first
   | (gi_at_next;refine wpListIn_next_ranges _ rfl _ rfl 3 qc ko (fun x:Int=>.i x) nb (fun key kl h=>by obtain ⟨x,e,-⟩:=Maps.keyOf_int_inv underlying3 h;exact ⟨x,e⟩) zyk X W.heap.size all.length D left O rfl I ?_ ?_)
   | gi_in)
  ·intro bl bc;have E:G= []:=by
    cases hr:G with
    | nil=>rfl
    | cons t r=>
      have h1:=HI.o.1.is t.loc;rw [hr,bc]at h1;simp at h1
   have HP:=HI.o.2;rw [E,List.append_nil]at HP
   gi_wp2
   go_end0;exact ⟨⟨_,rfl⟩,.inl ⟨A,HP,V⟩⟩
  intro x c kl y1 y2 w1 ac ak ao ax ai L an aj bh a7;have bb:kl=jm x:=by obtain ⟨x',e1,e2,-⟩:=Maps.keyOf_int_inv underlying3 ak;injection e1 with _ e1;rw [e2,<-e1];rfl
  subst bb;obtain ⟨pe,t,po,E,aw,av,al⟩:=zym HI.o.1 ao;have a6:c=t:=by have h1:=ay.o.at_ t.loc t (li t) (zyl a1.o av);rw [aw,ai]at h1;have h2:=zfd c;rw [ax]at h2;have h3:y1=li c:=congrArg Prod.fst (ojq h2);rw [h3]at h1;exact zfe h1
  subst a6;have ad:J A w1:=hJ _ wr w1 (some W.heap.size) V aj (fun r e=>by cases e;exact ⟨nlq _,I.iter_walk⟩);have a4:J A (w1.alloc (.cells #[.i c.loc,.i c.tag,.i c.len,.i c.hash] 101)):=hJ _ _ _ none ad (World.grownBy_alloc _ _ _) (fun r e=>by cases e);have Z:((A++ [c])++(pe++po)).Perm all:=by refine List.Perm.trans ?_ HI.o.2;rw [E,List.append_assoc];exact List.Perm.append_left A (List.perm_middle (a:=c) (l₁:=pe) (l₂:=po)).symm
  have be:A.length<all.length:=by have:=Z.length_eq;simp only [List.length_append,List.length_cons,List.length_nil]at this;omega
  obtain ⟨fn,bi,assign,body,hy,hR⟩:=hY A c _ a4 be;have a2:Hid (ub all (pe++po) (fun z=>left z&& !z.sameKey (jm x))/\((A++ [c])++(pe++po)).Perm all):=⟨al,Z⟩;have a3:=ag I;have aa:=ag L;have a0:=ag an;unfold nb at a7 hy ⊢;clear bh ak ao ax ai E aw al Z av I L an ad V aj
  gi_wp2
  refine hR.mono ?_;rintro e W3 (⟨rfl,a5,a9⟩ | ⟨rfl,af⟩)
  ·have N:=aa.o.of_walks ((KeepsWalks.alloc _ _).trans a9)
   gi_wp2
   go_roundw
   case rel=>exact ⟨_,ac,A++ [c],pe++po,N,a2,a5⟩
   case measure=>rw [N.left_eq,a3.o.left_eq];exact a0.o
  gi_wp2
  refine bodyPost_ret (results_none rfl _ _ _) rfl ?_;exact ⟨⟨_,rfl⟩,.inr ⟨A++ [c],trivial,af⟩⟩
theorem zy6 (F:Fence) (n:Nat) (E:F.fn 151) (A:F.round=none) (D:Option Nat) (w:World):
 CallsIn F n prog 151 #[.map D] w fun e w'=>e=.returned (.func (.func 194) #[] #[.p w.heap.size])/\w'=w.alloc (.cells #[.map D] 199):=by
 refine callsIn_of_wp func151 rfl E ?_ A;simp only [ntmps151,List.size_toArray,List.length_cons,List.length_nil,Nat.reduceAdd,Nat.reduceSub,Array.replicate_succ,Array.replicate_zero,List.push_toArray,List.append_toArray,List.nil_append,List.cons_append]
 gi_wp2
 go_ret;exact ⟨rfl,rfl⟩
theorem zy7 (F:Fence) (n:Nat) (hf:F.fn 194) (Y:F.round=none) (hn:1<=n) (G X:Nat) (all:List bk) (w:World) (I:G<w.heap.size)
 (hm:w.cell? ⟨G,0,none⟩=some (.map (some X))) (V:jt w X all) (O:(all.map bk.loc).Nodup):
 SeqStopsK F n prog 194 #[.p G] (fun t:bk=>#[nb t]) KeepsWalks (fun xs=>xs.Perm all) (fun _=>True) all.length w:=fun l J Jx W Z hJ _ hY h0=>by
 refine zy5 F n hf Y hn l G X all J Jx hY W hJ ((Z.cell (p:=⟨G,0,none⟩) I).trans hm) ?_ O h0;obtain ⟨D,A,L⟩:=V;refine ⟨D,?_,L⟩;have N:=A.lt;obtain ⟨es,E,hb,Ft,hs,L⟩:=A;exact ⟨es,E,(Z.block X N).trans hb,Ft,hs,L⟩
theorem zy8 {W A:World} {row:Option Nat} {B:Nat} {D:Array Value} {t:TypeId} (h:W.heap[B]? =some (.cells D t (0,0))) (F:W.grownBy A row) (G:∀r,row=some r->∃o:Obj,W.heap[r]? =some o/\o.isCells=false):A.heap[B]? =some (.cells D t (0,0)):=by refine (F.block B (Array.getElem?_eq_some_iff.1 h).1 fun e=>?_).trans h;obtain ⟨o,E,hc⟩:=G B e.symm;rw [h]at E;cases E;cases hc
theorem zy9 (F:Fence) (n:Nat) (hf:F.fn 229) (ad:F.round=none) (hn:2<=n) (g:Nat) (lb:Array Value) (al:F.fn g) (eg:∀args w,(callFunc g args).run prog w=.ok (.enter g args) w)
 (S:List bk->Prop) (N:Nat) (hN:N<=1000000) (w:World) (af:SeqStopsK F (n - 1) prog g lb (fun t:bk=>#[nb t]) KeepsWalks S (fun _=>True) N w):
 CallsIn F n prog 229 #[.nl,.func (.func g) #[] lb] w fun e w'=>∃(v:Value) (ts:List bk),e=.returned v/\S ts/\w'.ownsRow w.heap.size 101 4 v ts.length (fu ts)/\Bl w w':=by
 have h1:1<=n:=by omega
 obtain ⟨iT,ao,ai,aj,ak⟩:=info_parts tm;refine callsIn_of_wp_marks func229 rfl hf ?_ ad;simp only [ntmps229,List.size_toArray,List.length_cons,List.length_nil,Nat.reduceAdd,Nat.reduceSub,Array.replicate_succ,Array.replicate_zero,List.push_toArray,List.append_toArray,List.nil_append,List.cons_append]
 gi_wp2
 have bA:=Boxed.new w 182 (.nl);have O:Bl w (w.alloc (.cells #[.nl] 182)):=(br _ w).alloc (nlq _) _;have av:(w.alloc (.cells #[.nl] 182)).heap.size=w.heap.size+1:=by simp
 obtain ⟨W0,aa⟩:∃W0,w.alloc (.cells #[.nl] 182)=W0:=⟨_,rfl⟩;rw [aa]at bA O av ⊢;clear aa;refine wpIn_rangeFunc_ownH ad h1 (gf:=g) (lb:=lb) rfl al eg af walksK_t walksK_b O (fun _=>rfl)
  (fun J W=>(∃v,Boxed W w.heap.size 182 v/\W.ownsRow w.heap.size 101 4 v J.length (fu J)/\True)/\Bl w W)
  (fun _ _ _=>False)
  (OwnFrom.and (Own.from (holdsRow_own _ _ _ _ _ _ _ _) _) (ownFrom_below (nlq _) (by omega)))
  (fun _ _ _ _ _ hs _ _=>hs)
  ⟨⟨_,bA,⟨rfl,.inl ⟨rfl,rfl⟩⟩,trivial⟩,O⟩
  (fun x a' W=>∃Z,w.heap.size<Z/\W.heap[Z]? =some (.cells #[.i x.loc,.i x.tag,.i x.len,.i x.hash] 101 (0,0))/\a'={ tmps:=#[.nl,.func (.func g) #[] lb,.p w.heap.size,undef,.nl,.p Z,.func (.func g) #[] lb,nb x,undef,undef,undef,undef,undef],defers:=[] })
  (fun x a' _ X Y row hs hg hr=>by obtain ⟨Z,h1,h2,h3⟩:=hs;exact ⟨Z,h1,zy8 h2 hg (fun r e=>(hr r e).2),h3⟩)
  ?assign ?body ?done ?stop
 case assign=>
  rintro l J x W K ⟨⟨v,L,A,-⟩,E⟩ hK;unfold nb at hK ⊢
  gi_wp2
  exact hK _ _ ((KeepsOthers.alloc _ _).from _) (KeepsOthers.alloc _ _).walks ⟨⟨v,L.alloc _,A.alloc _,trivial⟩,E.alloc E.size _⟩ ⟨W.heap.size,L.lt,World.alloc_heap_new W _,rfl⟩
 case body=>
  rintro l J x a' W hl - ⟨⟨v,L,A,-⟩,E⟩ ⟨Z,ay,bX,rfl⟩ a1;have cS:=L.cell;have p0:=bp bX 0 (x:=.i x.loc) rfl;have p1:=bp bX 1 (x:=.i x.tag) rfl;have p2:=bp bX 2 (x:=.i x.len) rfl;have p3:=bp bX 3 (x:=.i x.hash) rfl;have au:=E.size;unfold nb
  gi_wp2_with (first
   | (gi_at_builtin
      refine wpListIn_append_own _ rfl _ _ 182 rfl w.heap.size 101 iT (.agg #[.i 0,.i 0,.i 0,.i 0]) 4 32 underlying182 ao ai aj ak rfl (by decide) _ _ _ rfl (A.alloc _) ⟨W.heap.size,0,none⟩ 1 1 [.i x.loc,.i x.tag,.i x.len,.i x.hash] rfl rfl (by intro j u G;match j,G with | 0,G=>simp at G;subst G;simp [Addr.add] | 1,G=>simp at G;subst G;simp [Addr.add] | 2,G=>simp at G;subst G;simp [Addr.add] | 3,G=>simp at G;subst G;simp [Addr.add]) (by intro u hu;simp at hu;rcases hu with rfl | rfl | rfl | rfl<;>rfl) (by unfold maxLen;omega) (by omega) (by simp;omega) ?_;intro v' w1 I V _;obtain ⟨g',ax,rfl⟩:=ownsRow_succ I;obtain ⟨ah,aw,ap,ac,an⟩:=L.appended (by decide) A au (nlq _) I V;have az:=ah.cell;have a0:=ah.frozen)
   | gi_in)
  refine ⟨ac.from _,ac.walks,⟨⟨_,aw,?_,trivial⟩,E.trans an⟩⟩;rw [fu,List.flatMap_append,List.length_append];exact ap
 case done=>
  rintro D ts W hD hS ⟨⟨v,L,A,-⟩,E⟩ hK;have cS:=L.cell
  gi_wp2
  refine ⟨by simp,.inl ⟨_,_,rfl,run_takeDeferred hK,?_⟩⟩;exact ⟨_,results_tmp rfl _ _ _,v,ts,rfl,hS,ownsRow_putObj A _ hK rfl,E.trans (belowK_b (w:=w) (nlq _) W D _ _ (by omega) hK rfl rfl)⟩
 case stop=>
  rintro D c J W _ _ h _;exact h.elim
theorem zza (F:Fence) (n:Nat) (W:F.fn 192) (I:F.fn 229) (A:F.round=none) (X:3<=n) (g:Nat) (lb:Array Value) (G:F.fn g) (J:∀args w,(callFunc g args).run prog w=.ok (.enter g args) w)
 (S:List bk->Prop) (N:Nat) (L:N<=1000000) (w:World) (E:SeqStopsK F (n - 1 - 1) prog g lb (fun t:bk=>#[nb t]) KeepsWalks S (fun _=>True) N w):
 CallsIn F n prog 192 #[.func (.func g) #[] lb] w fun e w'=>∃(v:Value) (ts:List bk),e=.returned v/\S ts/\w'.ownsRow w.heap.size 101 4 v ts.length (fu ts)/\Bl w w':=by
 have h1:1<=n:=by omega
 refine callsIn_of_wp func192 rfl W ?_ A;simp only [ntmps192,List.size_toArray,List.length_cons,List.length_nil,Nat.reduceAdd,Nat.reduceSub,Array.replicate_succ,Array.replicate_zero,List.push_toArray,List.append_toArray,List.nil_append,List.cons_append]
 gi_wp2_with (gi_at_call 229;refine (zy9 F (n - 1) I A (by omega) g lb G J S N L _ E).mono ?_;rintro e w' ⟨v,ts,rfl,O,D,V⟩)
 go_ret;exact ⟨v,ts,rfl,O,D,V⟩
theorem zzb (w:World) (A X:Nat) (all:List bk) (D:A<w.heap.size) (I:w.cell? ⟨A,0,none⟩=some (.map (some X))) (F:jt w X all) (E:(all.map bk.loc).Nodup) (G:all.length<=1000000):
 Calls prog 192 #[.func (.func 194) #[] #[.p A]] w fun e w'=>∃(v:Value) (ts:List bk),e=.returned v/\ts.Perm all/\w'.ownsRow w.heap.size 101 4 v ts.length (fu ts)/\Bl w w':=by
 refine (callsIn_wide (n:=3)).1 ?_;exact zza Fence.wide 3 trivial trivial rfl (by decide) _ _ trivial (enters_of func194 (by kernel_rfl) rfl) (fun xs=>xs.Perm all) all.length G w (zy7 Fence.wide 1 trivial rfl (by decide) A X all w D I F E)
end Go.Proofs.YtjdnmblggdobgaaGreat
namespace Go.Proofs.YtjdnmblggdobgaaGreat
open Go.RowKit Go.Maps Go.Sort Tryz
theorem zzc (x:Int) (w:World):Calls prog 195 #[.i x] w fun r w'=>r=.returned (.bool false)/\w'=w:=by go_enter func195,ntmps195;go_wp2_with fail;go_ret;exact ⟨by simp,rfl⟩
def pq (a b:Int):Int:=if a<b then -1 else if b<a then 1 else 0
theorem zzd (a b:Int) (w:World):Calls prog 154 #[.i a,.i b] w fun r w'=>r=.returned (.i (pq a b))/\w'=w:=by
 by_cases h1:a<b
 ·have A:Hid (pq a b= -1):=by show pq a b=_;simp [pq,h1]
  go_enter func154,ntmps154;go_wp2_with (go_at_call 195;refine (zzc _ _).mono ?_;rintro r w' ⟨rfl,rfl⟩);go_ret;exact ⟨by rw [A.o];rfl,rfl⟩
 by_cases D:b<a
 ·have A:Hid (pq a b=1):=by show pq a b=_;simp [pq,h1,D]
  go_enter func154,ntmps154;go_wp2_with (go_at_call 195;refine (zzc _ _).mono ?_;rintro r w' ⟨rfl,rfl⟩);go_ret;exact ⟨by rw [A.o];rfl,rfl⟩
 have A:Hid (pq a b=0):=by show pq a b=_;simp [pq,h1,D]
 go_enter func154,ntmps154;go_wp2_with (go_at_call 195;refine (zzc _ _).mono ?_;rintro r w' ⟨rfl,rfl⟩);go_ret;exact ⟨by rw [A.o];rfl,rfl⟩
def yB (ae loc:Int):Bool:=decide (0<loc)&&decide (loc<=ae)
theorem zze (w:World) (T:Nat) (ae A:Int) (E:w.cell? ⟨T,1,none⟩=some (.i ae)):
 Calls prog 153 #[.p T,.i A] w fun r w'=>r=.returned (.bool (yB ae A))/\w'=w:=by
 by_cases h1:0<A
 ·have D:Hid (yB ae A=decide (A<=ae)):=by show yB ae A=_;simp [yB,h1]
  go_enter func153,ntmps153;go_wp2_with fail;go_ret;exact ⟨by rw [D.o];rfl,rfl⟩
 have D:Hid (yB ae A=false):=by show yB ae A=_;simp [yB,h1]
 go_enter func153,ntmps153;go_wp2_with fail;go_ret;exact ⟨by rw [D.o];rfl,rfl⟩
def vj (ae:Int) (x y:bk):Int:=if yB ae x.loc=yB ae y.loc then pq x.loc y.loc else pq y.loc x.loc
theorem zzf (W:World) (O T:Nat) (ae:Int) (ac:O<W.heap.size) (ad:T<W.heap.size) (c0:W.cell? ⟨O,0,none⟩=some (.p T)) (c1:W.cell? ⟨T,1,none⟩=some (.i ae)) (x y:bk):
 Calls prog 152 #[nb x,nb y,.p O] W fun r w'=>r=.returned (.i (vj ae x y))/\∃q os',w'=grow (W.drewN q) os':=by
 have HY:Hid (∀(w':World) (E:Int),w'.cell? ⟨T,1,none⟩=some (.i ae)->Calls prog 153 #[.p T,.i E] w' fun r aa=>r=.returned (.bool (yB ae E))/\aa=w'):=fun w' E A=>zze w' T ae E A;obtain ⟨W0,Z,hB,hs,kx,ky⟩:=ro W #[.i x.loc,.i x.tag,.i x.len,.i x.hash] #[.i y.loc,.i y.tag,.i y.len,.i y.hash] 101 101;have HG:Hid (∀q,∃q' os',W0.drewN q=grow (W.drewN q') os'):=fun q=>⟨q,_,by rw [Z,alloc_eq_grow,alloc_eq_grow,grow_grow];rfl⟩;have d0:=(hB.cell (p:=⟨O,0,none⟩) ac).trans c0;have d1:=(hB.cell (p:=⟨T,1,none⟩) ad).trans c1;have px:=bp kx 0 (x:=.i x.loc) rfl;have py:=bp ky 0 (x:=.i y.loc) rfl;have F:=ag Z;have G:Hid (∀n E b,yB ae E=b->Calls prog 153 #[.p T,.i E] (W0.drewN n) fun r aa=>r=.returned (.bool b)/\aa=W0.drewN n):=fun n E b e=>e ▸ HY.o _ _ d1;have D:Hid (vj ae x y=if yB ae x.loc=yB ae y.loc then pq x.loc y.loc else pq y.loc x.loc):=rfl;unfold nb;generalize vj ae x y=res at D ⊢;clear c0 c1 hB kx ky Z hs HY;have I:yB ae x.loc=false->yB ae y.loc=false->Calls prog 152 #[.agg #[.i x.loc,.i x.tag,.i x.len,.i x.hash],.agg #[.i y.loc,.i y.tag,.i y.len,.i y.hash],.p O] W fun r w'=>r=.returned (.i res)/\∃q os',w'=grow (W.drewN q) os':=by
  intro h1 A;have V:Hid (res=pq x.loc y.loc):=by have:=D.o;rw [h1,A]at this;exact this
  have X:=ag h1;have Y:=ag A;clear h1 A D;go_enter func152,ntmps152;go_wp2_with fail;rw [<-F.o];go_quiet ((go_at_call 153;exact Calls.quiet_of_same (G.o _ _ _ (by first | exact X.o | exact Y.o))));go_wp2_with (go_at_call 154;refine (zzd _ _ _).mono ?_;rintro r w' ⟨rfl,rfl⟩);go_ret;exact ⟨by rw [V.o];rfl,HG.o _⟩
 have J:yB ae x.loc=false->yB ae y.loc=true->Calls prog 152 #[.agg #[.i x.loc,.i x.tag,.i x.len,.i x.hash],.agg #[.i y.loc,.i y.tag,.i y.len,.i y.hash],.p O] W fun r w'=>r=.returned (.i res)/\∃q os',w'=grow (W.drewN q) os':=by
  intro h1 A;have V:Hid (res=pq y.loc x.loc):=by have:=D.o;rw [h1,A]at this;exact this
  have X:=ag h1;have Y:=ag A;clear h1 A D;go_enter func152,ntmps152;go_wp2_with fail;rw [<-F.o];go_quiet ((go_at_call 153;exact Calls.quiet_of_same (G.o _ _ _ (by first | exact X.o | exact Y.o))));go_wp2_with (go_at_call 154;refine (zzd _ _ _).mono ?_;rintro r w' ⟨rfl,rfl⟩);go_ret;exact ⟨by rw [V.o];rfl,HG.o _⟩
 have L:yB ae x.loc=true->yB ae y.loc=false->Calls prog 152 #[.agg #[.i x.loc,.i x.tag,.i x.len,.i x.hash],.agg #[.i y.loc,.i y.tag,.i y.len,.i y.hash],.p O] W fun r w'=>r=.returned (.i res)/\∃q os',w'=grow (W.drewN q) os':=by
  intro h1 A;have V:Hid (res=pq y.loc x.loc):=by have:=D.o;rw [h1,A]at this;exact this
  have X:=ag h1;have Y:=ag A;clear h1 A D;go_enter func152,ntmps152;go_wp2_with fail;rw [<-F.o];go_quiet ((go_at_call 153;exact Calls.quiet_of_same (G.o _ _ _ (by first | exact X.o | exact Y.o))));go_wp2_with (go_at_call 154;refine (zzd _ _ _).mono ?_;rintro r w' ⟨rfl,rfl⟩);go_ret;exact ⟨by rw [V.o];rfl,HG.o _⟩
 have N:yB ae x.loc=true->yB ae y.loc=true->Calls prog 152 #[.agg #[.i x.loc,.i x.tag,.i x.len,.i x.hash],.agg #[.i y.loc,.i y.tag,.i y.len,.i y.hash],.p O] W fun r w'=>r=.returned (.i res)/\∃q os',w'=grow (W.drewN q) os':=by
  intro h1 A;have V:Hid (res=pq x.loc y.loc):=by have:=D.o;rw [h1,A]at this;exact this
  have X:=ag h1;have Y:=ag A;clear h1 A D;go_enter func152,ntmps152;go_wp2_with fail;rw [<-F.o];go_quiet ((go_at_call 153;exact Calls.quiet_of_same (G.o _ _ _ (by first | exact X.o | exact Y.o))));go_wp2_with (go_at_call 154;refine (zzd _ _ _).mono ?_;rintro r w' ⟨rfl,rfl⟩);go_ret;exact ⟨by rw [V.o];rfl,HG.o _⟩
 cases h1:yB ae x.loc<;>cases A:yB ae y.loc
 ·exact I h1 A
 ·exact J h1 A
 ·exact L h1 A
 exact N h1 A
end Go.Proofs.YtjdnmblggdobgaaGreat
namespace Go.Proofs.YtjdnmblggdobgaaGreat
open Go.Shelf Tryz
def sw:Go.Shelf.Ren:=⟨fun | 6=>193 | 15=>231 | 14=>230 | 28=>279 | 29=>280 | 20=>271 | 21=>272 | 22=>273 | 23=>274 | 24=>275 | 25=>276 | 26=>277 | 27=>278 | 46=>306 | 47=>307 | 48=>308 | 49=>309 | 50=>310 | 57=>328 | n=>n,fun | 22=>182 | 24=>101 | 25=>207 | 3=>3 | 39=>254 | 0=>0 | 53=>301 | 55=>303 | 4=>4 | 46=>295 | 45=>294 | 50=>145 | 5=>5 | 9=>9 | 66=>309 | 70=>234 | 76=>322 | 77=>323 | n=>n,fun | n=>n⟩
theorem yp:Go.Proofs.SlLaysF0.n6 prog sw:={
 mixed:=by kernel_rfl
 f6:=⟨f193.name,by kernel_rfl,func193.trans (congrArg some (by kernel_rfl))⟩
 f14:=⟨f230.name,by kernel_rfl,func230.trans (congrArg some (by kernel_rfl))⟩
 f15:=func231.trans (congrArg some (by kernel_rfl))
 f20:=⟨f271.name,by kernel_rfl,func271.trans (congrArg some (by kernel_rfl))⟩
 f21:=⟨f272.name,by kernel_rfl,func272.trans (congrArg some (by kernel_rfl))⟩
 f22:=⟨f273.name,by kernel_rfl,func273.trans (congrArg some (by kernel_rfl))⟩
 f23:=⟨f274.name,by kernel_rfl,func274.trans (congrArg some (by kernel_rfl))⟩
 f24:=⟨f275.name,by kernel_rfl,func275.trans (congrArg some (by kernel_rfl))⟩
 f25:=⟨f276.name,by kernel_rfl,func276.trans (congrArg some (by kernel_rfl))⟩
 f26:=⟨f277.name,by kernel_rfl,func277.trans (congrArg some (by kernel_rfl))⟩
 f27:=⟨f278.name,by kernel_rfl,func278.trans (congrArg some (by kernel_rfl))⟩
 f28:=func279.trans (congrArg some (by kernel_rfl))
 f29:=func280.trans (congrArg some (by kernel_rfl))
 f46:=⟨f306.name,by kernel_rfl,func306.trans (congrArg some (by kernel_rfl))⟩
 f47:=func307.trans (congrArg some (by kernel_rfl))
 f48:=func308.trans (congrArg some (by kernel_rfl))
 f49:=⟨f309.name,by kernel_rfl,func309.trans (congrArg some (by kernel_rfl))⟩
 f50:=⟨f310.name,by kernel_rfl,func310.trans (congrArg some (by kernel_rfl))⟩
 f57:=⟨f328.name,by kernel_rfl,func328.trans (congrArg some (by kernel_rfl))⟩
 t0:=underlying0
 a0:=isAgg0
 z0:=sizeOf0
 v0:=zeroValue0
 t3:=underlying3
 a3:=isAgg3
 z3:=sizeOf3
 v3:=zeroValue3
 t4:=underlying4
 a4:=isAgg4
 z4:=sizeOf4
 v4:=zeroValue4
 t5:=underlying5
 a5:=isAgg5
 z5:=sizeOf5
 v5:=zeroValue5
 t9:=underlying9
 a9:=isAgg9
 z9:=sizeOf9
 v9:=zeroValue9
 t22:=underlying182
 a22:=isAgg182
 z22:=sizeOf182
 v22:=zeroValue182
 t25:=underlying207
 a25:=isAgg207
 z25:=sizeOf207
 v25:=zeroValue207
 t39:=underlying254
 a39:=isAgg254
 z39:=sizeOf254
 v39:=zeroValue254
 t45:=underlying294
 a45:=isAgg294
 z45:=sizeOf294
 v45:=zeroValue294
 t46:=underlying295
 a46:=isAgg295
 z46:=sizeOf295
 v46:=zeroValue295
 t50:=underlying145
 a50:=isAgg145
 z50:=sizeOf145
 v50:=zeroValue145
 t53:=underlying301
 a53:=isAgg301
 z53:=sizeOf301
 v53:=zeroValue301
 t55:=underlying303
 a55:=isAgg303
 z55:=sizeOf303
 v55:=zeroValue303
 t66:=underlying309
 a66:=isAgg309
 z66:=sizeOf309
 v66:=zeroValue309
 t70:=underlying234
 a70:=isAgg234
 z70:=sizeOf234
 v70:=zeroValue234
 t76:=underlying322
 a76:=isAgg322
 z76:=sizeOf322
 v76:=zeroValue322
 t77:=underlying323
 a77:=isAgg323
 z77:=sizeOf323
 v77:=zeroValue323 }
end Go.Proofs.YtjdnmblggdobgaaGreat
namespace Go.Proofs.YtjdnmblggdobgaaGreat
open Go.RowKit Go.Maps Go.Sort Go.Shelf Tryz
abbrev ThP:={ t:bk // 1<=t.loc }
abbrev ThI:Inhabited ThP:=⟨⟨⟨1,0,0,0⟩,by decide⟩⟩
def qf (t:ThP):List Value:=[.i t.1.loc,.i t.1.tag,.i t.1.len,.i t.1.hash]
def vu (ae:Int) (x y:bk):Prop:=(y.loc<=ae/\(ae<x.loc\/x.loc<=y.loc))\/(ae<x.loc/\x.loc<=y.loc)
theorem zzg (a b:Int):pq a b<0↔a<b:=by
 unfold pq;split
 ·simp [*]
 split<;>simp<;>omega
theorem ltT (ae:Int) (x y:ThP):ltOf (fun x y:ThP=>vj ae x.1 y.1) x y=true↔¬vu ae y.1 x.1:=by
 have F:=x.2;have G:=y.2;unfold ltOf vj vu;rw [decide_eq_true_iff];have D:yB ae x.1.loc=decide (x.1.loc<=ae):=by unfold yB;rw [decide_eq_true (by omega:0<x.1.loc)];rfl
 have E:yB ae y.1.loc=decide (y.1.loc<=ae):=by unfold yB;rw [decide_eq_true (by omega:0<y.1.loc)];rfl
 show (if yB ae x.1.loc=yB ae y.1.loc then pq x.1.loc y.1.loc else pq y.1.loc x.1.loc)<0↔_;rw [D,E];by_cases h1:x.1.loc<=ae<;>by_cases A:y.1.loc<=ae
 ·rw [if_pos (by rw [decide_eq_true h1,decide_eq_true A]),zzg];omega
 ·rw [if_neg (by rw [decide_eq_true h1,decide_eq_false A];decide),zzg];omega
 ·rw [if_neg (by rw [decide_eq_false h1,decide_eq_true A];decide),zzg];omega
 rw [if_pos (by rw [decide_eq_false h1,decide_eq_false A]),zzg];omega
theorem ltF (ae:Int) (x y:ThP):ltOf (fun x y:ThP=>vj ae x.1 y.1) x y=false↔vu ae y.1 x.1:=by rw [<-Bool.not_eq_true,ltT];exact Classical.not_not
theorem swoT (ae:Int):SWO (ltOf fun x y:ThP=>vj ae x.1 y.1) where
 irrefl x:=by rw [ltF];unfold vu;omega
 trans x y z h1 h2:=by rw [ltT]at*;unfold vu at*;omega
 ntrans x y z h1 h2:=by rw [ltF]at*;unfold vu at*;omega
theorem zzh (x:ThP):(qf x).length=4:=rfl
theorem zzi [Inhabited ThP] (d:Array ThP):(flatK qf 4 d).toList=fu (d.toList.map (·.1)):=by
 have G:(fu (d.toList.map (·.1)))=d.toList.flatMap qf:=by rw [fu,List.flatMap_map];rfl
 rw [G];have h0:(d.toList.flatMap qf).length=d.size*4:=by
  have:∀l:List ThP,(l.flatMap qf).length=l.length*4:=by
   intro l;induction l with
   | nil=>rfl
   | cons x l ih=>rw [List.flatMap_cons,List.length_append,ih,zzh,List.length_cons];omega
  rw [this,Array.length_toList]
 refine List.ext_getElem? fun t=>?_;by_cases A:t<d.size*4
 ·have h1:=get_flatK qf 4 d t A;have E:t / 4<d.toList.length:=by rw [Array.length_toList];omega
  have D:=A5 (n:=4) qf d.toList (t / 4) (t % 4) (fun _ _=>rfl) E (by omega);rw [show t / 4*4+t % 4=t by omega]at D;rw [D,Array.getElem?_toList,Array.getElem?_eq_getElem (by rw [size_flatK];exact A)];rw [getElem!_pos _ t (by rw [size_flatK];exact A)]at h1;rw [h1];have e:d[t / 4]! =d.toList[t / 4]:=by rw [getElem!_pos d (t / 4) (by rwa [Array.length_toList]at E)];simp
  rw [e];have F:t % 4<(qf d.toList[t / 4]).length:=by rw [zzh];omega
  rw [getElem!_pos _ (t % 4) F,List.getElem?_eq_getElem F]
 rw [List.getElem?_eq_none (by rw [Array.length_toList,size_flatK];omega),List.getElem?_eq_none (by rw [h0];omega)]
theorem zzj (w:World) (g m:Nat) [Inhabited ThP] (d:Array ThP) (E:Array Obj) (k:Nat) (D:k<w.heap.size) (A:k≠g):(sortWorldK qf 4 w g 0 m d E).heap[k]? =w.heap[k]? :=by unfold sortWorldK putRowK putRow mapBlock grow Go.Sort.ahead;simp only [];rw [Array.getElem?_append_left (by simpa using D),Array.getElem?_modify,if_neg (fun e=>A e.symm)]
theorem zzk (w:World) (g m:Nat) [Inhabited ThP] (d:Array ThP) (F:Array Obj) {A:Array Value} {e:TypeId} (D:w.heap[g]? =some (.cells A e (0,0))):(sortWorldK qf 4 w g 0 m d F).heap[g]? =some (.cells (putCells id 0 (flatK qf 4 d) A) e (0,0)):=by have E:g<w.heap.size:=(Array.getElem?_eq_some_iff.1 D).1;unfold sortWorldK putRowK putRow mapBlock grow Go.Sort.ahead;simp only [];rw [Array.getElem?_append_left (by simpa using E),Array.getElem?_modify,if_pos rfl,D];rfl
theorem zzl (F:Array Value) (A:Array Value) (h:F.size<=A.size):(putCells id 0 F A).toList.take F.size=F.toList:=by
 refine List.ext_getElem? fun k=>?_;rw [List.getElem?_take];by_cases D:k<F.size
 ·rw [if_pos D,Array.getElem?_toList,Array.getElem?_toList,putCells,Array.getElem?_mapIdx,Array.getElem?_eq_getElem (by omega:k<A.size),Option.map_some,if_pos (by omega),Array.getElem?_eq_getElem D];simp [D]
 rw [if_neg D,Array.getElem?_toList,Array.getElem?_eq_none (by omega)]
theorem zzm (w:World) (g m:Nat) [Inhabited ThP] (d:Array ThP) (A:Array Obj) (B:Nat) (D:B<=w.heap.size) (E:B<=g):Below B w (sortWorldK qf 4 w g 0 m d A):=
 ⟨rfl,rfl,rfl,by unfold sortWorldK putRowK;rw [size_grow,size_putRow];exact Nat.le_add_right _ _,fun k F=>zzj w g m d A k (by omega) (by omega)⟩
theorem zzn (A:Value) (w:World):Calls prog 271 #[.nl,.i 0,.i 0,A] w fun r w'=>r=.returned (.tuple #[])/\w'=w:=by go_enter func271,ntmps271;go_wp2_with fail;refine wp_loop_rounds 1 ?_;rw [rounds_succ];go_wp2_with fail;go_end0;exact ⟨rfl,rfl⟩
theorem zzo (A:Int) (D:Value) (w:World):Calls prog 230 #[.nl,.i 0,.i 0,.i A,D] w fun r w'=>r=.returned (.tuple #[])/\w'=w:=by
 go_enter func230,ntmps230;go_wp2_with fail;refine wp_loop_rounds 1 ?_;rw [rounds_succ];go_wp2_with (go_at_call 271;refine (zzn _ _).mono ?_;rintro e w' ⟨rfl,rfl⟩)
 (try simp only [Exit.inBlock,Exit.then])
 refine bodyPost_ret (results_none rfl _ _ _) rfl ?_;exact ⟨rfl,rfl⟩
theorem zzp (A:Value) (w:World):Calls prog 193 #[.nl,A] w fun r w'=>r=.returned (.tuple #[])/\w'=w:=by have D:∀W,Calls prog 231 #[.int .u64 0] W fun e w'=>e=.returned (.i (Lib.bitLen 0:Nat))/\w'=W:=fun W=>Any.bits_Len (SlLaysF0.n15.bits (P:=prog) (ρ:=sw) { yp with }) 0 W (by omega) (by omega);go_enter func193,ntmps193;go_wp2_with (first | (go_at_call 231;refine (D _).mono ?_;rintro e w' ⟨rfl,rfl⟩) | (go_at_call 230;refine (zzo _ _ _).mono ?_;rintro e w' ⟨rfl,rfl⟩));go_end0;exact ⟨rfl,rfl⟩
theorem zzq (ae:Int) [Inhabited ThP] (d:Array ThP) (n:Nat) (G:d.size=n) (h:SortedIn (ltOf fun x y:ThP=>vj ae x.1 y.1) 0 n d):(d.toList.map (·.1)).Pairwise (vu ae):=by
 rw [List.pairwise_map,List.pairwise_iff_getElem];intro i j hi F D;have A:i<d.size:=by simpa using hi
 have E:j<d.size:=by simpa using F
 have:=(ltF ae _ _).1 (h i j (n0q _) D (by omega));rw [getElem!_pos d i A,getElem!_pos d j E]at this;simpa using this
theorem zzr (w:World) (A:Nat) (v:Value) (ts:List bk) (N:w.ownsRow A 101 4 v ts.length (fu ts)) (hp:∀t∈ts,1<=t.loc) (hl:ts.length<=1000000) (D:A<=w.heap.size) (O T:Nat) (ae:Int) (l1:O<A) (lT:T<A) (c0:w.cell? ⟨O,0,none⟩=some (.p T)) (c1:w.cell? ⟨T,1,none⟩=some (.i ae)):
 Calls prog 193 #[v,.func (.func 152) #[] #[.p O]] w fun r w'=>r=.returned (.tuple #[])/\∃ts':List bk,ts'.Perm ts/\ts'.Pairwise (vu ae)/\w'.ownsRow A 101 4 v ts'.length (fu ts')/\Below A w w':=by
 rcases N.2 with ⟨rfl,h0⟩ | ⟨g,cap,X,rfl,V,I,aa,ac,Y,ad⟩
 ·obtain rfl:ts= []:=List.length_eq_zero_iff.1 h0;exact (zzp _ w).mono fun r w' ⟨hr,hw⟩=>⟨hr,[],List.Perm.refl _,List.Pairwise.nil,hw ▸ N,hw ▸ br _ _⟩
 have ai:(ts.pmap (fun t h=>(⟨t,h⟩:ThP)) hp).map (·.1)=ts:=by rw [List.map_pmap];exact List.pmap_eq_self.2 fun _ _=>rfl
 haveI:=ThI;obtain ⟨d,hd⟩:∃d:Array ThP,d.toList.map (·.1)=ts:=⟨(ts.pmap (fun t h=>(⟨t,h⟩:ThP)) hp).toArray,ai⟩;have G:d.size=ts.length:=by rw [<-hd,List.length_map,Array.length_toList]
 have af:(flatK qf 4 d).toList=fu ts:=by rw [zzi,hd]
 have ah:(flatK qf 4 d).size=ts.length*4:=by rw [size_flatK,G]
 have hH:HoldsK qf 4 w g 0 d:=by
  intro j hj;rw [ah]at hj;have ak:j<X.size:=by omega
  have h1:X[j]? =(fu ts)[j]? :=by rw [<-ad,List.getElem?_take,if_pos hj,Array.getElem?_toList]
  rw [<-af,Array.getElem?_toList,Array.getElem?_eq_getElem (by omega:j<(flatK qf 4 d).size)]at h1;refine ⟨?_,?_⟩
  ·rw [Nat.zero_add,World.cell?,I,id,getElem!_pos _ j (by omega)];exact h1
  simp [World.frozen?,I]
 have Z:CmpLays prog 152 #[.p O] qf 4 (fun x y:ThP=>vj ae x.1 y.1) g 0 d.size w:=by intro m os dk _ x y;have hb:=zzm w g m dk os A D V;exact zzf _ O T ae (by have:=hb.size;omega) (by have:=hb.size;omega) ((hb.cell (p:=⟨O,0,none⟩) l1).trans c0) ((hb.cell (p:=⟨T,1,none⟩) lT).trans c1) x.1 y.1
 have L:=AnyQ.slices_SortFunc yp 4 isAgg101 sizeOf101 qf (fun _=>rfl) (fun x v hv=>by simp [qf]at hv;rcases hv with rfl | rfl | rfl | rfl<;>rfl) (fun x y:ThP=>vj ae x.1 y.1) (swoT ae) 152 #[.p O] g 0 cap d w (enters_of func152 (by kernel_rfl) rfl) Z hH (Array.getElem?_eq_some_iff.1 I).1 (by omega);rw [G]at L;refine Calls.mono L ?_;rintro r w' ⟨rfl,F,m,os,W,aj,rfl⟩;have E:F.size=ts.length:=W.1.trans G;have J:(F.toList.map (·.1)).length=ts.length:=by rw [List.length_map,Array.length_toList,E]
 refine ⟨rfl,F.toList.map (·.1),?_,zzq ae F _ E aj,⟨?_,.inr ⟨g,cap,_,?_,V,zzk w g m F os I,?_,ac,?_,?_⟩⟩,zzm w g m F os A D V⟩
 ·have h2:=W.2.2;rw [<-G,Array.extract_size]at h2;have:F.extract 0 d.size=F:=by rw [<-W.1,Array.extract_size]
  rw [this]at h2;have:=h2.map (·.1);rwa [hd]at this
 ·rw [J,<-zzi];simp [size_flatK,E]
 ·rw [J]
 ·rw [J];exact aa
 ·rw [putCells,Array.size_mapIdx];exact Y
 have h3:(flatK qf 4 F).size=(F.toList.map (·.1)).length*4:=by rw [size_flatK,J,E]
 rw [<-h3,zzl _ _ (by rw [size_flatK,E,Y];omega),zzi]
theorem zzs (w:World) (Z X G T:Nat) (all:List bk) (ae:Int) (ac:Z<w.heap.size) (hm:w.cell? ⟨Z,0,none⟩=some (.map (some X))) (W:jt w X all) (O:(all.map bk.loc).Nodup) (hN:all.length<=1000000) (V:∀t∈all,1<=t.loc) (l1:G<w.heap.size) (lT:T<w.heap.size) (I:w.cell? ⟨G,0,none⟩=some (.p T)) (J:w.cell? ⟨T,1,none⟩=some (.i ae)):
 Calls prog 150 #[.func (.func 194) #[] #[.p Z],.func (.func 152) #[] #[.p G]] w fun r w'=>∃(v:Value) (ts:List bk),r=.returned v/\ts.Perm all/\ts.Pairwise (vu ae)/\w'.ownsRow w.heap.size 101 4 v ts.length (fu ts)/\Bl w w':=by
 have HC:=ag (zzb w Z X all ac hm W O hN);have HP:=ag (And.intro V (And.intro I J));clear hm W O V I J;go_enter func150,ntmps150;go_wp2_with fail;refine HC.o.mono ?_;rintro r w1 ⟨v,ts,rfl,E,A,L⟩;obtain ⟨V,I,J⟩:=HP.o;have HS:=ag (zzr w1 w.heap.size v ts A (fun t ht=>V t (E.mem_iff.1 ht)) (by rw [E.length_eq];exact hN) L.size G T ae l1 lT ((L.cell (p:=⟨G,0,none⟩) l1).trans I) ((L.cell (p:=⟨T,1,none⟩) lT).trans J));have aa:=ag E;have HB:=ag L;obtain ⟨aV,cV,hv⟩:=kq A;subst hv;clear HC HP V I J E A L;go_wp2_with fail;refine HS.o.mono ?_;rintro r w2 ⟨rfl,ad,F,Y,D,N⟩;have HR:=ag (And.intro F (And.intro Y (And.intro D N)));clear HS F Y D N;go_wp2_with fail;go_ret;exact ⟨_,ad,rfl,HR.o.1.trans aa.o,HR.o.2.1,HR.o.2.2.1,HB.o.trans HR.o.2.2.2⟩
end Go.Proofs.YtjdnmblggdobgaaGreat
