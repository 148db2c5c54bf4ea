import Derived.Test.YtjdnmblggdobgaaGreatJHzEHzF
import Derived.RangeFuncNested
import Derived.RangeFuncBound
import Derived.RangeFuncCalls
import Derived.RangeFuncLeaves
import Derived.Sort.MapsRangeIn
import Derived.Shelf.Abstract
import Derived.Shelf.RegionOpen
import Derived.WalkKit
import Derived.OwnWalkIn
import Derived.TacticsInMore
import Derived.LoopNIn
import Derived.LoopIn
import Derived.Maps.AppendAt
import Derived.Test.YtjdnmblggdobgaaGreatJHmCBx
import Derived.Sort.Grow
import Derived.Test.YtjdnmblggdobgaaGreatChecked
import Derived.Shelf.SlGeneric
import Derived.Shelf.SlLaysF0
import Derived.Shelf.SlSortCmp.WholeK
set_option maxHeartbeats 4000000
set_option maxRecDepth 100000
namespace Go.Proofs.YtjdnmblggdobgaaGreat
open Go.RowKit Go.Maps Go.Shelf
attribute [local go_sem] Oper.semAt_some
theorem zy5 (F:Fence) (n:Nat) (hf:F.fn 194) (bc:F.round=none) (hn:1<=n) (l Bm X:Nat) (all:List bp) (J Jx:List bp->World->Prop)
 (hY:∀u x W,J u W->u.length<all.length->YieldAt F (n - 1) Tryz.prog l #[mx x] W fun e Z=>(e=.returned (.bool true)/\J (u++ [x]) Z/\KeepsWalks W Z)\/(e=.returned (.bool false)/\Jx (u++ [x]) Z))
 (W:World) (hJ:AbidesFrom W.heap.size J) (hm:W.cell? ⟨Bm,0,none⟩=some (.map (some X))) (bb:ja W X all) (V:(all.map bp.loc).Nodup) (h0:J [] W):
 CallsIn F n Tryz.prog 194 #[.func (.yield l) #[] #[],.pointer (some ⟨Bm,0,none⟩)] W fun e Z=>(∃v,e=.returned v)/\((∃xs,xs.Perm all/\J xs Z)\/(∃u,True/\Jx u Z)):=by
 obtain ⟨D,ao,hD⟩:=bb;have av:=ag hD;have ay:=ag V;have af:LeftT all all (Maps.has D):=⟨fun x=>by rw [hD.has,zn0],fun t h=>h,V⟩;have aw:=ag af;clear hD V af;refine callsIn_of_wp Tryz.func194 rfl hf ?_ bc;simp only [Tryz.ntmps194,List.size_toArray,List.length_cons,List.length_nil,Nat.reduceAdd,Nat.reduceSub,Array.replicate_succ,Array.replicate_zero,List.push_toArray,List.append_toArray,List.nil_append,List.cons_append]
 gi_wp2_with (first
  | (gi_at_range;refine wpListIn_range_own _ rfl _ 199 rfl 3 101 law3 Tryz.underlying199 _ X all.length D rfl ao ?_;intro w0 ap a5 bi)
  | gi_in)
 go_frame
 gi_loopw [4] (fun _ wr=>∃(left:Lit->Bool) (N:Nat) (u E:List bp),wr.ranges Tryz.prog 3 jt X W.heap.size all.length D left N/\Hid (LeftT all E left/\(u++E).Perm all)/\J u wr)
  (fun _ wr=>wr.rangeLeft X W.heap.size)
 case atStart=>exact ⟨_,_,[],all,ap,⟨aw.o,List.Perm.refl _⟩,hJ [] W w0 none h0 a5 (fun r e=>by cases e)⟩
 case round=>
  obtain ⟨left,N,u,E,G,HI,O⟩:=hrel
  gi_wp2_with (first
   | (gi_at_next;refine wpListIn_next_ranges _ rfl _ rfl 3 law3 jt (fun x:Int=>.int .i64 x) mx (fun key kl h=>by obtain ⟨x,e,-⟩:=Maps.keyOf_int_inv Tryz.underlying3 h;exact ⟨x,e⟩) zyk X W.heap.size all.length D left N rfl G ?_ ?_)
   | gi_in)
  ·intro bh a8;have A:E= []:=by
    cases hr:E with
    | nil=>rfl
    | cons t r=>
      have h1:=HI.o.1.is t.loc;rw [hr,a8]at h1;simp at h1
   have HP:=HI.o.2;rw [A,List.append_nil]at HP
   gi_wp2
   go_end0;exact ⟨⟨_,rfl⟩,.inl ⟨u,HP,O⟩⟩
  intro x c kl y1 y2 w1 ac aj an au ah I al ai bf a4;have a7:kl=jc x:=by obtain ⟨x',e1,e2,-⟩:=Maps.keyOf_int_inv Tryz.underlying3 aj;injection e1 with _ e1;rw [e2,<-e1];rfl
  subst a7;obtain ⟨pe,t,po,A,ar,aq,ak⟩:=zym HI.o.1 an;have a3:c=t:=by have h1:=av.o.at_ t.loc t (jy t) (zyl ay.o aq);rw [ar,ah]at h1;have h2:=zfd c;rw [au]at h2;have h3:y1=jy c:=congrArg Prod.fst (ojq h2);rw [h3]at h1;exact zfe h1
  subst a3;have ad:J u w1:=hJ _ wr w1 (some W.heap.size) O ai (fun r e=>by cases e;exact ⟨nlq _,G.iter_walk⟩);have a1:J u (w1.alloc (.cells #[.int .i64 c.loc,.int .i64 c.tag,.int .i64 c.len,.int .i64 c.hash] 101)):=hJ _ _ _ none ad (World.grownBy_alloc _ _ _) (fun r e=>by cases e);have Y:((u++ [c])++(pe++po)).Perm all:=by refine List.Perm.trans ?_ HI.o.2;rw [A,List.append_assoc];exact List.Perm.append_left u (List.perm_middle (a:=c) (l₁:=pe) (l₂:=po)).symm
  have a9:u.length<all.length:=by have:=Y.length_eq;simp only [List.length_append,List.length_cons,List.length_nil]at this;omega
  obtain ⟨fn,bg,assign,body,hy,hR⟩:=hY u c _ a1 a9;have az:Hid (LeftT all (pe++po) (fun z=>left z&& !z.sameKey (jc x))/\((u++ [c])++(pe++po)).Perm all):=⟨ak,Y⟩;have a0:=ag G;have aa:=ag I;have ax:=ag al;unfold mx at a4 hy ⊢;clear bf aj an au ah A ar ak Y aq G I al ad O ai
  gi_wp2
  refine hR.mono ?_;rintro e W3 (⟨rfl,a2,a6⟩ | ⟨rfl,ae⟩)
  ·have L:=aa.o.of_walks ((KeepsWalks.alloc _ _).trans a6)
   gi_wp2
   go_roundw
   case rel=>exact ⟨_,ac,u++ [c],pe++po,L,az,a2⟩
   case measure=>rw [L.left_eq,a0.o.left_eq];exact ax.o
  gi_wp2
  refine bodyPost_ret (results_none rfl _ _ _) rfl ?_;exact ⟨⟨_,rfl⟩,.inr ⟨u++ [c],trivial,ae⟩⟩
theorem zy6 (F:Fence) (n:Nat) (D:F.fn 151) (u:F.round=none) (A:Option Nat) (w:World):
 CallsIn F n Tryz.prog 151 #[.map A] w fun e w'=>e=.returned (.func (.func 194) #[] #[.pointer (some ⟨w.heap.size,0,none⟩)])/\w'=w.alloc (.cells #[.map A] 199):=by
 refine callsIn_of_wp Tryz.func151 rfl D ?_ u;simp only [Tryz.ntmps151,List.size_toArray,List.length_cons,List.length_nil,Nat.reduceAdd,Nat.reduceSub,Array.replicate_succ,Array.replicate_zero,List.push_toArray,List.append_toArray,List.nil_append,List.cons_append]
 gi_wp2
 go_ret;exact ⟨rfl,rfl⟩
theorem zy7 (F:Fence) (n:Nat) (hf:F.fn 194) (V:F.round=none) (hn:1<=n) (E X:Nat) (all:List bp) (w:World) (G:E<w.heap.size)
 (hm:w.cell? ⟨E,0,none⟩=some (.map (some X))) (O:ja w X all) (N:(all.map bp.loc).Nodup):
 SeqStopsK F n Tryz.prog 194 #[.pointer (some ⟨E,0,none⟩)] (fun t:bp=>#[mx t]) KeepsWalks (fun xs=>xs.Perm all) (fun _=>True) all.length w:=fun l J Jx W Y hJ _ hY h0=>by
 refine zy5 F n hf V hn l E X all J Jx hY W hJ ((Y.cell (p:=⟨E,0,none⟩) G).trans hm) ?_ N h0;obtain ⟨D,u,I⟩:=O;refine ⟨D,?_,I⟩;have L:=u.lt;obtain ⟨es,A,hb,Z,hs,I⟩:=u;exact ⟨es,A,(Y.block X L).trans hb,Z,hs,I⟩
theorem zy8 {W u:World} {row:Option Nat} {B:Nat} {A:Array Value} {t:TypeId} (h:W.heap[B]? =some (.cells A t (0,0))) (E:W.grownBy u row) (F:∀r,row=some r->∃o:Obj,W.heap[r]? =some o/\o.isCells=false):u.heap[B]? =some (.cells A t (0,0)):=by refine (E.block B (Array.getElem?_eq_some_iff.1 h).1 fun e=>?_).trans h;obtain ⟨o,D,hc⟩:=F B e.symm;rw [h]at D;cases D;cases hc
theorem zy9 (F:Fence) (n:Nat) (hf:F.fn 229) (ad:F.round=none) (hn:2<=n) (g:Nat) (lb:Array Value) (ak:F.fn g) (eg:∀args w,(callFunc g args).run Tryz.prog w=.ok (.enter g args) w)
 (S:List bp->Prop) (N:Nat) (hN:N<=1000000) (w:World) (ae:SeqStopsK F (n - 1) Tryz.prog g lb (fun t:bp=>#[mx t]) KeepsWalks S (fun _=>True) N w):
 CallsIn F n Tryz.prog 229 #[.slice none 0 0,.func (.func g) #[] lb] w fun e w'=>∃(v:Value) (ts:List bp),e=.returned v/\S ts/\w'.ownsRow w.heap.size 101 4 v ts.length (gc ts)/\Below w.heap.size w w':=by
 have h1:1<=n:=by omega
 obtain ⟨iT,an,ah,ai,aj⟩:=info_parts Tryz.infoThing;refine callsIn_of_wp_marks Tryz.func229 rfl hf ?_ ad;simp only [Tryz.ntmps229,List.size_toArray,List.length_cons,List.length_nil,Nat.reduceAdd,Nat.reduceSub,Array.replicate_succ,Array.replicate_zero,List.push_toArray,List.append_toArray,List.nil_append,List.cons_append]
 gi_wp2
 have bA:=Boxed.new w 182 (.slice none 0 0);have O:Below w.heap.size w (w.alloc (.cells #[.slice none 0 0] 182)):=(br _ w).alloc (nlq _) _;have aq:(w.alloc (.cells #[.slice none 0 0] 182)).heap.size=w.heap.size+1:=by simp
 obtain ⟨W0,aa⟩:∃W0,w.alloc (.cells #[.slice none 0 0] 182)=W0:=⟨_,rfl⟩;rw [aa]at bA O aq ⊢;clear aa;refine wpIn_rangeFunc_ownH ad h1 (gf:=g) (lb:=lb) rfl ak eg ae walksK_t walksK_b O (fun _=>rfl)
  (fun J W=>(∃v,Boxed W w.heap.size 182 v/\W.ownsRow w.heap.size 101 4 v J.length (gc J)/\True)/\Below w.heap.size w W)
  (fun _ _ _=>False)
  (OwnFrom.and (Own.from (holdsRow_own _ _ _ _ _ _ _ _) _) (ownFrom_below (nlq _) (by omega)))
  (fun _ _ _ _ _ hs _ _=>hs)
  ⟨⟨_,bA,⟨rfl,.inl ⟨rfl,rfl⟩⟩,trivial⟩,O⟩
  (fun x a' W=>∃Z,w.heap.size<Z/\W.heap[Z]? =some (.cells #[.int .i64 x.loc,.int .i64 x.tag,.int .i64 x.len,.int .i64 x.hash] 101 (0,0))/\a'={ tmps:=#[.slice none 0 0,.func (.func g) #[] lb,.pointer (some ⟨w.heap.size,0,none⟩),undef,.slice none 0 0,.pointer (some ⟨Z,0,none⟩),.func (.func g) #[] lb,mx x,undef,undef,undef,undef,undef],defers:=[] })
  (fun x a' _ X Y row hs hg hr=>by obtain ⟨Z,h1,h2,h3⟩:=hs;exact ⟨Z,h1,zy8 h2 hg (fun r e=>(hr r e).2),h3⟩)
  ?assign ?body ?done ?stop
 case assign=>
  rintro l J x W K ⟨⟨v,L,A,-⟩,E⟩ hK;unfold mx at hK ⊢
  gi_wp2
  exact hK _ _ ((KeepsOthers.alloc _ _).from _) (KeepsOthers.alloc _ _).walks ⟨⟨v,L.alloc _,A.alloc _,trivial⟩,E.alloc E.size _⟩ ⟨W.heap.size,L.lt,World.alloc_heap_new W _,rfl⟩
 case body=>
  rintro l J x a' W hl - ⟨⟨v,L,A,-⟩,E⟩ ⟨Z,av,bX,rfl⟩ ay;have cS:=L.cell;have p0:=ba bX 0 (x:=.int .i64 x.loc) rfl;have p1:=ba bX 1 (x:=.int .i64 x.tag) rfl;have p2:=ba bX 2 (x:=.int .i64 x.len) rfl;have p3:=ba bX 3 (x:=.int .i64 x.hash) rfl;have ap:=E.size;unfold mx
  gi_wp2_with (first
   | (gi_at_builtin
      refine wpListIn_append_own _ rfl _ _ 182 rfl w.heap.size 101 iT (.agg #[.int .i64 0,.int .i64 0,.int .i64 0,.int .i64 0]) 4 32 Tryz.underlying182 an ah ai aj rfl (by decide) _ _ _ rfl (A.alloc _) ⟨W.heap.size,0,none⟩ 1 1 [.int .i64 x.loc,.int .i64 x.tag,.int .i64 x.len,.int .i64 x.hash] rfl rfl (by intro j u G;match j,G with | 0,G=>simp at G;subst G;simp [Addr.add] | 1,G=>simp at G;subst G;simp [Addr.add] | 2,G=>simp at G;subst G;simp [Addr.add] | 3,G=>simp at G;subst G;simp [Addr.add]) (by intro u hu;simp at hu;rcases hu with rfl | rfl | rfl | rfl<;>rfl) (by unfold maxLen;omega) (by omega) (by simp;omega) ?_;intro v' w1 I V _;obtain ⟨g',au,rfl⟩:=ownsRow_succ I;obtain ⟨af,ar,ao,ac,al⟩:=L.appended (by decide) A ap (nlq _) I V;have aw:=af.cell;have ax:=af.frozen)
   | gi_in)
  refine ⟨ac.from _,ac.walks,⟨⟨_,ar,?_,trivial⟩,E.trans al⟩⟩;rw [gc,List.flatMap_append,List.length_append];exact ao
 case done=>
  rintro D ts W hD hS ⟨⟨v,L,A,-⟩,E⟩ hK;have cS:=L.cell
  gi_wp2
  refine ⟨by simp,.inl ⟨_,_,rfl,run_takeDeferred hK,?_⟩⟩;exact ⟨_,results_tmp rfl _ _ _,v,ts,rfl,hS,ownsRow_putObj A _ hK rfl,E.trans (belowK_b (w:=w) (nlq _) W D _ _ (by omega) hK rfl rfl)⟩
 case stop=>
  rintro D c J W _ _ h _;exact h.elim
theorem zza (F:Fence) (n:Nat) (V:F.fn 192) (G:F.fn 229) (u:F.round=none) (W:3<=n) (g:Nat) (lb:Array Value) (E:F.fn g) (I:∀args w,(callFunc g args).run Tryz.prog w=.ok (.enter g args) w)
 (S:List bp->Prop) (N:Nat) (J:N<=1000000) (w:World) (D:SeqStopsK F (n - 1 - 1) Tryz.prog g lb (fun t:bp=>#[mx t]) KeepsWalks S (fun _=>True) N w):
 CallsIn F n Tryz.prog 192 #[.func (.func g) #[] lb] w fun e w'=>∃(v:Value) (ts:List bp),e=.returned v/\S ts/\w'.ownsRow w.heap.size 101 4 v ts.length (gc ts)/\Below w.heap.size w w':=by
 have h1:1<=n:=by omega
 refine callsIn_of_wp Tryz.func192 rfl V ?_ u;simp only [Tryz.ntmps192,List.size_toArray,List.length_cons,List.length_nil,Nat.reduceAdd,Nat.reduceSub,Array.replicate_succ,Array.replicate_zero,List.push_toArray,List.append_toArray,List.nil_append,List.cons_append]
 gi_wp2_with (gi_at_call 229;refine (zy9 F (n - 1) G u (by omega) g lb E I S N J _ D).mono ?_;rintro e w' ⟨v,ts,rfl,L,A,O⟩)
 go_ret;exact ⟨v,ts,rfl,L,A,O⟩
theorem zzb (w:World) (u X:Nat) (all:List bp) (A:u<w.heap.size) (G:w.cell? ⟨u,0,none⟩=some (.map (some X))) (E:ja w X all) (D:(all.map bp.loc).Nodup) (F:all.length<=1000000):
 Calls Tryz.prog 192 #[.func (.func 194) #[] #[.pointer (some ⟨u,0,none⟩)]] w fun e w'=>∃(v:Value) (ts:List bp),e=.returned v/\ts.Perm all/\w'.ownsRow w.heap.size 101 4 v ts.length (gc ts)/\Below w.heap.size w w':=by
 refine (callsIn_wide (n:=3)).1 ?_;exact zza Fence.wide 3 trivial trivial rfl (by decide) _ _ trivial (enters_of Tryz.func194 (by kernel_rfl) rfl) (fun xs=>xs.Perm all) all.length F w (zy7 Fence.wide 1 trivial rfl (by decide) u X all w A G E D)
end Go.Proofs.YtjdnmblggdobgaaGreat
namespace Go.Proofs.YtjdnmblggdobgaaGreat
open Go.RowKit Go.Maps Go.Sort
theorem zzc (x:Int) (w:World):Calls Tryz.prog 195 #[.int .i64 x] w fun r w'=>r=.returned (.bool false)/\w'=w:=by go_enter Tryz.func195,Tryz.ntmps195;go_wp2_with fail;go_ret;exact ⟨by simp,rfl⟩
def nf (a b:Int):Int:=if a<b then -1 else if b<a then 1 else 0
theorem zzd (a b:Int) (w:World):Calls Tryz.prog 154 #[.int .i64 a,.int .i64 b] w fun r w'=>r=.returned (.int .i64 (nf a b))/\w'=w:=by
 by_cases h1:a<b
 ·have u:Hid (nf a b= -1):=by show nf a b=_;simp [nf,h1]
  go_enter Tryz.func154,Tryz.ntmps154;go_wp2_with (go_at_call 195;refine (zzc _ _).mono ?_;rintro r w' ⟨rfl,rfl⟩);go_ret;exact ⟨by rw [u.o];rfl,rfl⟩
 by_cases A:b<a
 ·have u:Hid (nf a b=1):=by show nf a b=_;simp [nf,h1,A]
  go_enter Tryz.func154,Tryz.ntmps154;go_wp2_with (go_at_call 195;refine (zzc _ _).mono ?_;rintro r w' ⟨rfl,rfl⟩);go_ret;exact ⟨by rw [u.o];rfl,rfl⟩
 have u:Hid (nf a b=0):=by show nf a b=_;simp [nf,h1,A]
 go_enter Tryz.func154,Tryz.ntmps154;go_wp2_with (go_at_call 195;refine (zzc _ _).mono ?_;rintro r w' ⟨rfl,rfl⟩);go_ret;exact ⟨by rw [u.o];rfl,rfl⟩
def yB (ae loc:Int):Bool:=decide (0<loc)&&decide (loc<=ae)
theorem zze (w:World) (T:Nat) (A u:Int) (E:w.cell? ⟨T,1,none⟩=some (.int .i64 A)):
 Calls Tryz.prog 153 #[.pointer (some ⟨T,0,none⟩),.int .i64 u] w fun r w'=>r=.returned (.bool (yB A u))/\w'=w:=by
 by_cases h1:0<u
 ·have D:Hid (yB A u=decide (u<=A)):=by show yB A u=_;simp [yB,h1]
  go_enter Tryz.func153,Tryz.ntmps153;go_wp2_with fail;go_ret;exact ⟨by rw [D.o];rfl,rfl⟩
 have D:Hid (yB A u=false):=by show yB A u=_;simp [yB,h1]
 go_enter Tryz.func153,Tryz.ntmps153;go_wp2_with fail;go_ret;exact ⟨by rw [D.o];rfl,rfl⟩
def cmpT (ae:Int) (x y:bp):Int:=if yB ae x.loc=yB ae y.loc then nf x.loc y.loc else nf y.loc x.loc
theorem zzf (W:World) (O T:Nat) (A:Int) (ac:O<W.heap.size) (ad:T<W.heap.size) (c0:W.cell? ⟨O,0,none⟩=some (.pointer (some ⟨T,0,none⟩))) (c1:W.cell? ⟨T,1,none⟩=some (.int .i64 A)) (x y:bp):
 Calls Tryz.prog 152 #[mx x,mx y,.pointer (some ⟨O,0,none⟩)] W fun r w'=>r=.returned (.int .i64 (cmpT A x y))/\∃q os',w'=grow (W.drewN q) os':=by
 have HY:Hid (∀(w':World) (E:Int),w'.cell? ⟨T,1,none⟩=some (.int .i64 A)->Calls Tryz.prog 153 #[.pointer (some ⟨T,0,none⟩),.int .i64 E] w' fun r aa=>r=.returned (.bool (yB A E))/\aa=w'):=fun w' E u=>zze w' T A E u;obtain ⟨W0,Z,hB,hs,kx,ky⟩:=nk W #[.int .i64 x.loc,.int .i64 x.tag,.int .i64 x.len,.int .i64 x.hash] #[.int .i64 y.loc,.int .i64 y.tag,.int .i64 y.len,.int .i64 y.hash] 101 101;have HG:Hid (∀q,∃q' os',W0.drewN q=grow (W.drewN q') os'):=fun q=>⟨q,_,by rw [Z,alloc_eq_grow,alloc_eq_grow,grow_grow];rfl⟩;have d0:=(hB.cell (p:=⟨O,0,none⟩) ac).trans c0;have d1:=(hB.cell (p:=⟨T,1,none⟩) ad).trans c1;have px:=ba kx 0 (x:=.int .i64 x.loc) rfl;have py:=ba ky 0 (x:=.int .i64 y.loc) rfl;have F:=ag Z;have G:Hid (∀n E b,yB A E=b->Calls Tryz.prog 153 #[.pointer (some ⟨T,0,none⟩),.int .i64 E] (W0.drewN n) fun r aa=>r=.returned (.bool b)/\aa=W0.drewN n):=fun n E b e=>e ▸ HY.o _ _ d1;have D:Hid (cmpT A x y=if yB A x.loc=yB A y.loc then nf x.loc y.loc else nf y.loc x.loc):=rfl;unfold mx;generalize cmpT A x y=res at D ⊢;clear c0 c1 hB kx ky Z hs HY;have I:yB A x.loc=false->yB A y.loc=false->Calls Tryz.prog 152 #[.agg #[.int .i64 x.loc,.int .i64 x.tag,.int .i64 x.len,.int .i64 x.hash],.agg #[.int .i64 y.loc,.int .i64 y.tag,.int .i64 y.len,.int .i64 y.hash],.pointer (some ⟨O,0,none⟩)] W fun r w'=>r=.returned (.int .i64 res)/\∃q os',w'=grow (W.drewN q) os':=by
  intro h1 u;have V:Hid (res=nf x.loc y.loc):=by have:=D.o;rw [h1,u]at this;exact this
  have X:=ag h1;have Y:=ag u;clear h1 u D;go_enter Tryz.func152,Tryz.ntmps152;go_wp2_with fail;rw [<-F.o];go_quiet ((go_at_call 153;exact Calls.quiet_of_same (G.o _ _ _ (by first | exact X.o | exact Y.o))));go_wp2_with (go_at_call 154;refine (zzd _ _ _).mono ?_;rintro r w' ⟨rfl,rfl⟩);go_ret;exact ⟨by rw [V.o];rfl,HG.o _⟩
 have J:yB A x.loc=false->yB A y.loc=true->Calls Tryz.prog 152 #[.agg #[.int .i64 x.loc,.int .i64 x.tag,.int .i64 x.len,.int .i64 x.hash],.agg #[.int .i64 y.loc,.int .i64 y.tag,.int .i64 y.len,.int .i64 y.hash],.pointer (some ⟨O,0,none⟩)] W fun r w'=>r=.returned (.int .i64 res)/\∃q os',w'=grow (W.drewN q) os':=by
  intro h1 u;have V:Hid (res=nf y.loc x.loc):=by have:=D.o;rw [h1,u]at this;exact this
  have X:=ag h1;have Y:=ag u;clear h1 u D;go_enter Tryz.func152,Tryz.ntmps152;go_wp2_with fail;rw [<-F.o];go_quiet ((go_at_call 153;exact Calls.quiet_of_same (G.o _ _ _ (by first | exact X.o | exact Y.o))));go_wp2_with (go_at_call 154;refine (zzd _ _ _).mono ?_;rintro r w' ⟨rfl,rfl⟩);go_ret;exact ⟨by rw [V.o];rfl,HG.o _⟩
 have L:yB A x.loc=true->yB A y.loc=false->Calls Tryz.prog 152 #[.agg #[.int .i64 x.loc,.int .i64 x.tag,.int .i64 x.len,.int .i64 x.hash],.agg #[.int .i64 y.loc,.int .i64 y.tag,.int .i64 y.len,.int .i64 y.hash],.pointer (some ⟨O,0,none⟩)] W fun r w'=>r=.returned (.int .i64 res)/\∃q os',w'=grow (W.drewN q) os':=by
  intro h1 u;have V:Hid (res=nf y.loc x.loc):=by have:=D.o;rw [h1,u]at this;exact this
  have X:=ag h1;have Y:=ag u;clear h1 u D;go_enter Tryz.func152,Tryz.ntmps152;go_wp2_with fail;rw [<-F.o];go_quiet ((go_at_call 153;exact Calls.quiet_of_same (G.o _ _ _ (by first | exact X.o | exact Y.o))));go_wp2_with (go_at_call 154;refine (zzd _ _ _).mono ?_;rintro r w' ⟨rfl,rfl⟩);go_ret;exact ⟨by rw [V.o];rfl,HG.o _⟩
 have N:yB A x.loc=true->yB A y.loc=true->Calls Tryz.prog 152 #[.agg #[.int .i64 x.loc,.int .i64 x.tag,.int .i64 x.len,.int .i64 x.hash],.agg #[.int .i64 y.loc,.int .i64 y.tag,.int .i64 y.len,.int .i64 y.hash],.pointer (some ⟨O,0,none⟩)] W fun r w'=>r=.returned (.int .i64 res)/\∃q os',w'=grow (W.drewN q) os':=by
  intro h1 u;have V:Hid (res=nf x.loc y.loc):=by have:=D.o;rw [h1,u]at this;exact this
  have X:=ag h1;have Y:=ag u;clear h1 u D;go_enter Tryz.func152,Tryz.ntmps152;go_wp2_with fail;rw [<-F.o];go_quiet ((go_at_call 153;exact Calls.quiet_of_same (G.o _ _ _ (by first | exact X.o | exact Y.o))));go_wp2_with (go_at_call 154;refine (zzd _ _ _).mono ?_;rintro r w' ⟨rfl,rfl⟩);go_ret;exact ⟨by rw [V.o];rfl,HG.o _⟩
 cases h1:yB A x.loc<;>cases u:yB A y.loc
 ·exact I h1 u
 ·exact J h1 u
 ·exact L h1 u
 exact N h1 u
end Go.Proofs.YtjdnmblggdobgaaGreat
namespace Go.Proofs.YtjdnmblggdobgaaGreat
open Go.Shelf
def Tryz.laysSort_ren:Go.Shelf.Ren:=⟨fun | 6=>193 | 15=>231 | 14=>230 | 28=>279 | 29=>280 | 20=>271 | 21=>272 | 22=>273 | 23=>274 | 24=>275 | 25=>276 | 26=>277 | 27=>278 | 46=>306 | 47=>307 | 48=>308 | 49=>309 | 50=>310 | 57=>328 | n=>n,fun | 22=>182 | 24=>101 | 25=>207 | 3=>3 | 39=>254 | 0=>0 | 53=>301 | 55=>303 | 4=>4 | 46=>295 | 45=>294 | 50=>145 | 5=>5 | 9=>9 | 66=>309 | 70=>234 | 76=>322 | 77=>323 | n=>n,fun | n=>n⟩
theorem Tryz.laysSort:Go.Proofs.SlLaysF0.n6 Tryz.prog Tryz.laysSort_ren:={
 mixed:=by kernel_rfl
 f6:=⟨Tryz.f193.name,by kernel_rfl,Tryz.func193.trans (congrArg some (by kernel_rfl))⟩
 f14:=⟨Tryz.f230.name,by kernel_rfl,Tryz.func230.trans (congrArg some (by kernel_rfl))⟩
 f15:=Tryz.func231.trans (congrArg some (by kernel_rfl))
 f20:=⟨Tryz.f271.name,by kernel_rfl,Tryz.func271.trans (congrArg some (by kernel_rfl))⟩
 f21:=⟨Tryz.f272.name,by kernel_rfl,Tryz.func272.trans (congrArg some (by kernel_rfl))⟩
 f22:=⟨Tryz.f273.name,by kernel_rfl,Tryz.func273.trans (congrArg some (by kernel_rfl))⟩
 f23:=⟨Tryz.f274.name,by kernel_rfl,Tryz.func274.trans (congrArg some (by kernel_rfl))⟩
 f24:=⟨Tryz.f275.name,by kernel_rfl,Tryz.func275.trans (congrArg some (by kernel_rfl))⟩
 f25:=⟨Tryz.f276.name,by kernel_rfl,Tryz.func276.trans (congrArg some (by kernel_rfl))⟩
 f26:=⟨Tryz.f277.name,by kernel_rfl,Tryz.func277.trans (congrArg some (by kernel_rfl))⟩
 f27:=⟨Tryz.f278.name,by kernel_rfl,Tryz.func278.trans (congrArg some (by kernel_rfl))⟩
 f28:=Tryz.func279.trans (congrArg some (by kernel_rfl))
 f29:=Tryz.func280.trans (congrArg some (by kernel_rfl))
 f46:=⟨Tryz.f306.name,by kernel_rfl,Tryz.func306.trans (congrArg some (by kernel_rfl))⟩
 f47:=Tryz.func307.trans (congrArg some (by kernel_rfl))
 f48:=Tryz.func308.trans (congrArg some (by kernel_rfl))
 f49:=⟨Tryz.f309.name,by kernel_rfl,Tryz.func309.trans (congrArg some (by kernel_rfl))⟩
 f50:=⟨Tryz.f310.name,by kernel_rfl,Tryz.func310.trans (congrArg some (by kernel_rfl))⟩
 f57:=⟨Tryz.f328.name,by kernel_rfl,Tryz.func328.trans (congrArg some (by kernel_rfl))⟩
 t0:=Tryz.underlying0
 a0:=Tryz.isAgg0
 z0:=Tryz.sizeOf0
 v0:=Tryz.zeroValue0
 t3:=Tryz.underlying3
 a3:=Tryz.isAgg3
 z3:=Tryz.sizeOf3
 v3:=Tryz.zeroValue3
 t4:=Tryz.underlying4
 a4:=Tryz.isAgg4
 z4:=Tryz.sizeOf4
 v4:=Tryz.zeroValue4
 t5:=Tryz.underlying5
 a5:=Tryz.isAgg5
 z5:=Tryz.sizeOf5
 v5:=Tryz.zeroValue5
 t9:=Tryz.underlying9
 a9:=Tryz.isAgg9
 z9:=Tryz.sizeOf9
 v9:=Tryz.zeroValue9
 t22:=Tryz.underlying182
 a22:=Tryz.isAgg182
 z22:=Tryz.sizeOf182
 v22:=Tryz.zeroValue182
 t25:=Tryz.underlying207
 a25:=Tryz.isAgg207
 z25:=Tryz.sizeOf207
 v25:=Tryz.zeroValue207
 t39:=Tryz.underlying254
 a39:=Tryz.isAgg254
 z39:=Tryz.sizeOf254
 v39:=Tryz.zeroValue254
 t45:=Tryz.underlying294
 a45:=Tryz.isAgg294
 z45:=Tryz.sizeOf294
 v45:=Tryz.zeroValue294
 t46:=Tryz.underlying295
 a46:=Tryz.isAgg295
 z46:=Tryz.sizeOf295
 v46:=Tryz.zeroValue295
 t50:=Tryz.underlying145
 a50:=Tryz.isAgg145
 z50:=Tryz.sizeOf145
 v50:=Tryz.zeroValue145
 t53:=Tryz.underlying301
 a53:=Tryz.isAgg301
 z53:=Tryz.sizeOf301
 v53:=Tryz.zeroValue301
 t55:=Tryz.underlying303
 a55:=Tryz.isAgg303
 z55:=Tryz.sizeOf303
 v55:=Tryz.zeroValue303
 t66:=Tryz.underlying309
 a66:=Tryz.isAgg309
 z66:=Tryz.sizeOf309
 v66:=Tryz.zeroValue309
 t70:=Tryz.underlying234
 a70:=Tryz.isAgg234
 z70:=Tryz.sizeOf234
 v70:=Tryz.zeroValue234
 t76:=Tryz.underlying322
 a76:=Tryz.isAgg322
 z76:=Tryz.sizeOf322
 v76:=Tryz.zeroValue322
 t77:=Tryz.underlying323
 a77:=Tryz.isAgg323
 z77:=Tryz.sizeOf323
 v77:=Tryz.zeroValue323 }
end Go.Proofs.YtjdnmblggdobgaaGreat
namespace Go.Proofs.YtjdnmblggdobgaaGreat
open Go.RowKit Go.Maps Go.Sort Go.Shelf
abbrev ThP:={ t:bp // 1<=t.loc }
abbrev ThI:Inhabited ThP:=⟨⟨⟨1,0,0,0⟩,by decide⟩⟩
def nw (t:ThP):List Value:=[.int .i64 t.1.loc,.int .i64 t.1.tag,.int .i64 t.1.len,.int .i64 t.1.hash]
def leT (ae:Int) (x y:bp):Prop:=(y.loc<=ae/\(ae<x.loc\/x.loc<=y.loc))\/(ae<x.loc/\x.loc<=y.loc)
theorem zzg (a b:Int):nf a b<0↔a<b:=by
 unfold nf;split
 ·simp [*]
 split<;>simp<;>omega
theorem ltT (u:Int) (x y:ThP):ltOf (fun x y:ThP=>cmpT u x.1 y.1) x y=true↔¬leT u y.1 x.1:=by
 have F:=x.2;have G:=y.2;unfold ltOf cmpT leT;rw [decide_eq_true_iff];have D:yB u x.1.loc=decide (x.1.loc<=u):=by unfold yB;rw [decide_eq_true (by omega:0<x.1.loc)];rfl
 have E:yB u y.1.loc=decide (y.1.loc<=u):=by unfold yB;rw [decide_eq_true (by omega:0<y.1.loc)];rfl
 show (if yB u x.1.loc=yB u y.1.loc then nf x.1.loc y.1.loc else nf y.1.loc x.1.loc)<0↔_;rw [D,E];by_cases h1:x.1.loc<=u<;>by_cases A:y.1.loc<=u
 ·rw [if_pos (by rw [decide_eq_true h1,decide_eq_true A]),zzg];omega
 ·rw [if_neg (by rw [decide_eq_true h1,decide_eq_false A];decide),zzg];omega
 ·rw [if_neg (by rw [decide_eq_false h1,decide_eq_true A];decide),zzg];omega
 rw [if_pos (by rw [decide_eq_false h1,decide_eq_false A]),zzg];omega
theorem ltF (u:Int) (x y:ThP):ltOf (fun x y:ThP=>cmpT u x.1 y.1) x y=false↔leT u y.1 x.1:=by rw [<-Bool.not_eq_true,ltT];exact Classical.not_not
theorem swoT (u:Int):SWO (ltOf fun x y:ThP=>cmpT u x.1 y.1) where
 irrefl x:=by rw [ltF];unfold leT;omega
 trans x y z h1 h2:=by rw [ltT]at*;unfold leT at*;omega
 ntrans x y z h1 h2:=by rw [ltF]at*;unfold leT at*;omega
theorem zzh (x:ThP):(nw x).length=4:=rfl
theorem zzi [Inhabited ThP] (d:Array ThP):(flatK nw 4 d).toList=gc (d.toList.map (·.1)):=by
 have F:(gc (d.toList.map (·.1)))=d.toList.flatMap nw:=by rw [gc,List.flatMap_map];rfl
 rw [F];have h0:(d.toList.flatMap nw).length=d.size*4:=by
  have:∀l:List ThP,(l.flatMap nw).length=l.length*4:=by
   intro l;induction l with
   | nil=>rfl
   | cons x l ih=>rw [List.flatMap_cons,List.length_append,ih,zzh,List.length_cons];omega
  rw [this,Array.length_toList]
 refine List.ext_getElem? fun t=>?_;by_cases u:t<d.size*4
 ·have h1:=get_flatK nw 4 d t u;have D:t / 4<d.toList.length:=by rw [Array.length_toList];omega
  have A:=ze3 (n:=4) nw d.toList (t / 4) (t % 4) (fun _ _=>rfl) D (by omega);rw [show t / 4*4+t % 4=t by omega]at A;rw [A,Array.getElem?_toList,Array.getElem?_eq_getElem (by rw [size_flatK];exact u)];rw [getElem!_pos _ t (by rw [size_flatK];exact u)]at h1;rw [h1];have e:d[t / 4]! =d.toList[t / 4]:=by rw [getElem!_pos d (t / 4) (by rwa [Array.length_toList]at D)];simp
  rw [e];have E:t % 4<(nw d.toList[t / 4]).length:=by rw [zzh];omega
  rw [getElem!_pos _ (t % 4) E,List.getElem?_eq_getElem E]
 rw [List.getElem?_eq_none (by rw [Array.length_toList,size_flatK];omega),List.getElem?_eq_none (by rw [h0];omega)]
theorem zzj (w:World) (g m:Nat) [Inhabited ThP] (d:Array ThP) (D:Array Obj) (k:Nat) (A:k<w.heap.size) (u:k≠g):(sortWorldK nw 4 w g 0 m d D).heap[k]? =w.heap[k]? :=by unfold sortWorldK putRowK putRow mapBlock grow Go.Sort.ahead;simp only [];rw [Array.getElem?_append_left (by simpa using A),Array.getElem?_modify,if_neg (fun e=>u e.symm)]
theorem zzk (w:World) (g m:Nat) [Inhabited ThP] (d:Array ThP) (E:Array Obj) {u:Array Value} {e:TypeId} (A:w.heap[g]? =some (.cells u e (0,0))):(sortWorldK nw 4 w g 0 m d E).heap[g]? =some (.cells (putCells id 0 (flatK nw 4 d) u) e (0,0)):=by have D:g<w.heap.size:=(Array.getElem?_eq_some_iff.1 A).1;unfold sortWorldK putRowK putRow mapBlock grow Go.Sort.ahead;simp only [];rw [Array.getElem?_append_left (by simpa using D),Array.getElem?_modify,if_pos rfl,A];rfl
theorem zzl (F:Array Value) (u:Array Value) (h:F.size<=u.size):(putCells id 0 F u).toList.take F.size=F.toList:=by
 refine List.ext_getElem? fun k=>?_;rw [List.getElem?_take];by_cases A:k<F.size
 ·rw [if_pos A,Array.getElem?_toList,Array.getElem?_toList,putCells,Array.getElem?_mapIdx,Array.getElem?_eq_getElem (by omega:k<u.size),Option.map_some,if_pos (by omega),Array.getElem?_eq_getElem A];simp [A]
 rw [if_neg A,Array.getElem?_toList,Array.getElem?_eq_none (by omega)]
theorem zzm (w:World) (g m:Nat) [Inhabited ThP] (d:Array ThP) (u:Array Obj) (B:Nat) (A:B<=w.heap.size) (D:B<=g):Below B w (sortWorldK nw 4 w g 0 m d u):=
 ⟨rfl,rfl,rfl,by unfold sortWorldK putRowK;rw [size_grow,size_putRow];exact Nat.le_add_right _ _,fun k E=>zzj w g m d u k (by omega) (by omega)⟩
theorem zzn (u:Value) (w:World):Calls Tryz.prog 271 #[.slice none 0 0,.int .i64 0,.int .i64 0,u] w fun r w'=>r=.returned (.tuple #[])/\w'=w:=by go_enter Tryz.func271,Tryz.ntmps271;go_wp2_with fail;refine wp_loop_rounds 1 ?_;rw [rounds_succ];go_wp2_with fail;go_end0;exact ⟨rfl,rfl⟩
theorem zzo (u:Int) (A:Value) (w:World):Calls Tryz.prog 230 #[.slice none 0 0,.int .i64 0,.int .i64 0,.int .i64 u,A] w fun r w'=>r=.returned (.tuple #[])/\w'=w:=by
 go_enter Tryz.func230,Tryz.ntmps230;go_wp2_with fail;refine wp_loop_rounds 1 ?_;rw [rounds_succ];go_wp2_with (go_at_call 271;refine (zzn _ _).mono ?_;rintro e w' ⟨rfl,rfl⟩)
 (try simp only [Exit.inBlock,Exit.then])
 refine bodyPost_ret (results_none rfl _ _ _) rfl ?_;exact ⟨rfl,rfl⟩
theorem zzp (u:Value) (w:World):Calls Tryz.prog 193 #[.slice none 0 0,u] w fun r w'=>r=.returned (.tuple #[])/\w'=w:=by have A:∀W,Calls Tryz.prog 231 #[.int .u64 0] W fun e w'=>e=.returned (.int .i64 (Lib.bitLen 0:Nat))/\w'=W:=fun W=>Any.bits_Len (SlLaysF0.n15.bits (P:=Tryz.prog) (ρ:=Tryz.laysSort_ren) { Tryz.laysSort with }) 0 W (by omega) (by omega);go_enter Tryz.func193,Tryz.ntmps193;go_wp2_with (first | (go_at_call 231;refine (A _).mono ?_;rintro e w' ⟨rfl,rfl⟩) | (go_at_call 230;refine (zzo _ _ _).mono ?_;rintro e w' ⟨rfl,rfl⟩));go_end0;exact ⟨rfl,rfl⟩
theorem zzq (u:Int) [Inhabited ThP] (d:Array ThP) (n:Nat) (G:d.size=n) (h:SortedIn (ltOf fun x y:ThP=>cmpT u x.1 y.1) 0 n d):(d.toList.map (·.1)).Pairwise (leT u):=by
 rw [List.pairwise_map,List.pairwise_iff_getElem];intro i j hi F D;have A:i<d.size:=by simpa using hi
 have E:j<d.size:=by simpa using F
 have:=(ltF u _ _).1 (h i j (n0q _) D (by omega));rw [getElem!_pos d i A,getElem!_pos d j E]at this;simpa using this
theorem zzr (w:World) (u:Nat) (v:Value) (ts:List bp) (L:w.ownsRow u 101 4 v ts.length (gc ts)) (hp:∀t∈ts,1<=t.loc) (hl:ts.length<=1000000) (A:u<=w.heap.size) (N T:Nat) (O:Int) (l1:N<u) (lT:T<u) (c0:w.cell? ⟨N,0,none⟩=some (.pointer (some ⟨T,0,none⟩))) (c1:w.cell? ⟨T,1,none⟩=some (.int .i64 O)):
 Calls Tryz.prog 193 #[v,.func (.func 152) #[] #[.pointer (some ⟨N,0,none⟩)]] w fun r w'=>r=.returned (.tuple #[])/\∃ts':List bp,ts'.Perm ts/\ts'.Pairwise (leT O)/\w'.ownsRow u 101 4 v ts'.length (gc ts')/\Below u w w':=by
 rcases L.2 with ⟨rfl,h0⟩ | ⟨g,cap,X,rfl,V,G,aa,ac,Y,ad⟩
 ·obtain rfl:ts= []:=List.length_eq_zero_iff.1 h0;exact (zzp _ w).mono fun r w' ⟨hr,hw⟩=>⟨hr,[],List.Perm.refl _,List.Pairwise.nil,hw ▸ L,hw ▸ br _ _⟩
 have ai:(ts.pmap (fun t h=>(⟨t,h⟩:ThP)) hp).map (·.1)=ts:=by rw [List.map_pmap];exact List.pmap_eq_self.2 fun _ _=>rfl
 haveI:=ThI;obtain ⟨d,hd⟩:∃d:Array ThP,d.toList.map (·.1)=ts:=⟨(ts.pmap (fun t h=>(⟨t,h⟩:ThP)) hp).toArray,ai⟩;have F:d.size=ts.length:=by rw [<-hd,List.length_map,Array.length_toList]
 have af:(flatK nw 4 d).toList=gc ts:=by rw [zzi,hd]
 have ah:(flatK nw 4 d).size=ts.length*4:=by rw [size_flatK,F]
 have hH:HoldsK nw 4 w g 0 d:=by
  intro j hj;rw [ah]at hj;have ak:j<X.size:=by omega
  have h1:X[j]? =(gc ts)[j]? :=by rw [<-ad,List.getElem?_take,if_pos hj,Array.getElem?_toList]
  rw [<-af,Array.getElem?_toList,Array.getElem?_eq_getElem (by omega:j<(flatK nw 4 d).size)]at h1;refine ⟨?_,?_⟩
  ·rw [Nat.zero_add,World.cell?,G,id,getElem!_pos _ j (by omega)];exact h1
  simp [World.frozen?,G]
 have Z:CmpLays Tryz.prog 152 #[.pointer (some ⟨N,0,none⟩)] nw 4 (fun x y:ThP=>cmpT O x.1 y.1) g 0 d.size w:=by intro m os dk _ x y;have hb:=zzm w g m dk os u A V;exact zzf _ N T O (by have:=hb.size;omega) (by have:=hb.size;omega) ((hb.cell (p:=⟨N,0,none⟩) l1).trans c0) ((hb.cell (p:=⟨T,1,none⟩) lT).trans c1) x.1 y.1
 have J:=AnyQ.slices_SortFunc Tryz.laysSort 4 Tryz.isAgg101 Tryz.sizeOf101 nw (fun _=>rfl) (fun x v hv=>by simp [nw]at hv;rcases hv with rfl | rfl | rfl | rfl<;>rfl) (fun x y:ThP=>cmpT O x.1 y.1) (swoT O) 152 #[.pointer (some ⟨N,0,none⟩)] g 0 cap d w (enters_of Tryz.func152 (by kernel_rfl) rfl) Z hH (Array.getElem?_eq_some_iff.1 G).1 (by omega);rw [F]at J;refine Calls.mono J ?_;rintro r w' ⟨rfl,E,m,os,W,aj,rfl⟩;have D:E.size=ts.length:=W.1.trans F;have I:(E.toList.map (·.1)).length=ts.length:=by rw [List.length_map,Array.length_toList,D]
 refine ⟨rfl,E.toList.map (·.1),?_,zzq O E _ D aj,⟨?_,.inr ⟨g,cap,_,?_,V,zzk w g m E os G,?_,ac,?_,?_⟩⟩,zzm w g m E os u A V⟩
 ·have h2:=W.2.2;rw [<-F,Array.extract_size]at h2;have:E.extract 0 d.size=E:=by rw [<-W.1,Array.extract_size]
  rw [this]at h2;have:=h2.map (·.1);rwa [hd]at this
 ·rw [I,<-zzi];simp [size_flatK,D]
 ·rw [I]
 ·rw [I];exact aa
 ·rw [putCells,Array.size_mapIdx];exact Y
 have h3:(flatK nw 4 E).size=(E.toList.map (·.1)).length*4:=by rw [size_flatK,I,D]
 rw [<-h3,zzl _ _ (by rw [size_flatK,D,Y];omega),zzi]
theorem zzs (w:World) (Y X F T:Nat) (all:List bp) (ae:Int) (ac:Y<w.heap.size) (hm:w.cell? ⟨Y,0,none⟩=some (.map (some X))) (V:ja w X all) (N:(all.map bp.loc).Nodup) (hN:all.length<=1000000) (O:∀t∈all,1<=t.loc) (l1:F<w.heap.size) (lT:T<w.heap.size) (G:w.cell? ⟨F,0,none⟩=some (.pointer (some ⟨T,0,none⟩))) (I:w.cell? ⟨T,1,none⟩=some (.int .i64 ae)):
 Calls Tryz.prog 150 #[.func (.func 194) #[] #[.pointer (some ⟨Y,0,none⟩)],.func (.func 152) #[] #[.pointer (some ⟨F,0,none⟩)]] w fun r w'=>∃(v:Value) (ts:List bp),r=.returned v/\ts.Perm all/\ts.Pairwise (leT ae)/\w'.ownsRow w.heap.size 101 4 v ts.length (gc ts)/\Below w.heap.size w w':=by
 have HC:=ag (zzb w Y X all ac hm V N hN);have HP:=ag (And.intro O (And.intro G I));clear hm V N O G I;go_enter Tryz.func150,Tryz.ntmps150;go_wp2_with fail;refine HC.o.mono ?_;rintro r w1 ⟨v,ts,rfl,D,u,J⟩;obtain ⟨O,G,I⟩:=HP.o;have HS:=ag (zzr w1 w.heap.size v ts u (fun t ht=>O t (D.mem_iff.1 ht)) (by rw [D.length_eq];exact hN) J.size F T ae l1 lT ((J.cell (p:=⟨F,0,none⟩) l1).trans G) ((J.cell (p:=⟨T,1,none⟩) lT).trans I));have aa:=ag D;have HB:=ag J;obtain ⟨aV,cV,hv⟩:=kh u;subst hv;clear HC HP O G I D u J;go_wp2_with fail;refine HS.o.mono ?_;rintro r w2 ⟨rfl,ad,E,W,A,L⟩;have Z:=ag (And.intro E (And.intro W (And.intro A L)));clear HS E W A L;go_wp2_with fail;go_ret;exact ⟨_,ad,rfl,Z.o.1.trans aa.o,Z.o.2.1,Z.o.2.2.1,HB.o.trans Z.o.2.2.2⟩
end Go.Proofs.YtjdnmblggdobgaaGreat
