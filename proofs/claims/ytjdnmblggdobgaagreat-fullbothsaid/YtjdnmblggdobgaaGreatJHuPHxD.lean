import Derived.Test.YtjdnmblggdobgaaGreatJHzTHxE
import Derived.Test.YtjdnmblggdobgaaGreatJHmKHyO
set_option maxHeartbeats 8000000
set_option maxRecDepth 100000
namespace Go.Proofs.YtjdnmblggdobgaaGreat
open Go.Maps Go.RowKit Tryz List Or World
variable {b P:Nat} {w w':World} {D A vt' E:Value} {s:kf}
theorem z0w {A:List Int} {v:Int} (h:v∉A):mh (A++ [v]) v=A.length:=by unfold mh;refine Fo (k:=A.length) (by simp) (fun x D=>?_) (by simp);rw [take_left]at D;exact decide_eq_false fun e=>h (e ▸ D)
theorem z0x (A:List Int):uo A 0=A/\xi A 0=0:=⟨by unfold uo;rw [if_pos rfl],by unfold xi;rw [if_pos rfl]⟩
theorem z0y {A:List Int} {v:Int} {k:Nat} (h0:v≠0) (D:A[k]? =some v) (E:mh A v=k):uo A v=A/\xi A v=(k:Int)+1:=by
 have e:uo A v=A:=by unfold uo;rw [if_neg h0,contains_iff_mem.2 (mem_of_getElem? D),if_pos rfl]
 refine ⟨e,?_⟩;unfold xi;rw [if_neg h0,e,E]
theorem z0z {A:List Int} {v:Int} (h0:v≠0) (h:v∉A):uo A v=A++ [v]/\xi A v=(A.length:Int)+1:=by
 have e:uo A v=A++ [v]:=by unfold uo;rw [if_neg h0,if_neg (fun hc=>h (contains_iff_mem.1 hc))]
 refine ⟨e,?_⟩;unfold xi;rw [if_neg h0,e,z0w h]
theorem z00 (w:World) (b P:Nat) (vo:Value) (o:List Int) (x:Bd b w P vo o) (ad:o.length<=1000000) (v:Int):
 Calls prog 145 #[.i v,.p P] w fun r w'=>r=.returned (.i (xi o v))/\∃vo',Bd b w' P vo' (uo o v)/\mq w.heap.size P P P (.nl) vo w vo' w':=by
 obtain ⟨iI,ac,X,Y,Z⟩:=info_parts kh;obtain ⟨O,V,rfl⟩:=ku x.row;have HX:=aj x;have c0:=bg x.blk 0 (x:=.slice O o.length V) rfl;have lP:=bz x.blk;have A:=aj (zv0 w _ _ _ (rg x.row ad) v);have ah:=x.bP;clear x;by_cases N:v=0
 ·have G:=aj (z0x o);subst N;clear A;go_enter func145,ntmps145;go_wp2_with fail;go_ret;exact ⟨by rw [G.o.2];rfl,_,by rw [G.o.1];exact HX.o,mq.ofBelow (br _ _)⟩
 have ai:(v==0)=false:=by simpa using N
 rcases zw4 o v with ⟨h1,L⟩ | ⟨k,h1,L⟩
 ·have G:=aj (z0z N h1);rw [L]at A;have aa:=aj HX.o.row;have I:Hid (o.length+1<=maxLen/\(o.length+1)*8<=140737488355328/\b<=(w.alloc (.cells #[.i v] 3)).heap.size):=⟨by unfold maxLen;omega,by omega,by simp;omega⟩;have w1:IntKind.i64.wrap ((o.length:Int)+1 - 1)=(o.length:Int):=by rw [IntKind.wrap_i64];omega
  have ak:IntKind.i64.wrap (((o.length+1:Nat):Int) - 1)=(o.length:Int):=by rw [IntKind.wrap_i64];omega
  have w2:IntKind.i64.wrap ((o.length:Int)+1)=(o.length:Int)+1:=gw _ (by omega) (by omega);clear h1 L N;go_enter func145,ntmps145;go_wp2_with fail;refine A.o.mono ?_;rintro r w ⟨rfl,rfl⟩;go_wp2_with (at_builtin;refine wpList_append_lies _ rfl _ _ 22 rfl b 3 iI (.i 0) 1 8 underlying22 ac X Y Z rfl (by decide) (.slice O o.length V) o.length (b8 o) rfl (aa.o.alloc _) ⟨w.heap.size,0,none⟩ 1 1 [.i v] rfl rfl (news_of_block (heap_alloc_new w _)) (by intro u hu;simp at hu;subst hu;rfl) (by omega) I.o.1 I.o.2.1 I.o.2.2 _ rfl ?_);intro gA cA w3 E D W af;have F:Bl w (w.alloc (.cells #[.i v] 3)):=(br _ _).alloc (nlq _) _;have xA:=HX.o.below F;have k3:w3.heap[P]? =some (.cells #[.slice O o.length V] 22 (0,0)):=(D.block P (bz xA.blk) (fun e=>xA.ne e.symm)).trans xA.blk;have d0:=bg k3 0 (x:=.slice O o.length V) rfl;have dz:=pq k3 0;have dl:=bz k3;obtain ⟨W4,J⟩:∃W4,W4=w3.setCell ⟨P,0,none⟩ (.slice (some ⟨gA,0,none⟩) (o.length+1) cA):=⟨_,rfl⟩;obtain ⟨x4,m4⟩:=xA.more (v:=v) D E (W.imp id fun e=>by simp;omega) J;have f0:=bg x4.blk 0 (x:=.slice (some ⟨gA,0,none⟩) (o.length+1) cA) rfl;have fl:=bz x4.blk;have HF:Hid (Bd b W4 P (.slice (some ⟨gA,0,none⟩) (o.length+1) cA) (o++ [v])/\mq w.heap.size P P P (.nl) (.slice O o.length V) w (.slice (some ⟨gA,0,none⟩) (o.length+1) cA) W4):=⟨x4,(mq.ofBelow F).trans (m4 _ F.size)⟩;have ae:=J.symm;clear E D W F xA k3 x4 m4 J;go_wp2_with fail;go_ret;exact ⟨by rw [G.o.2];rfl,_,by rw [G.o.1];exact HF.o.1,HF.o.2⟩
 have G:=aj (z0y N h1 L);rw [L]at A;have hk:k<o.length:=by
  rcases Nat.lt_or_ge k o.length with h | h
  ·exact h
  rw [getElem?_eq_none h]at h1;cases h1
 have w2:IntKind.i64.wrap ((k:Int)+1)=(k:Int)+1:=gw _ (by omega) (by omega);clear h1 L N;go_enter func145,ntmps145;go_wp2_with fail;refine A.o.mono ?_;rintro r w ⟨rfl,rfl⟩;go_wp2_with fail;go_ret;exact ⟨by rw [G.o.2];rfl,_,by rw [G.o.1];exact HX.o,mq.ofBelow (br _ _)⟩
theorem Bo (args:Array Value) (w:World):(callFunc 145 args).run prog w=.ok (.enter 145 args) w:=by kernel_rfl
structure Sh (b:Nat) (w:World) (P:Nat) (vo vt:Value) (s:kf):Prop where
 bx:Bd b w P vo s.met
 row:w.ownsRow b 3 1 vt s.o.length (b8 s.o)
 ne:vt.ownBlock≠some P
 sep:∀j,vt.ownBlock=some j->vo.ownBlock≠some j
theorem Sh.below (x:Sh b w P D E s) (A:Bl w w'):Sh b w' P D E s:=⟨x.bx.below A,km x.row A,x.ne,x.sep⟩
theorem Sh.turned {m:List Int} (x:Sh b w P D E s) (F:Bd b w' P A m) (k:mq w.heap.size P P P (.nl) D w A w'):Sh b w' P A E ⟨m,s.o⟩:=
 ⟨F,zvq x.row k (fun j e G=>⟨G,fun h=>x.ne (by rw [e,h]),fun h=>x.ne (by rw [e,h]),fun h=>x.ne (by rw [e,h]),(fun h=>by cases h),x.sep j e⟩),x.ne,fun j e h=>by
  rcases k.gv j h with q | q
  ·exact x.sep j e q
  have:=(x.row.lt j e).2;omega⟩
theorem Sh.told {l:List Int} (x:Sh b w P D A s) (F:w.grownBy w' A.ownBlock) (I:w'.ownsRow b 3 1 vt' (s.o++l).length (b8 (s.o++l))) (E:vt'.ownBlock=A.ownBlock\/∃j,vt'.ownBlock=some j/\w.heap.size<=j):Sh b w' P D vt' ⟨s.met,s.o++l⟩:=by
 have J:=bz x.bx.blk;refine ⟨⟨(F.block P J (fun e=>x.ne e.symm)).trans x.bx.blk,x.bx.row.kept F ?_,x.bx.bP,x.bx.ne⟩,I,?_,?_⟩
 ·cases hv:A.ownBlock with
  | none=>cases D.ownBlock<;>simp
  | some j=>exact inr (x.sep j hv)
 ·rcases E with q | ⟨j,q,G⟩
  ·rw [q];exact x.ne
  rw [q];intro e;have:=ojq e;omega
 intro i e h;rcases E with q | ⟨j,q,G⟩
 ·rw [q]at e;exact x.sep i e h
 rw [q]at e;have e:=ojq e;have:=(x.bx.row.lt i h).2;omega
theorem Sh.bel {A:Value} {s:kf} (x:Sh b w P E A s) (D:w.grownBy w' A.ownBlock):Below b w w':=
 (br b w).grown D (lt3 x.bx.bP (Nat.le_of_lt (bz x.bx.blk))) (fun k e=>(x.row.lt k e).1)
theorem z01 {A:List Int} {v u:Int} :u∈uo A v↔u∈A\/(u=v/\v≠0):=by
 unfold uo;by_cases h0:v=0
 ·rw [if_pos h0];exact ⟨inl,fun h=>h.elim id fun h=>absurd h0 h.2⟩
 rw [if_neg h0];cases hc:A.contains v
 ·rw [if_neg (by simp),mem_append,mem_singleton];exact ⟨fun h=>h.imp id fun h=>⟨h,h0⟩,fun h=>h.imp id fun h=>h.1⟩
 have D:=contains_iff_mem.1 hc;rw [if_pos rfl];exact ⟨inl,fun h=>h.elim id fun h=>h.1 ▸ D⟩
theorem z02 {A:List Int} {v:Int} (D:A.Nodup):(uo A v).Nodup:=by
 unfold uo;split
 ·exact D
 split
 ·exact D
 rename_i hc;refine nodup_append.2 ⟨D,by simp,?_⟩;intro a F b E e;rw [mem_singleton]at E;subst E;subst e;exact hc (contains_iff_mem.2 F)
theorem z03 (A:List Int) (v:Int):∃e,uo A v=A++e:=by
 unfold uo;split
 ·exact ⟨[],(append_nil _).symm⟩
 split
 ·exact ⟨[],(append_nil _).symm⟩
 exact ⟨[v],rfl⟩
structure zf (ts:List bq) (s0 s:kf) (n:Nat):Prop where
 nd:s.met.Nodup
 sub:∀v∈s.met,∃t∈ts,t.loc=v
 ext:∃e,s.met=s0.met++e
 o:s.o.length=s0.o.length+n
section
variable {d:ax} {h:ar} {ts:List bq}
theorem zf.turn {s0 s:kf} {n:Nat} (g:zf ts s0 s n) {v:Int} (F:cq ts v=true):zf ts s0 (s.turn v) (n+1):=by
 refine ⟨z02 g.nd,fun u E=>?_,?_,?_⟩
 ·rcases z01.1 E with h | ⟨rfl,h⟩
  ·exact g.sub u h
  exact Fy F h
 ·obtain ⟨e,A⟩:=g.ext;obtain ⟨f,D⟩:=z03 s.met v;exact ⟨e++f,by show uo s.met v=_;rw [D,A,append_assoc]⟩
 show (s.o++ [xi s.met v]).length=_;rw [length_append,g.o];rfl
theorem zf.roots:∀(rs:List Int) {s0 s:kf} {n:Nat},zf ts s0 s n->(∀v∈rs,cq ts v=true)->zf ts s0 (rs.foldl kf.turn s) (n+rs.length)
 | [],_,_,_,g,_=>g
 | v::rs,_,s,n,g,h=>by have:=zf.roots rs (g.turn (h v (mem_cons_self ..))) fun u A=>h u (mem_cons_of_mem _ A);rw [show n+1+rs.length=n+(v::rs).length by rw [length_cons];omega]at this;exact this
theorem zf.word (r:Right d h ts) {s0 s:kf} {n:Nat} (g:zf ts s0 s n) {t:bq} (A:t∈ts) {i:Nat} (hi:(i:Int)<t.len):zf ts s0 (s.word d h.ab t i) (n+1):=by
 unfold kf.word;cases hr:jw d.fields t i
 ·refine ⟨g.nd,g.sub,g.ext,?_⟩;show (s.o++ [wd h.ab (t.loc+3+i)]).length=_;rw [length_append,g.o];rfl
 exact g.turn (zuw r A (C6 hi hr))
theorem zf.ab (r:Right d h ts) {t:bq} (A:t∈ts):∀(is:List Nat) {s0 s:kf} {n:Nat},zf ts s0 s n->(∀i∈is,(i:Int)<t.len)->zf ts s0 (is.foldl (kf.word d h.ab t) s) (n+is.length)
 | [],_,_,_,g,_=>g
 | i::is,_,s,n,g,hi=>by have:=zf.ab r A is (g.word r A (hi i (mem_cons_self ..))) fun j D=>hi j (mem_cons_of_mem _ D);rw [show n+1+is.length=n+(i::is).length by rw [length_cons];omega]at this;exact this
theorem z04 (r:Right d h ts):((ts.map bq.loc).map fun a=>3+wd h.ab (a+1)).sum<=h.ab.length:=by
 have z:=r.sized;have L:=z.ae;have N:=z.len;have O:=z.bk;have V:=z.be;have e:((ts.map bq.loc).map fun a=>3+wd h.ab (a+1))=ts.map fun t=>3+t.len:=by rw [map_map];refine map_congr_left fun t E=>?_;show 3+wd h.ab (t.loc+1)=3+t.len;rw [<-congrArg bq.len (se r E).symm];rfl
 rw [e];obtain ⟨G,F,A,D,rfl⟩:=Ab r.both;have I:=zur _ 1 G (nlq _) (by omega) A;have J:=zur _ (h.ae+1) F (nlq _) (by omega) D;rw [map_append,sum_append];omega
theorem z05 (r:Right d h ts) {l:List Int} (E:l.Nodup) (F:∀v∈l,∃t∈ts,t.loc=v):(l.map fun a=>3+wd h.ab (a+1)).sum<=h.ab.length:=by
 refine Int.le_trans (zuq l (ts.map bq.loc) E (fun x D=>?_) fun x D=>?_) (z04 r)
 ·obtain ⟨t,A,e⟩:=F x D;exact mem_map.2 ⟨t,A,e⟩
 obtain ⟨t,A,rfl⟩:=mem_map.1 D;have e:t.len=wd h.ab (t.loc+1):=congrArg bq.len (se r A);obtain ⟨-,-,q,-⟩:=zxn r A;have:=yb q;omega
theorem z06 (r:Right d h ts) {l:List Int} (A:l.Nodup) (D:∀v∈l,∃t∈ts,t.loc=v):l.length<h.ab.length:=
 Nat.lt_of_le_of_lt (zu7 l (ts.map bq.loc) A fun x F=>by
  obtain ⟨t,E,e⟩:=D x F;exact mem_map.2 ⟨t,E,e⟩) (zvc r)
structure Ay (d:ax) (h:ar) (ts:List bq) (rs:List Int) (k:Nat) (s:kf):Prop where
 nd:s.met.Nodup
 sub:∀v∈s.met,∃t∈ts,t.loc=v
 o:(s.o.length:Int)=rs.length+((s.met.take k).map fun a=>3+wd h.ab (a+1)).sum
 fin:(kf.all d h.ab (h.ab.length+1 - k) k s).o=ko d h rs
theorem Ay.small (r:Right d h ts) {rs:List Int} {k:Nat} {s:kf} (i:Ay d h ts rs k s):s.met.length<h.ab.length/\s.o.length<=rs.length+h.ab.length:=by refine ⟨z06 r i.nd i.sub,?_⟩;have h1:=z05 r (l:=s.met.take k) (i.nd.sublist (take_sublist _ _)) fun v A=>i.sub v (mem_of_mem_take A);have D:=i.o;omega
theorem Ay.start {rs:List Int} (A:∀v∈rs,cq ts v=true):Ay d h ts rs 0 (rs.foldl kf.turn ⟨[],[]⟩):=by have g:=zf.roots (ts:=ts) rs (s0:=⟨[],[]⟩) (s:=⟨[],[]⟩) (n:=0) ⟨nodup_nil,fun v D=>(by cases D),⟨[],rfl⟩,rfl⟩ A;refine ⟨g.nd,g.sub,?_,rfl⟩;have:=g.o;simp at this;simp [this]
theorem Ay.next (r:Right d h ts) {rs:List Int} {k:Nat} {s:kf} (i:Ay d h ts rs k s) {a:Int} (A:s.met[k]? =some a):Ay d h ts rs (k+1) (s.thing d h.ab a)/\(s.thing d h.ab a).o.length=s.o.length+3+(bp h.ab a).len.toNat:=by
 obtain ⟨t,I,rfl⟩:=i.sub a (mem_of_getElem? A);have D:k<s.met.length:=by
  rcases Nat.lt_or_ge k s.met.length with h | h
  ·exact h
  rw [getElem?_eq_none h]at A;cases A
 have O:=(i.small r).1;have E:=se r I;have N:0<=t.len:=yb (zxn r I).2.2.1;have g:=zf.ab r I (range t.len.toNat) (s0:=s) (s:=⟨s.met,s.o++ [t.tag,t.len,t.hash]⟩) (n:=3) ⟨i.nd,i.sub,⟨[],(append_nil _).symm⟩,by rw [length_append];rfl⟩ (fun j L=>by have:=mem_range.1 L;omega);have e:s.thing d h.ab t.loc=(range t.len.toNat).foldl (kf.word d h.ab t) ⟨s.met,s.o++ [t.tag,t.len,t.hash]⟩:=by unfold kf.thing;rw [<-E]
 rw [<-e]at g;obtain ⟨V,F⟩:=g.ext;have G:=g.o;rw [length_range]at G;refine ⟨⟨g.nd,g.sub,?_,?_⟩,by rw [G,<-E];omega⟩
 ·have h1:=i.o;have J:(s.thing d h.ab t.loc).met.take (k+1)=s.met.take k++ [t.loc]:=by
   rw [F,take_append_of_le_length (by omega),take_succ_eq_append_getElem D];congr 1;rw [getElem?_eq_getElem D]at A;rw [ojq A]
  rw [G,J,map_append,sum_append];have W:([t.loc].map fun a=>3+wd h.ab (a+1)).sum=3+t.len:=by have:t.len=wd h.ab (t.loc+1):=congrArg bq.len E;simp;omega
  omega
 rw [<-i.fin];rw [show h.ab.length+1 - k=(h.ab.length+1 - (k+1))+1 by omega,kf.all,A]
theorem Ay.done {rs:List Int} {k:Nat} {s:kf} (i:Ay d h ts rs k s) (A:s.met.length<=k):s.o=ko d h rs:=by
 rw [<-i.fin];cases h.ab.length+1 - k with
 | zero=>rfl
 | succ f=>rw [kf.all,getElem?_eq_none A]
end
variable (w:World) (B:Nat) (vW vO kC kS kF kN kT xW xO:Value) (h x:ar) (d:ax)
theorem z07 (g:Hd B w vW vO kC kS kF kN kT h d) (ts:List bq) (rt:Right d h ts) (vR:Value) (rs:List Int) (hs:SL 1 RI (· <B) w vR rs) (hr:∀v∈rs,cq ts v=true) (fe:rs.length<=500000):
 Calls prog 90 #[.agg #[vW,.i h.ae,.i h.old,.i h.bk,.i h.be,vO,.i h.next],.agg #[kC,kS,kF,kN,kT],vR] w fun r w'=>Bl w w'/\∃v,r=.returned v/\w'.ownsRow w.heap.size 3 1 v (ko d h rs).length (b8 (ko d h rs)):=by
 obtain ⟨iI,ck,a2,a3,a4⟩:=info_parts kh;have e9:=ri prog;have e4:=Bo;have HG:=aj g;have d5:=aj hs;obtain ⟨aW,cW,aO,cO,aC,cC,aS,cS,aF,cF,aN,cN,aT,cT,rfl,rfl,rfl,rfl,rfl,rfl,rfl⟩:=g.agg;obtain ⟨aR,cR,rfl,-,eh,-⟩:=hs;unfold maxLen at eh;have e6:=g.le;clear g;obtain ⟨W0,c1,bh,co,k0,k1,k2⟩:=we w (H7 aW cW aO cO h) (K5 aC cC aS cS aF cF aN cN aT cT d) #[.nl] 24 36 22;have x0:Sh (w.heap.size+1+1) W0 (w.heap.size+1+1) (.nl) (.nl) ⟨[],[]⟩:=⟨⟨k2,ownsRow_nil _ _ _ _,nlq _,fun e=>by cases e⟩,ownsRow_nil _ _ _ _,(fun e=>by cases e),fun j e=>by cases e⟩;have z:=rt.sized;have z1:=z.ae;have z2:=z.old;have z3:=z.len;have ff:h.ab.length<=100000:=by omega
 have O:=aj rt;have cs:=aj hr;have eb:=aj x0;have dz:=aj bh;have d1:=aj c1;have d3:=aj co;have cr:=aj (And.intro k0 k1);have b7:Hid (∀V,Below (w.heap.size+1+1) W0 V->Hd B V (.slice aW h.ab.length cW) (.slice aO h.ap.length cO) (.slice aC d.am.length cC) (.slice aS d.bj.length cS) (.slice aF d.fields.length cF) (.slice aN d.names.length cN) (.slice aT d.ba.length cT) h d):=fun V hV=>HG.o.below ((bh.trans (hV.mono (by omega))).mono (by omega));have d6:Hid (∀V,Below (w.heap.size+1+1) W0 V->SL 1 RI (· <B) V (.slice aR rs.length cR) rs):=fun V hV=>d5.o.keptI (Kp.below ((bh.trans (hV.mono (by omega))).mono (by omega)));clear k0 k1 k2 x0 bh c1 co rt hr z z1 z2 z3;go_enter func90,ntmps90;go_wp2_with fail;rw [<-d1.o];go_loopw [8,10] (fun vt i wr=>∃(k:Nat) (vo:Value),i=.i k/\k<=rs.length/\Hid (Sh (w.heap.size+1+1) wr (w.heap.size+1+1) vo vt ((rs.take k).foldl kf.turn ⟨[],[]⟩)/\Below (w.heap.size+1+1) W0 wr)) (fun _ i _=>rs.length - (intOf i).toNat)
 case atStart=>exact ⟨0,_,rfl,n0q _,eb.o,br _ _⟩
 case round=>
  obtain ⟨k,vo,rfl,hk,HI⟩:=hrel;have co:=d3.o;have dg:=HI.o.2.size;by_cases c6:k<rs.length
  ·obtain ⟨Y,W⟩:=HI.o;obtain ⟨bR,off,rfl,e3,e0⟩:=(d6.o wr W).atI k c6;have gg:=zf.roots (ts:=ts) (rs.take k) (s0:=⟨[],[]⟩) (s:=⟨[],[]⟩) (n:=0) ⟨nodup_nil,fun v hv=>(by cases hv),⟨[],rfl⟩,rfl⟩ fun v hv=>cs.o v (mem_of_mem_take hv);have eo:=z06 O.o gg.nd gg.sub;have dd:((rs.take k).foldl kf.turn ⟨[],[]⟩).o.length<=1000000:=by
    have h1:((rs.take k).foldl kf.turn ⟨[],[]⟩).o.length=0+(0+(rs.take k).length):=gg.o;rw [length_take]at h1;omega
   have a9:=aj (zvu kf.turn rs ⟨[],[]⟩ k c6);generalize (rs.take k).foldl kf.turn ⟨[],[]⟩=s at*;have aw:=aj (z00 wr (w.heap.size+1+1) (w.heap.size+1+1) vo _ Y.bx (by omega) rs[k]);obtain ⟨bd,bf,rfl⟩:=ku Y.row;have N:=aj Y;have Z:=aj W;generalize rs[k]=v at*;clear gg Y W HI;go_wp2_with fail;refine aw.o.mono ?_;rintro r w5 ⟨rfl,a6,x5,m5⟩;have a5:=N.o.turned x5 m5;have ak:Below (w.heap.size+1+1) W0 w5:=Z.o.trans (N.o.bx.bel m5 (by omega));have af:=aj a5;have b6:=aj ak;obtain ⟨D,J⟩:∃D,s.o=D:=⟨_,rfl⟩;have ct:Hid ((rs.take (k+1)).foldl kf.turn ⟨[],[]⟩=⟨uo s.met v,D++ [xi s.met v]⟩):=by rw [a9.o,<-J];rfl
   rw [J]at af dd;have ac:=aj af.o.row;have ej:=ak.size;have L:Hid (D.length+1<=maxLen/\(D.length+1)*8<=140737488355328/\w.heap.size+1+1<=(w5.alloc (.cells #[.i (xi s.met v)] 3)).heap.size):=⟨by unfold maxLen;omega,by omega,by simp;omega⟩;rw [J];generalize xi s.met v=nv at*;clear x5 m5 a5 ak aw N Z e0 J a9;go_wp2_with (at_builtin;refine wpList_append_lies _ rfl _ _ 22 rfl (w.heap.size+1+1) 3 iI (.i 0) 1 8 underlying22 ck a2 a3 a4 rfl (by decide) (.slice bd D.length bf) D.length (b8 D) rfl (ac.o.alloc _) ⟨w5.heap.size,0,none⟩ 1 1 [.i nv] rfl rfl (news_of_block (heap_alloc_new w5 _)) (by intro u hu;simp at hu;subst hu;rfl) (by omega) L.o.1 L.o.2.1 L.o.2.2 _ rfl ?_);intro gA cA w3 I G ah a1;have X:Bl w5 (w5.alloc (.cells #[.i nv] 3)):=(br _ _).alloc (nlq _) _;have sA:=af.o.below X;have s3:=sA.told (l:=[nv]) (vt':=.slice (some ⟨gA,0,none⟩) (D.length+1) cA) G (by
    show w3.ownsRow _ 3 1 (.slice (some ⟨gA,0,none⟩) (D.length+1) cA) (D++ [nv]).length (b8 (D++ [nv]));rw [length_append,Eu];exact I) (ah.elim (fun q=>inl q.symm) fun q=>inr ⟨gA,rfl,by simp;omega⟩)
   have ai:Below (w.heap.size+1+1) W0 w3:=b6.o.trans ((X.mono (by have:=bz af.o.bx.blk;omega)).trans (sA.bel G));have HF:Hid (Sh (w.heap.size+1+1) w3 (w.heap.size+1+1) a6 (.slice (some ⟨gA,0,none⟩) (D.length+1) cA) ((rs.take (k+1)).foldl kf.turn ⟨[],[]⟩)/\Below (w.heap.size+1+1) W0 w3):=⟨by rw [ct.o];exact s3,ai⟩;clear I G ah X sA s3 ai ac L;go_wp2_with fail;go_roundw
   case rel=>exact ⟨k+1,a6,by go_num,by omega,HF.o⟩
   case measure=>simp [intOf];omega
  obtain rfl:k=rs.length:=by omega
  have ch:=HI.o;rw [take_length]at ch;have ca:=aj ch;clear HI ch dg;go_wp2_with fail;go_loopw [8,11] (fun vt i wr=>∃(k:Nat) (vo:Value) (s:kf),i=.i k/\k<=h.ab.length/\Hid (Sh (w.heap.size+1+1) wr (w.heap.size+1+1) vo vt s/\Ay d h ts rs k s/\Below (w.heap.size+1+1) W0 wr)) (fun _ i _=>h.ab.length+1 - (intOf i).toNat)
  case atStart=>exact ⟨0,vo,_,rfl,n0q _,ca.o.1,Ay.start cs.o,ca.o.2⟩
  case round=>
   obtain ⟨k,fl,s,rfl,e7,HI⟩:=hrel;clear ca;obtain ⟨wq,ek⟩:∃wq,wq=wr:=⟨_,rfl⟩;subst ek;obtain ⟨Y,hI,W⟩:=HI.o;have dg:=W.size;obtain ⟨fa,dd⟩:=hI.small O.o;obtain ⟨aP,cy,rfl⟩:=ku Y.bx.row;have p0:=bg Y.bx.blk 0 (x:=.slice aP s.met.length cy) rfl;have lP:=bz Y.bx.blk;by_cases al:k<s.met.length;rotate_left
   ·have c3:=hI.done (by omega);have HF:Hid (Bl w wq/\wq.ownsRow w.heap.size 3 1 _ (ko d h rs).length (b8 (ko d h rs))):=⟨dz.o.trans (W.mono (by omega)),by rw [<-c3];exact vb Y.row (by omega)⟩;clear Y hI W HI c3;go_wp2_with fail;go_ret;exact ⟨HF.o.1,_,rfl,HF.o.2⟩
   obtain ⟨gO,eg⟩:∃gO,aP=some ⟨gO,0,none⟩:=by
    rcases Y.bx.row.2 with ⟨e,h0⟩ | ⟨g,cap,ez,e,-⟩
    ·omega
    injection e with e1;exact ⟨g,e1⟩
   subst eg;have cn:s.met[k]? =some s.met[k]:=getElem?_eq_getElem al;obtain ⟨t,ht,cp⟩:=hI.sub _ (gm al);have ec:=B5 O.o.sized O.o.both t ht;obtain ⟨a,ha⟩:∃a:Nat,s.met[k]=(a:Int):=⟨s.met[k].toNat,by omega⟩;have e0:=(Y.bx.row.cellAt k (by rw [Nat.mul_one];exact al)).trans (Dy al);have lO:=(Y.bx.row.lt gO rfl).2;rw [ha]at e0 cp cn;have bn:bp h.ab (a:Int)=t:=by rw [<-cp];exact (se O.o ht).symm
   have ci:qf d (bp h.ab (a:Int)):=by
    rw [bn];by_cases hy:t.loc<=h.ae
    ·exact (ze O.o ht hy).fit
    exact (Bw O.o ht (by omega)).2.2.2.1
   have ef:(bp h.ab (a:Int)).fin<=h.ab.length:=by rw [bn];omega
   have ee:(bp h.ab (a:Int)).fin=(a:Int)+3+(bp h.ab (a:Int)).len:=rfl;have e5:=ci.lo;obtain ⟨cm,fc⟩:=hI.next O.o cn;have er:=(cm.small O.o).2;have a9:=aj cm;have d2:=aj ci;have d8:Hid (bp h.ab (a:Int)∈ts):=by rw [bn];exact ht
   have dj:h.ab[a]'(by omega)=(bp h.ab (a:Int)).tag:=(qm (by omega)).symm;have c5:h.ab[a+1]'(by omega)=(bp h.ab (a:Int)).len:=by show _=wd h.ab ((a:Int)+1);rw [show (a:Int)+1=((a+1:Nat):Int) by omega];exact (qm (by omega)).symm
   have c4:h.ab[a+2]'(by omega)=(bp h.ab (a:Int)).hash:=by show _=wd h.ab ((a:Int)+2);rw [show (a:Int)+2=((a+2:Nat):Int) by omega];exact (qm (by omega)).symm
   obtain ⟨bW,oW,rfl,c2,-⟩:=atIm (b7.o wq W).sW a (by omega);have bc:Hid (∀V,Below (w.heap.size+1+1) W0 V->∀m:Nat,m<h.ab.length->V.cell? ⟨bW,oW+m,none⟩=some (.i (wd h.ab m))):=fun V hV m hm=>by obtain ⟨b1,o1,q1,-,-,q2⟩:=atIm (b7.o V hV).sW m hm;cases q1;rw [qm hm];exact q2
   have b9:Hid (∀V,Below (w.heap.size+1+1) W0 V->V.heap[w.heap.size]? =_/\V.heap[w.heap.size+1]? =_):=fun V hV=>⟨(hV.block _ (by omega:w.heap.size<w.heap.size+1+1)).trans cr.o.1,(hV.block _ (by omega:w.heap.size+1<w.heap.size+1+1)).trans cr.o.2⟩;have em:bW<w.heap.size+1+1:=by have h:bW<B:=c2;omega
   have cx:Hid (∀V,Below (w.heap.size+1+1) W0 V->V.cell? ⟨bW,oW+a,none⟩=some (.i (bp h.ab (a:Int)).tag)/\V.cell? ⟨bW,oW+(a+1),none⟩=some (.i (bp h.ab (a:Int)).len)/\V.cell? ⟨bW,oW+(a+2),none⟩=some (.i (bp h.ab (a:Int)).hash)):=fun V hV=>by have q0:=bc.o V hV a (by omega);have q1:=bc.o V hV (a+1) (by omega);have q2:=bc.o V hV (a+2) (by omega);rw [qm (by omega)]at q0 q1 q2;rw [dj]at q0;rw [c5]at q1;rw [c4]at q2;exact ⟨q0,q1,q2⟩
   obtain ⟨t0,t1,t2⟩:=cx.o wq W;have c0:=bg (b9.o wq W).1 0 (x:=.slice (some ⟨bW,oW,none⟩) h.ab.length cW) rfl;obtain ⟨bd,bf,rfl⟩:=ku Y.row;have N:=aj Y;have Z:=aj W;have w1:IntKind.i64.wrap ((a:Int)+1)=(a:Int)+1:=gw _ (by omega) (by omega);have w2:IntKind.i64.wrap ((a:Int)+2)=(a:Int)+2:=gw _ (by omega) (by omega);have w3:IntKind.i64.wrap ((a:Int)+3)=(a:Int)+3:=gw _ (by omega) (by omega);have i0:(0:Int)<=a:=by omega
   have i1:(a:Int)<h.ab.length:=by omega
   have i2:(0:Int)<=(a:Int)+1:=by omega
   have i3:(a:Int)+1<h.ab.length:=by omega
   have i4:(0:Int)<=(a:Int)+2:=by omega
   have i5:(a:Int)+2<h.ab.length:=by omega
   have i6:((a:Int)+1).toNat=a+1:=by omega
   have i7:((a:Int)+2).toNat=a+2:=by omega
   have lB:w.heap.size<w.heap.size+1+1:=by omega
   have fj:w.heap.size+1<w.heap.size+1+1:=by omega
   have e2:w.heap.size+1+1<=wq.heap.size:=by omega
   have e8:(a:Int)+3+(bp h.ab (a:Int)).len<=h.ab.length:=by omega
   have cc:Hid ((bp h.ab (a:Int)).len.toNat=(bp h.ab (a:Int)).len):=by show (((bp h.ab (a:Int)).len.toNat:Nat):Int)=_;omega
   have cv:=aj (And.intro hI.nd hI.sub);clear hI Y W HI ec cp bn ci cm cn ht dj c5 c4 ef ee ha;go_wp2_with fail;refine wp_region_held_drew (S:=fun W'=>∀p:Addr,p.block<w.heap.size+1+1->W'.cell? p=wq.cell? p) (by kernel_rfl) (fun p hp=>rfl) fun A=>?_;refine ta 0 (.slice bd s.o.length bf) rfl A ?_;refine ta 1 (.p w.heap.size) rfl A ?_;refine ta 2 (.slice (some ⟨bW,oW,none⟩) h.ab.length cW) rfl A ?_;refine ta 3 (.i (a:Int)) rfl A ?_;refine ta 4 (.pointer (some ⟨bW,oW+a,none⟩)) rfl A ?_;refine ta 5 (.i (bp h.ab (a:Int)).tag) rfl A ?_;refine ta 6 (.p w.heap.size) rfl A ?_;refine ta 7 (.slice (some ⟨bW,oW,none⟩) h.ab.length cW) rfl A ?_;refine ta 8 (.i (a:Int)) rfl A ?_;refine ta 9 (.i ((a:Int)+1)) rfl A ?_;refine ta 10 (.pointer (some ⟨bW,oW+(a+1),none⟩)) rfl A ?_;refine ta 11 (.i (bp h.ab (a:Int)).len) rfl A ?_;refine ta 12 (.p w.heap.size) rfl A ?_;refine ta 13 (.slice (some ⟨bW,oW,none⟩) h.ab.length cW) rfl A ?_;refine ta 14 (.i (a:Int)) rfl A ?_;refine ta 15 (.i ((a:Int)+2)) rfl A ?_;refine ta 16 (.pointer (some ⟨bW,oW+(a+2),none⟩)) rfl A ?_;refine ta 17 (.i (bp h.ab (a:Int)).hash) rfl A ?_;refine wpAnyH_ready (rs:=[18]) (by kernel_rfl) (by simp) ?_;refine AllReadyH.cons rfl (fun ex bo=>?_) AllReadyH.nil;go_simp;obtain ⟨V1,bi⟩:∃V1,V1=(wq.alloc (.cells #[.i (bp h.ab (a:Int)).tag,.i (bp h.ab (a:Int)).len,.i (bp h.ab (a:Int)).hash] 3)).drew:=⟨_,rfl⟩;rw [<-bi];have bm:V1.heap[wq.heap.size]? =some (.cells #[.i (bp h.ab (a:Int)).tag,.i (bp h.ab (a:Int)).len,.i (bp h.ab (a:Int)).hash] 3 (0,0)):=bi ▸ heap_alloc_new wq _;have aa:Bl wq V1:=bi ▸ ((br _ wq).alloc (nlq _) _).drew;have en:=bz bm;have ds:SL 1 RI (· <V1.heap.size) V1 (.slice (some ⟨wq.heap.size,0,none⟩) 3 3) [(bp h.ab (a:Int)).tag,(bp h.ab (a:Int)).len,(bp h.ab (a:Int)).hash]:=(rg (zsn (n:=3) (cap:=3) bm (nlq wq.heap.size) rfl (nlq _) (by unfold maxLen;omega) rfl (fun i u hi=>by rw [zsm bm];simpa [b8]using hi)) (by simp)).monoI fun j hj=>hj.lt;refine bo.o _ _ (fun p hp=>aa.cell (by omega)) fun A=>?_;refine wpAnyH_ready (rs:=[19]) (by kernel_rfl) (by simp) ?_;refine AllReadyH.cons rfl (fun ey bs=>?_) AllReadyH.nil;refine zrh V1 rfl (.tmp 41) (.tmp 59) rfl (w.heap.size+1+1) (.slice bd s.o.length bf) s.o rfl (km N.o.row aa) (· <V1.heap.size) (.slice (some ⟨wq.heap.size,0,none⟩) 3 3) [(bp h.ab (a:Int)).tag,(bp h.ab (a:Int)).len,(bp h.ab (a:Int)).hash] rfl ds (by simp;omega) (by omega) ?_;intro v8 V2 c9 cj dk;have a0:Below (w.heap.size+1+1) wq V2:=(aa.mono (by omega)).trans ((N.o.below aa).bel cj);refine bs.o _ _ (fun p hp=>a0.cell hp) fun A=>?_;have du:Sh (w.heap.size+1+1) V2 (w.heap.size+1+1) (.slice (some ⟨gO,0,none⟩) s.met.length cy) v8 ⟨s.met,s.o++ [(bp h.ab (a:Int)).tag,(bp h.ab (a:Int)).len,(bp h.ab (a:Int)).hash]⟩:=(N.o.below aa).told cj c9 (dk.imp id fun e=>⟨_,e,nlq _⟩);have d4:=aj du;have d0:=aj (Z.o.trans a0);refine ta 20 (v8) rfl A ?_;refine wpAnyH_done (by kernel_rfl) ?_ _;clear A bo bs c9 cj dk a0 ds bm aa bi du;try simp only [Act.put,p1q,p4q,p3q,p2q,p5q,p6q]
   clear N Z e0 lO c0 t0 t1 t2 p0 lP;generalize htl:(bp h.ab (a:Int)).len.toNat=tn at*;have es:s.o.length+3+tn<=rs.length+h.ab.length:=by omega
   have bb:=aj htl;clear htl;go_wp2_with fail;go_loopw [8,13] (fun vt i wr=>∃(n:Nat) (vo:Value),i=.i n/\n<=tn/\Hid (Sh (w.heap.size+1+1) wr (w.heap.size+1+1) vo vt ((range n).foldl (kf.word d h.ab (bp h.ab (a:Int))) ⟨s.met,s.o++ [(bp h.ab (a:Int)).tag,(bp h.ab (a:Int)).len,(bp h.ab (a:Int)).hash]⟩)/\Below (w.heap.size+1+1) W0 wr)) (fun _ i _=>tn - (intOf i).toNat)
   case atStart=>exact ⟨0,_,rfl,n0q _,d4.o,d0.o⟩
   case round=>
    obtain ⟨n,av,rfl,hn,HJ⟩:=hrel;obtain ⟨E,dl⟩:∃E,E=wr:=⟨_,rfl⟩;subst dl;obtain ⟨Y,W⟩:=HJ.o;have eu:=W.size;obtain ⟨t0,t1,-⟩:=cx.o E W;have j0:=(b9.o E W).1;have c0:=bg j0 0 (x:=.slice (some ⟨bW,oW,none⟩) h.ab.length cW) rfl;have fk:=bz j0;have el:bW<E.heap.size:=by omega
    by_cases a1:n<tn
    ·have c7:(n:Int)<(bp h.ab (a:Int)).len:=by have:=cc.o;have:=bb.o;omega
     have gg:=zf.ab O.o d8.o (range n) (s0:=s) (s:=⟨s.met,s.o++ [(bp h.ab (a:Int)).tag,(bp h.ab (a:Int)).len,(bp h.ab (a:Int)).hash]⟩) (n:=3) ⟨cv.o.1,cv.o.2,⟨[],(append_nil _).symm⟩,by rw [length_append];rfl⟩ (fun j hj=>by have:=mem_range.1 hj;omega);have eq:=z06 O.o gg.nd gg.sub;have df:((range n).foldl (kf.word d h.ab (bp h.ab (a:Int))) ⟨s.met,s.o++ [(bp h.ab (a:Int)).tag,(bp h.ab (a:Int)).len,(bp h.ab (a:Int)).hash]⟩).o.length<=s.o.length+3+tn:=by have h1:=gg.o;rw [length_range]at h1;omega
     have b5:((range (n+1)).foldl (kf.word d h.ab (bp h.ab (a:Int))) ⟨s.met,s.o++ [(bp h.ab (a:Int)).tag,(bp h.ab (a:Int)).len,(bp h.ab (a:Int)).hash]⟩)=kf.word d h.ab (bp h.ab (a:Int)) ((range n).foldl (kf.word d h.ab (bp h.ab (a:Int))) ⟨s.met,s.o++ [(bp h.ab (a:Int)).tag,(bp h.ab (a:Int)).len,(bp h.ab (a:Int)).hash]⟩) n:=by rw [range_succ,foldl_append];rfl
     have s3:=bc.o E W (a+3+n) (by omega);have au:=aj (fun V (hV:Bl E V)=>zkp V B _ _ _ _ _ d (b7.o V (W.trans (hV.mono (by omega)))).lk (bp h.ab (a:Int)) d2.o n c7);have ea:Hid (wd h.ab ((bp h.ab (a:Int)).loc+3+n)=wd h.ab ((a+3+n:Nat):Int)):=by show wd h.ab ((a:Int)+3+n)=_;rw [show (a:Int)+3+(n:Int)=((a+3+n:Nat):Int) by omega]
     generalize ((range n).foldl (kf.word d h.ab (bp h.ab (a:Int))) ⟨s.met,s.o++ [(bp h.ab (a:Int)).tag,(bp h.ab (a:Int)).len,(bp h.ab (a:Int)).hash]⟩)=u at*;have w4:IntKind.i64.wrap ((a:Int)+3+n)=(a:Int)+3+n:=gw _ (by omega) (by omega);have i8:(0:Int)<=(a:Int)+3+n:=by omega
     have i9:(a:Int)+3+n<h.ab.length:=by omega
     have fi:((a:Int)+3+n).toNat=a+3+n:=by omega
     have q7:decide ((n:Int)<(bp h.ab (a:Int)).len)=true:=decide_eq_true c7;obtain ⟨b0,b1,b2,b3,b4,bl⟩:=cells5 (b9.o E W).2;obtain ⟨ce,cf,rfl⟩:=ku Y.row;obtain ⟨D,J⟩:∃D,u.o=D:=⟨_,rfl⟩;rw [J]at df;have N:Hid (Sh (w.heap.size+1+1) E (w.heap.size+1+1) av (.slice ce D.length cf) ⟨u.met,D⟩):=by rw [<-J];exact Y
     have Z:=aj W;have a8:Hid (kf.word d h.ab (bp h.ab (a:Int)) u n=if jw d.fields (bp h.ab (a:Int)) n then ⟨uo u.met (wd h.ab ((a+3+n:Nat):Int)),D++ [xi u.met (wd h.ab ((a+3+n:Nat):Int))]⟩ else ⟨u.met,D++ [wd h.ab ((a+3+n:Nat):Int)]⟩):=by show _=_;unfold kf.word;rw [ea.o,<-J];rfl
     have cu:=aj b5;generalize wd h.ab ((a+3+n:Nat):Int)=v at*;clear gg Y W HJ b5 j0;have an:Hid (Bl E E.drew):=(br _ _).drew;rw [J];clear J;cases hrf:jw d.fields (bp h.ab (a:Int)) n
     ·rw [hrf]at au a8;clear hrf;go_wp2_with fail;refine wp_region_held_drew (S:=fun W'=>∀p:Addr,p.block<E.heap.size->W'.cell? p=E.cell? p) (by kernel_rfl) (fun p hp=>rfl) fun A=>?_;refine ta 0 (.agg (K5 aC cC aS cS aF cF aN cN aT cT d)) rfl A ?_;refine ta 1 (.p w.heap.size) rfl A ?_;refine ta 2 (.slice (some ⟨bW,oW,none⟩) h.ab.length cW) rfl A ?_;refine ta 3 (.i (a:Int)) rfl A ?_;refine ta 4 (.pointer (some ⟨bW,oW+a,none⟩)) rfl A ?_;refine ta 5 (.i (bp h.ab (a:Int)).tag) rfl A ?_;refine ta 6 (.i (n:Int)) rfl A ?_;refine wpAnyH_ready (rs:=[7]) (by kernel_rfl) (by simp) ?_;refine AllReadyH.cons rfl (fun K7 ay=>?_) AllReadyH.nil;go_simp;refine (au.o _ an.o).mono ?_;rintro r w2 ⟨rfl,az⟩;have F:Bl E w2:=an.o.trans az;refine ay.o _ _ (fun p hp=>F.cell hp) fun A=>?_;refine wpAnyH_done (by kernel_rfl) ?_ _;clear A ay;try simp only [Act.put,p1q,p4q,p3q,p2q,p5q,p6q]
      have ei:=F.size;have ad:=aj (N.o.below F);have a7:Hid (Below (w.heap.size+1+1) W0 w2):=Z.o.trans (F.mono (by omega));clear az F au an N Z t0 t1 c0 s3 b0 b1 b2 b3 b4 bl;have ac:=aj ad.o.row;have et:w.heap.size+1+1<=w2.heap.size:=by omega
      have L:Hid (D.length+1<=maxLen/\(D.length+1)*8<=140737488355328/\w.heap.size+1+1<=(w2.alloc (.cells #[.i v] 3)).heap.size):=⟨by unfold maxLen;omega,by omega,by simp;omega⟩;go_wp2_with (at_builtin;refine wpList_append_lies _ rfl _ _ 22 rfl (w.heap.size+1+1) 3 iI (.i 0) 1 8 underlying22 ck a2 a3 a4 rfl (by decide) (.slice ce D.length cf) D.length (b8 D) rfl (ac.o.alloc _) ⟨w2.heap.size,0,none⟩ 1 1 [.i v] rfl rfl (news_of_block (heap_alloc_new w2 _)) (by intro u hu;simp at hu;subst hu;rfl) (by omega) L.o.1 L.o.2.1 L.o.2.2 _ rfl ?_);intro gA cA w3 I G ah a1;have X:Bl w2 (w2.alloc (.cells #[.i v] 3)):=(br _ _).alloc (nlq _) _;have sA:=ad.o.below X;have s3:=sA.told (l:=[v]) (vt':=.slice (some ⟨gA,0,none⟩) (D.length+1) cA) G (by
       show w3.ownsRow _ 3 1 (.slice (some ⟨gA,0,none⟩) (D.length+1) cA) (D++ [v]).length (b8 (D++ [v]));rw [length_append,Eu];exact I) (ah.elim (fun q=>inl q.symm) fun q=>inr ⟨gA,rfl,by simp;omega⟩)
      have ai:Below (w.heap.size+1+1) W0 w3:=a7.o.trans ((X.mono (by have:=bz ad.o.bx.blk;omega)).trans (sA.bel G));have HF:Hid (Sh (w.heap.size+1+1) w3 (w.heap.size+1+1) av (.slice (some ⟨gA,0,none⟩) (D.length+1) cA) ((range (n+1)).foldl (kf.word d h.ab (bp h.ab (a:Int))) ⟨s.met,s.o++ [(bp h.ab (a:Int)).tag,(bp h.ab (a:Int)).len,(bp h.ab (a:Int)).hash]⟩)/\Below (w.heap.size+1+1) W0 w3):=⟨by rw [cu.o,a8.o,if_neg (by simp)];exact s3,ai⟩;clear I G ah X sA s3 ai ac L;go_wp2_with fail;go_roundw
      case rel=>exact ⟨n+1,av,by go_num,by omega,HF.o⟩
      case measure=>simp [intOf];omega
     rw [hrf]at au a8;clear hrf;go_wp2_with fail;refine wp_region_held_drew (S:=fun W'=>∀p:Addr,p.block<E.heap.size->W'.cell? p=E.cell? p) (by kernel_rfl) (fun p hp=>rfl) fun A=>?_;refine ta 0 (.agg (K5 aC cC aS cS aF cF aN cN aT cT d)) rfl A ?_;refine ta 1 (.p w.heap.size) rfl A ?_;refine ta 2 (.slice (some ⟨bW,oW,none⟩) h.ab.length cW) rfl A ?_;refine ta 3 (.i (a:Int)) rfl A ?_;refine ta 4 (.pointer (some ⟨bW,oW+a,none⟩)) rfl A ?_;refine ta 5 (.i (bp h.ab (a:Int)).tag) rfl A ?_;refine ta 6 (.i (n:Int)) rfl A ?_;refine wpAnyH_ready (rs:=[7]) (by kernel_rfl) (by simp) ?_;refine AllReadyH.cons rfl (fun K7 ay=>?_) AllReadyH.nil;go_simp;refine (au.o _ an.o).mono ?_;rintro r w2 ⟨rfl,az⟩;have F:Bl E w2:=an.o.trans az;refine ay.o _ _ (fun p hp=>F.cell hp) fun A=>?_;refine wpAnyH_done (by kernel_rfl) ?_ _;clear A ay;try simp only [Act.put,p1q,p4q,p3q,p2q,p5q,p6q]
     have ei:=F.size;have ad:=aj (N.o.below F);have a7:Hid (Below (w.heap.size+1+1) W0 w2):=Z.o.trans (F.mono (by omega));clear az F au an N Z t0 t1 c0 s3 b0 b1 b2 b3 b4 bl;have aw:=aj (z00 w2 (w.heap.size+1+1) (w.heap.size+1+1) av _ ad.o.bx (by show u.met.length<=_;omega) v);go_wp2_with fail;refine aw.o.mono ?_;rintro r w5 ⟨rfl,a6,x5,m5⟩;have a5:=ad.o.turned x5 m5;have ak:Below (w.heap.size+1+1) W0 w5:=a7.o.trans (ad.o.bx.bel m5 (by omega));have af:=aj a5;have b6:=aj ak;have ac:=aj af.o.row;have ej:=ak.size;have L:Hid (D.length+1<=maxLen/\(D.length+1)*8<=140737488355328/\w.heap.size+1+1<=(w5.alloc (.cells #[.i (xi u.met v)] 3)).heap.size):=⟨by unfold maxLen;omega,by omega,by simp;omega⟩;generalize xi u.met v=nv at*;clear x5 m5 a5 ak aw ad a7;go_wp2_with (at_builtin;refine wpList_append_lies _ rfl _ _ 22 rfl (w.heap.size+1+1) 3 iI (.i 0) 1 8 underlying22 ck a2 a3 a4 rfl (by decide) (.slice ce D.length cf) D.length (b8 D) rfl (ac.o.alloc _) ⟨w5.heap.size,0,none⟩ 1 1 [.i nv] rfl rfl (news_of_block (heap_alloc_new w5 _)) (by intro u hu;simp at hu;subst hu;rfl) (by omega) L.o.1 L.o.2.1 L.o.2.2 _ rfl ?_);intro gA cA w3 I G ah a1;have X:Bl w5 (w5.alloc (.cells #[.i nv] 3)):=(br _ _).alloc (nlq _) _;have sA:=af.o.below X;have s3:=sA.told (l:=[nv]) (vt':=.slice (some ⟨gA,0,none⟩) (D.length+1) cA) G (by
      show w3.ownsRow _ 3 1 (.slice (some ⟨gA,0,none⟩) (D.length+1) cA) (D++ [nv]).length (b8 (D++ [nv]));rw [length_append,Eu];exact I) (ah.elim (fun q=>inl q.symm) fun q=>inr ⟨gA,rfl,by simp;omega⟩)
     have ai:Below (w.heap.size+1+1) W0 w3:=b6.o.trans ((X.mono (by have:=bz af.o.bx.blk;omega)).trans (sA.bel G));have HF:Hid (Sh (w.heap.size+1+1) w3 (w.heap.size+1+1) a6 (.slice (some ⟨gA,0,none⟩) (D.length+1) cA) ((range (n+1)).foldl (kf.word d h.ab (bp h.ab (a:Int))) ⟨s.met,s.o++ [(bp h.ab (a:Int)).tag,(bp h.ab (a:Int)).len,(bp h.ab (a:Int)).hash]⟩)/\Below (w.heap.size+1+1) W0 w3):=⟨by rw [cu.o,a8.o,if_pos trivial];exact s3,ai⟩;clear I G ah X sA s3 ai ac L;go_wp2_with fail;go_roundw
     case rel=>exact ⟨n+1,a6,by go_num,by omega,HF.o⟩
     case measure=>simp [intOf];omega
    have c8:n=tn:=by omega
    have bu:((range n).foldl (kf.word d h.ab (bp h.ab (a:Int))) ⟨s.met,s.o++ [(bp h.ab (a:Int)).tag,(bp h.ab (a:Int)).len,(bp h.ab (a:Int)).hash]⟩)=s.thing d h.ab (a:Int):=by unfold kf.thing;rw [bb.o,c8]
    have HF:Hid (Sh (w.heap.size+1+1) E (w.heap.size+1+1) av _ (s.thing d h.ab (a:Int))/\Ay d h ts rs (k+1) (s.thing d h.ab (a:Int))/\Below (w.heap.size+1+1) W0 E):=⟨bu ▸ Y,a9.o,W⟩;have q7:decide ((n:Int)<(bp h.ab (a:Int)).len)=false:=decide_eq_false (by have:=cc.o;have:=bb.o;omega);have q8:¬(n:Int)<(bp h.ab (a:Int)).len:=by have:=cc.o;have:=bb.o;omega
    clear bu Y W HJ j0 c8;go_wp2_with fail;go_roundw
    case rel=>exact ⟨k+1,av,_,by go_num,by omega,HF.o⟩
    case measure=>simp [intOf];omega
theorem z1o (O:nh (· <B) w kC kS kF kN kT d) (Y:B<=w.heap.size) (hz:nb d=0):
 Calls prog 54 #[.agg #[kC,kS,kF,kN,kT]] w fun r w'=>r=.returned (.i 0)/\Bl w w':=by
 have h0:jy d.am=0:=by
  by_cases h:jy d.am=0
  ·exact h
  exfalso;have e:nb d=4:=by simp [nb,h]
  rw [hz]at e;cases e
 have HK:=aj O;obtain ⟨aC,cC,aS,cS,aF,cF,aN,cN,aT,cT,rfl,rfl,rfl,rfl,rfl⟩:=O.agg;clear O;have X:=aj (fun o=>(br w.heap.size w).alloc (nlq _) o);go_enter func54,ntmps54;go_wp2_with fail;refine (z1n _ B d.am _ (HK.o.C.keptC (Kp.below ((X.o _).mono Y))) (lt3 Y (X.o _).size) h0).mono ?_;rintro r G ⟨F,jC,jS,jF,jN,jT,rfl,hj⟩;have E:=(F.block w.heap.size (by simp)).trans (heap_alloc_new w _);have A:Bl w G:=(X.o _).trans (F.mono (X.o _).size);have N:=hj.mono (M':=(· <G.heap.size)) fun k h=>h.2;obtain ⟨bC,eC,bS,eS,bF,eF,bN,eN,bT,eT,rfl,rfl,rfl,rfl,rfl⟩:=hj.agg;have Aq:=bz E;have xk:=cells5 E;have D:=aj (fun o=>(br G.heap.size G).alloc (nlq _) o);have J:Hid (∀W,Bl G W->Calls prog 118 #[.agg (K5 aC cC aS cS aF cF aN cN aT cT d),.agg #[.slice bC (qz d.am).am.length eC,.slice bS (qz d.am).bj.length eS,.slice bF (qz d.am).fields.length eF,.slice bN (qz d.am).names.length eN,.slice bT (qz d.am).ba.length eT]] W fun r w'=>r=.returned (.bool (gj d (qz d.am)))/\Bl W w'):=fun W hW=>zqn W G.heap.size _ _ _ _ _ _ _ _ _ _ d (qz d.am) ((HK.o.kept (Kp.below ((A.trans (hW.mono A.size)).mono Y))).mono fun k O=>ll3 O (lt3 Y A.size)) (N.kept (Kp.below hW)) rfl hW.size;have V:gj d (qz d.am)=true:=by
  cases e:gj d (qz d.am)with
  | true=>rfl
  | false=>exfalso;have e2:nb d=4:=by simp [nb,h0,e]
           rw [hz]at e2;cases e2
 have I:=aj A;rw [V]at J;clear F hj N h0 E A hz V;generalize hrd:qz d.am=rd at*;clear hrd;go_wp2_with (go_at_call 118;refine (J.o _ (D.o _)).mono ?_;rintro r w2 ⟨rfl,L⟩;have Z:=aj (I.o.trans (((D.o _).trans (L.mono (D.o _).size)).mono I.o.size));clear L);go_ret;exact ⟨rfl,Z.o⟩
theorem z1p:nb d=if qw d=true then 0 else 4:=by rw [zq2];unfold iq;simp
theorem z1q (g:Hd B w vW vO kC kS kF kN kT h d) (ad:h.next<=9223372036854775807) (L:cg d h=0):
 Calls prog 21 #[.agg #[vW,.i h.ae,.i h.old,.i h.bk,.i h.be,vO,.i h.next],.agg #[kC,kS,kF,kN,kT]] w fun r w'=>r=.returned (.i 0)/\Bl w w':=by
 have N:=aj g;obtain ⟨aW,cW,aO,cO,aC,cC,aS,cS,aF,cF,aN,cN,aT,cT,rfl,rfl,rfl,rfl,rfl,rfl,rfl⟩:=g.agg;clear g;obtain ⟨W0,aa,A,ak,G,I⟩:=nf w (H7 aW cW aO cO h) (K5 aC cC aS cS aF cF aN cN aT cT d) 24 36;have al:=bz G;have Aq:=bz I;have ck:=il G;have ek:=cells5 I;have O:=aj A;have X:=aj aa;have Y:=aj (And.intro G I);have F:qw d=true:=by
  unfold cg at L;cases e:qw d
  ·rw [e]at L;cases L
  rfl
 have J:=aj (z1o W0 B _ _ _ _ _ d (N.o.below (A.mono N.o.le)).lk (N.o.below (A.mono N.o.le)).le (by rw [z1p,F];rfl));have E:=Fu F;have ai:Hid (∀V,Bl W0 V->Calls prog 55 #[.agg (H7 aW cW aO cO h),.agg (K5 aC cC aS cS aF cF aN cN aT cT d)] V fun r w'=>r=.returned (.i 0)/\Bl V w'):=fun V hV=>by
  have g2:=N.o.below ((A.trans (hV.mono A.size)).mono N.o.le);have hz:gp d h=0:=by unfold cg at L;rw [F,if_pos rfl]at L;rw [znz E];exact L
  have:=z1l V B _ _ _ _ _ _ _ h d g2.sW g2.sO g2.lk g2.le E ad hz;rw [hz]at this;exact this
 rw [X.o]at J;clear G I A aa ak F E ad L;go_enter func21,ntmps21;go_wp2_with fail;refine J.o.mono ?_;rw [<-X.o];rintro r w1 ⟨rfl,D⟩;have Z:=O.o.trans (D.mono O.o.size);have G:=(D.block _ al).trans Y.o.1;have I:=(D.block _ Aq).trans Y.o.2;have m0:=bz G;have m1:=bz I;have fk:=il G;have gk:=cells5 I;have ah:=aj (ai.o w1 D);have W:=aj Z;clear D Z G I J;go_wp2_with fail;refine ah.o.mono ?_;rintro r w2 ⟨rfl,ac⟩;have af:=aj (W.o.trans (ac.mono W.o.size));clear ac;go_wp2_with fail;go_ret;exact ⟨rfl,af.o⟩
theorem z1r {d:ax} {h:ar} {ts:List bq} (r:Right d h ts) {rs:List Int} (D:∀v∈rs,cq ts v=true):(ko d h rs).length<=rs.length+h.ab.length:=by
 have A:∀(f k:Nat) (s:kf),Ay d h ts rs k s->(kf.all d h.ab f k s).o.length<=rs.length+h.ab.length:=by
  intro f;induction f with
  | zero=>intro k s i;exact (i.small r).2
  | succ f ih=>
    intro k s i;rw [kf.all];cases ha:s.met[k]? with
    | none=>exact (i.small r).2
    | some a=>exact ih (k+1) _ (i.next r ha).1
 exact A _ 0 _ (Ay.start D)
theorem z1s {ts:List bq} {rs:List Int} (h1:rs.length<=1000) (A:∀v∈rs,cq ts v=true):j8 ts rs=0:=by
 unfold j8;rw [decide_eq_true (by omega:(rs.length:Int)<=1000),if_pos rfl];have:(rs.any fun x=>!cq ts x)=false:=any_eq_false.2 fun v D=>by rw [A v D];simp
 rw [this];rfl
theorem z1t (g:Hd B w vW vO kC kS kF kN kT h d) (gx:Hd B w xW xO kC kS kF kN kT x d) (ts tx:List bq) (rt:Right d h ts) (rx:Right d x tx) (bb:x.next<=9223372036854775807) (vR:Value) (rs:List Int) (hs:SL 1 RI (· <B) w vR rs) (hr:∀v∈rs,cq ts v=true) (b7:rs.length<=1000) (vM:Value) (E:List Int) (hm:SL 1 RI (· <B) w vM E) (al:∀v∈E,cq tx v=true) (a9:E.length=rs.length) (bd:ko d x E=ko d h rs):
 Calls prog 39 #[.agg #[vW,.i h.ae,.i h.old,.i h.bk,.i h.be,vO,.i h.next],.agg #[kC,kS,kF,kN,kT],vR,.agg #[xW,.i x.ae,.i x.old,.i x.bk,.i x.be,xO,.i x.next],vM] w fun r w'=>r=.returned (.bool true)/\Bl w w':=by
 have HG:=aj g;have bl:=aj gx;have bs:=aj hs;have bn:=aj hm;obtain ⟨aW,cW,aO,cO,O,cC,Y,cS,W,cF,X,cN,Z,cT,rfl,rfl,rfl,rfl,rfl,rfl,rfl⟩:=g.agg;obtain ⟨aX,cX,rfl,-⟩:=gx.sW;obtain ⟨aQ,cQ,rfl,-⟩:=gx.sO;obtain ⟨aR,cR,rfl,-⟩:=hs;obtain ⟨aM,cM,rfl,-⟩:=hm;have b5:=g.le;clear g gx;obtain ⟨F,a5,aa,b0,k0,k1,k2⟩:=we w (H7 aW cW aO cO h) (K5 O cC Y cS W cF X cN Z cT d) (H7 aX cX aQ cQ x) 24 36 24;have b9:=bz k0;have Aq:=bz k1;have lk2:=bz k2;have av:=aj aa;have bi:=aj a5;have ac:=il k0;have bc:=cells5 k1;have xc:=il k2;have D:Hid (∀V,Bl F V->Hd B V (.slice aW h.ab.length cW) (.slice aO h.ap.length cO) (.slice O d.am.length cC) (.slice Y d.bj.length cS) (.slice W d.fields.length cF) (.slice X d.names.length cN) (.slice Z d.ba.length cT) h d/\Hd B V (.slice aX x.ab.length cX) (.slice aQ x.ap.length cQ) (.slice O d.am.length cC) (.slice Y d.bj.length cS) (.slice W d.fields.length cF) (.slice X d.names.length cN) (.slice Z d.ba.length cT) x d/\SL 1 RI (· <B) V (.slice aR rs.length cR) rs/\SL 1 RI (· <B) V (.slice aM E.length cM) E):=fun V G=>by have hb:=(aa.trans (G.mono aa.size)).mono HG.o.le;exact ⟨HG.o.below hb,bl.o.below hb,bs.o.keptI (Kp.below hb),bn.o.keptI (Kp.below hb)⟩
 have bm:Hid (∀V,Bl F V->Calls prog 21 #[.agg (H7 aX cX aQ cQ x),.agg (K5 O cC Y cS W cF X cN Z cT d)] V fun r w'=>r=.returned (.i 0)/\Bl V w'):=fun V G=>z1q V B _ _ _ _ _ _ _ x d (D.o V G).2.1 bb rx.err;have bh:Hid (∀V,Bl F V->Calls prog 85 #[.agg (H7 aX cX aQ cQ x),.agg (K5 O cC Y cS W cF X cN Z cT d),.slice aM E.length cM] V fun r w'=>r=.returned (.i 0)/\Bl V w'):=fun V G=>by have:=zt4 V B _ _ _ _ _ _ _ x d (D.o V G).2.1 rx.sized (Fu rx.ok) tx rx.both _ E (D.o V G).2.2.2;rw [z1s (by omega) al]at this;exact this
 have bo:=aj fun V (G:Bl F V)=>z07 V B _ _ _ _ _ _ _ h d (D.o V G).1 ts rt _ rs (D.o V G).2.2.1 hr (by omega);have az:=aj fun V (G:Bl F V)=>z07 V B _ _ _ _ _ _ _ x d (D.o V G).2.1 tx rx _ E (D.o V G).2.2.2 al (by omega);rw [bd]at az;have ay:Hid ((ko d h rs).length<=1000000):=by have h1:=z1r rt hr;have z1:=rt.sized.ae;have z2:=rt.sized.old;have z3:=rt.sized.len;show _<=_;omega
 generalize ko d h rs=sl at*;have af:Hid (Bl F F.drew):=(br _ _).drew;have ad:(rs.length:Int)=E.length:=by omega
 have b6:((rs.length:Int)==(E.length:Int))=true:=by rw [ad];simp
 clear k0 k1 k2 aa a5 b0 rt rx hr al bd bb ad;have b1:=aj a9;clear a9;go_enter func39,ntmps39;go_wp2_with fail;rw [<-bi.o];refine wp_region_held_drew (S:=fun W'=>∀p:Addr,p.block<F.heap.size->W'.cell? p=F.cell? p) (by kernel_rfl) (fun p N=>rfl) fun A=>?_;refine ta 0 (.agg (H7 aX cX aQ cQ x)) rfl A ?_;refine ta 1 (.agg (K5 O cC Y cS W cF X cN Z cT d)) rfl A ?_;refine wpAnyH_ready (rs:=[2]) (by kernel_rfl) (by simp) ?_;refine AllReadyH.cons rfl (fun K2 bu=>?_) AllReadyH.nil;go_simp;refine (bm.o _ af.o).mono ?_;rintro r w1 ⟨rfl,a6⟩;have I:Bl F w1:=af.o.trans (a6.mono af.o.size);refine bu.o _ _ (fun p N=>I.cell N) fun A=>?_;refine ta 3 (.bool true) rfl A ?_;refine ta 4 (.bool true) rfl A ?_;refine ta 5 (.agg (H7 aX cX aQ cQ x)) rfl A ?_;refine ta 6 (.agg (K5 O cC Y cS W cF X cN Z cT d)) rfl A ?_;refine ta 7 (.slice aM E.length cM) rfl A ?_;refine wpAnyH_ready (rs:=[8]) (by kernel_rfl) (by simp) ?_;refine AllReadyH.cons rfl (fun K8 bx=>?_) AllReadyH.nil;go_simp;refine (bh.o _ I).mono ?_;rintro r w2 ⟨rfl,a7⟩;have J:Bl F w2:=I.trans (a7.mono I.size);refine bx.o _ _ (fun p N=>J.cell N) fun A=>?_;refine ta 9 (.bool true) rfl A ?_;refine ta 10 (.bool true) rfl A ?_;refine ta 11 (.bool true) rfl A ?_;refine ta 12 (.slice aR rs.length cR) rfl A ?_;refine ta 13 (.i rs.length) rfl A ?_;refine ta 14 (.slice aM E.length cM) rfl A ?_;refine ta 15 (.i E.length) rfl A ?_;refine ta 16 (.bool true) rfl A ?_;refine ta 17 (.bool true) rfl A ?_;refine ta 18 (.bool true) rfl A ?_;refine ta 19 (.agg (H7 aW cW aO cO h)) rfl A ?_;refine ta 20 (.agg (K5 O cC Y cS W cF X cN Z cT d)) rfl A ?_;refine ta 21 (.slice aR rs.length cR) rfl A ?_;refine ta 23 (.agg (H7 aX cX aQ cQ x)) rfl A ?_;refine ta 24 (.agg (K5 O cC Y cS W cF X cN Z cT d)) rfl A ?_;refine ta 25 (.slice aM E.length cM) rfl A ?_;refine wpAnyH_ready (rs:=[22]) (by kernel_rfl) (by simp) ?_;refine AllReadyH.cons rfl (fun b2 a0=>?_) AllReadyH.nil;go_simp;refine (bo.o _ J).mono ?_;rintro r w3 ⟨a8,v3,rfl,an⟩;obtain ⟨a3,c3,rfl⟩:=ku an;have L:Bl F w3:=J.trans (a8.mono J.size);refine a0.o _ _ (fun p N=>L.cell N) fun A=>?_;refine wpAnyH_ready (rs:=[26]) (by kernel_rfl) (by simp) ?_;refine AllReadyH.cons rfl (fun b3 a1=>?_) AllReadyH.nil;go_simp;refine (az.o _ L).mono ?_;rintro r w4 ⟨ah,v4,rfl,au⟩;obtain ⟨a4,c4,rfl⟩:=ku au;have ai:Bl F w4:=L.trans (ah.mono L.size);have aw:Hid (Calls prog 29 #[.slice a3 sl.length c3,.slice a4 sl.length c4] w4 fun r w'=>r=.returned (.bool true)/\∃n,w'=w4.drewN n):=by have:=zr9 w4 _ _ _ _ sl sl (rg (km an ah) ay.o) (rg au ay.o);rw [zsb]at this;exact this
 refine a1.o _ _ (fun p N=>ai.cell N) fun A=>?_;refine wpAnyH_ready (rs:=[27]) (by kernel_rfl) (by simp) ?_;refine AllReadyH.cons rfl (fun b4 a2=>?_) AllReadyH.nil;go_simp;refine aw.o.mono ?_;rintro r w5 ⟨rfl,m5,rfl⟩;have ak:=zsa ai m5;refine a2.o _ _ (fun p N=>ak.cell N) fun A=>?_;refine ta 28 (.bool true) rfl A ?_;refine ta 29 (.bool true) rfl A ?_;refine wpAnyH_done (by kernel_rfl) ?_ _;clear A;try simp only [Act.put,p1q,p4q,p3q,p2q,p5q,p6q]
 have bf:Hid (Bl w (w4.drewN m5)):=av.o.trans (ak.mono av.o.size);clear I J L ai ak a6 a7 a8 ah an au aw;go_wp2_with fail;go_ret;exact ⟨rfl,bf.o⟩
theorem z1u {d:ax} {h:ar} {ts I:List bq} (r:Right d h ts) (E:0<=leftD h) (A:cw d.am.length d.fields h.ab (h.ae+1) h.be=some I) (rs:List Int) (F:∀v∈rs,cq ts v=true) (G:∀v∈h.ab,(Lit.int .i64 v).wf=true):
 ∃tx,Right d (bw d h rs) tx/\(∀v∈cb h rs,cq tx v=true)/\(cb h rs).length=rs.length/\ko d (bw d h rs) (cb h rs)=ko d h rs/\(∀v∈(bw d h rs).ab,(Lit.int .i64 v).wf=true)/\(bw d h rs).bk=1/\(bw d h rs).ap= []/\(bw d h rs).next=h.next:=by
 obtain ⟨J,L,-⟩:=zxk r E A rs F;obtain ⟨k,D⟩:=zx2 r E A rs F;have n:=zx1 r k;rw [J,L];refine ⟨_,n.right k r,k.leads D,?_,n.shape k r D,n.small k r G,rfl,rfl,rfl⟩;unfold Ar;rw [length_map]
end Go.Proofs.YtjdnmblggdobgaaGreat
