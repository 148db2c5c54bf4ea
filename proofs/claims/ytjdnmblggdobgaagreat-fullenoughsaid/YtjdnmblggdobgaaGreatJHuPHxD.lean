import Derived.Test.YtjdnmblggdobgaaGreatJHzTHxE
import Derived.Test.YtjdnmblggdobgaaGreatHrP
import Derived.Test.YtjdnmblggdobgaaGreatJHmKHyO
set_option maxHeartbeats 8000000
set_option maxRecDepth 100000
namespace Go.Proofs.YtjdnmblggdobgaaGreat
open Go.RowKit Go.Maps Tryz
theorem z06 {A:List Int} {v:Int} (h:v∉A):jv (A++ [v]) v=A.length:=by unfold jv;refine Ai (k:=A.length) (by simp) (fun x D=>?_) (by simp);rw [List.take_left]at D;exact decide_eq_false fun e=>h (e ▸ D)
theorem z07 (A:List Int):tu A 0=A/\vi A 0=0:=⟨by unfold tu;rw [if_pos rfl],by unfold vi;rw [if_pos rfl]⟩
theorem z08 {A:List Int} {v:Int} {k:Nat} (h0:v≠0) (D:A[k]? =some v) (E:jv A v=k):tu A v=A/\vi A v=(k:Int)+1:=by
 have e:tu A v=A:=by unfold tu;rw [if_neg h0,List.contains_iff_mem.2 (List.mem_of_getElem? D),if_pos rfl]
 refine ⟨e,?_⟩;unfold vi;rw [if_neg h0,e,E]
theorem z09 {A:List Int} {v:Int} (h0:v≠0) (h:v∉A):tu A v=A++ [v]/\vi A v=(A.length:Int)+1:=by
 have e:tu A v=A++ [v]:=by unfold tu;rw [if_neg h0,if_neg (fun hc=>h (List.contains_iff_mem.1 hc))]
 refine ⟨e,?_⟩;unfold vi;rw [if_neg h0,e,z06 h]
theorem z1a (w:World) (b P:Nat) (vo:Value) (o:List Int) (x:Al b w P vo o) (ad:o.length<=1000000) (v:Int):
 Calls prog 145 #[.i v,.p P] w fun r w'=>r=.returned (.i (vi o v))/\∃vo',Al b w' P vo' (tu o v)/\j7 w.heap.size P P P (.nl) vo w vo' w':=by
 obtain ⟨iI,ac,X,Y,Z⟩:=info_parts jy;obtain ⟨O,V,rfl⟩:=kq x.row;have HX:=ag x;have c0:=bp x.blk 0 (x:=.slice O o.length V) rfl;have lP:=bz x.blk;have A:=ag (zwa w _ _ _ (ru x.row ad) v);have ai:=x.bP;clear x;by_cases N:v=0
 ·have G:=ag (z07 o);subst N;clear A;go_enter func145,ntmps145;go_wp2_with fail;go_ret;exact ⟨by rw [G.o.2];rfl,_,by rw [G.o.1];exact HX.o,j7.ofBelow (br _ _)⟩
 have aj:(v==0)=false:=by simpa using N
 rcases zxe o v with ⟨h1,L⟩ | ⟨k,h1,L⟩
 ·have G:=ag (z09 N h1);rw [L]at A;have aa:=ag HX.o.row;have I:Hid (o.length+1<=maxLen/\(o.length+1)*8<=140737488355328/\b<=(w.alloc (.cells #[.i v] 3)).heap.size):=⟨by unfold maxLen;omega,by omega,by simp;omega⟩;have w1:IntKind.i64.wrap ((o.length:Int)+1 - 1)=(o.length:Int):=by rw [IntKind.wrap_i64];omega
  have ak:IntKind.i64.wrap (((o.length+1:Nat):Int) - 1)=(o.length:Int):=by rw [IntKind.wrap_i64];omega
  have w2:IntKind.i64.wrap ((o.length:Int)+1)=(o.length:Int)+1:=gp _ (by omega) (by omega);clear h1 L N;go_enter func145,ntmps145;go_wp2_with fail;refine A.o.mono ?_;rintro r w ⟨rfl,rfl⟩;go_wp2_with (at_builtin;refine wpList_append_lies _ rfl _ _ 22 rfl b 3 iI (.i 0) 1 8 underlying22 ac X Y Z rfl (by decide) (.slice O o.length V) o.length (bw o) rfl (aa.o.alloc _) ⟨w.heap.size,0,none⟩ 1 1 [.i v] rfl rfl (World.news_of_block (heap_alloc_new w _)) (by intro u hu;simp at hu;subst hu;rfl) (by omega) I.o.1 I.o.2.1 I.o.2.2 _ rfl ?_);intro gA cA w3 E D W ah;have F:Bl w (w.alloc (.cells #[.i v] 3)):=(br _ _).alloc (nlq _) _;have xA:=HX.o.below F;have k3:w3.heap[P]? =some (.cells #[.slice O o.length V] 22 (0,0)):=(D.block P (bz xA.blk) (fun e=>xA.ne e.symm)).trans xA.blk;have d0:=bp k3 0 (x:=.slice O o.length V) rfl;have dz:=pj k3 0;have dl:=bz k3;obtain ⟨W4,J⟩:∃W4,W4=w3.setCell ⟨P,0,none⟩ (.slice (some ⟨gA,0,none⟩) (o.length+1) cA):=⟨_,rfl⟩;obtain ⟨x4,m4⟩:=xA.more (v:=v) D E (W.imp id fun e=>by simp;omega) J;have f0:=bp x4.blk 0 (x:=.slice (some ⟨gA,0,none⟩) (o.length+1) cA) rfl;have fl:=bz x4.blk;have HF:Hid (Al b W4 P (.slice (some ⟨gA,0,none⟩) (o.length+1) cA) (o++ [v])/\j7 w.heap.size P P P (.nl) (.slice O o.length V) w (.slice (some ⟨gA,0,none⟩) (o.length+1) cA) W4):=⟨x4,(j7.ofBelow F).trans (m4 _ F.size)⟩;have af:=J.symm;clear E D W F xA k3 x4 m4 J;go_wp2_with fail;go_ret;exact ⟨by rw [G.o.2];rfl,_,by rw [G.o.1];exact HF.o.1,HF.o.2⟩
 have G:=ag (z08 N h1 L);rw [L]at A;have hk:k<o.length:=by
  rcases Nat.lt_or_ge k o.length with h | h
  ·exact h
  rw [List.getElem?_eq_none h]at h1;cases h1
 have w2:IntKind.i64.wrap ((k:Int)+1)=(k:Int)+1:=gp _ (by omega) (by omega);clear h1 L N;go_enter func145,ntmps145;go_wp2_with fail;refine A.o.mono ?_;rintro r w ⟨rfl,rfl⟩;go_wp2_with fail;go_ret;exact ⟨by rw [G.o.2];rfl,_,by rw [G.o.1];exact HX.o,j7.ofBelow (br _ _)⟩
theorem Ar (args:Array Value) (w:World):(callFunc 145 args).run prog w=.ok (.enter 145 args) w:=by kernel_rfl
structure Sh (b:Nat) (w:World) (P:Nat) (vo vt:Value) (s:ja):Prop where
 bx:Al b w P vo s.met
 row:w.ownsRow b 3 1 vt s.o.length (bw s.o)
 ne:vt.ownBlock≠some P
 sep:∀j,vt.ownBlock=some j->vo.ownBlock≠some j
theorem Sh.below {b P:Nat} {w w':World} {D E:Value} {s:ja} (x:Sh b w P D E s) (A:Bl w w'):Sh b w' P D E s:=⟨x.bx.below A,mf x.row A,x.ne,x.sep⟩
theorem Sh.turned {b P:Nat} {w w':World} {D A E:Value} {s:ja} {m:List Int} (x:Sh b w P D E s) (F:Al b w' P A m) (k:j7 w.heap.size P P P (.nl) D w A w'):Sh b w' P A E ⟨m,s.o⟩:=
 ⟨F,zv0 x.row k (fun j e G=>⟨G,fun h=>x.ne (by rw [e,h]),fun h=>x.ne (by rw [e,h]),fun h=>x.ne (by rw [e,h]),(fun h=>by cases h),x.sep j e⟩),x.ne,fun j e h=>by
  rcases k.gv j h with q | q
  ·exact x.sep j e q
  have:=(x.row.lt j e).2;omega⟩
theorem Sh.told {b P:Nat} {w w':World} {D A vt':Value} {s:ja} {l:List Int} (x:Sh b w P D A s) (F:w.grownBy w' A.ownBlock) (I:w'.ownsRow b 3 1 vt' (s.o++l).length (bw (s.o++l))) (E:vt'.ownBlock=A.ownBlock\/∃j,vt'.ownBlock=some j/\w.heap.size<=j):Sh b w' P D vt' ⟨s.met,s.o++l⟩:=by
 have J:=bz x.bx.blk;refine ⟨⟨(F.block P J (fun e=>x.ne e.symm)).trans x.bx.blk,x.bx.row.kept F ?_,x.bx.bP,x.bx.ne⟩,I,?_,?_⟩
 ·cases hv:A.ownBlock with
  | none=>cases D.ownBlock<;>simp
  | some j=>exact Or.inr (x.sep j hv)
 ·rcases E with q | ⟨j,q,G⟩
  ·rw [q];exact x.ne
  rw [q];intro e;have:=ojq e;omega
 intro i e h;rcases E with q | ⟨j,q,G⟩
 ·rw [q]at e;exact x.sep i e h
 rw [q]at e;have e:=ojq e;have:=(x.bx.row.lt i h).2;omega
theorem Sh.bel {b P:Nat} {w w':World} {E A:Value} {s:ja} (x:Sh b w P E A s) (D:w.grownBy w' A.ownBlock):Below b w w':=
 (br b w).grown D (lt3 x.bx.bP (Nat.le_of_lt (bz x.bx.blk))) (fun k e=>(x.row.lt k e).1)
theorem z1b {A:List Int} {v u:Int} :u∈tu A v↔u∈A\/(u=v/\v≠0):=by
 unfold tu;by_cases h0:v=0
 ·rw [if_pos h0];exact ⟨Or.inl,fun h=>h.elim id fun h=>absurd h0 h.2⟩
 rw [if_neg h0];cases hc:A.contains v with
 | true=>
   have D:=List.contains_iff_mem.1 hc;rw [if_pos rfl];exact ⟨Or.inl,fun h=>h.elim id fun h=>h.1 ▸ D⟩
 | false=>
   rw [if_neg (by simp),List.mem_append,List.mem_singleton];exact ⟨fun h=>h.imp id fun h=>⟨h,h0⟩,fun h=>h.imp id fun h=>h.1⟩
theorem z1c {A:List Int} {v:Int} (D:A.Nodup):(tu A v).Nodup:=by
 unfold tu;split
 ·exact D
 split
 ·exact D
 rename_i hc;refine List.nodup_append.2 ⟨D,by simp,?_⟩;intro a F b E e;rw [List.mem_singleton]at E;subst E;subst e;exact hc (List.contains_iff_mem.2 F)
theorem z1d (A:List Int) (v:Int):∃e,tu A v=A++e:=by
 unfold tu;split
 ·exact ⟨[],(List.append_nil _).symm⟩
 split
 ·exact ⟨[],(List.append_nil _).symm⟩
 exact ⟨[v],rfl⟩
structure xx (ts:List bk) (s0 s:ja) (n:Nat):Prop where
 nd:s.met.Nodup
 sub:∀v∈s.met,∃t∈ts,t.loc=v
 ext:∃e,s.met=s0.met++e
 o:s.o.length=s0.o.length+n
section
variable {d:bd} {h:ar} {ts:List bk}
theorem xx.turn {s0 s:ja} {n:Nat} (g:xx ts s0 s n) {v:Int} (F:b8 ts v=true):xx ts s0 (s.turn v) (n+1):=by
 refine ⟨z1c g.nd,fun u E=>?_,?_,?_⟩
 ·rcases z1b.1 E with h | ⟨rfl,h⟩
  ·exact g.sub u h
  exact Du F h
 ·obtain ⟨e,A⟩:=g.ext;obtain ⟨f,D⟩:=z1d s.met v;exact ⟨e++f,by show tu s.met v=_;rw [D,A,List.append_assoc]⟩
 show (s.o++ [vi s.met v]).length=_;rw [List.length_append,g.o];rfl
theorem xx.roots:∀(rs:List Int) {s0 s:ja} {n:Nat},xx ts s0 s n->(∀v∈rs,b8 ts v=true)->xx ts s0 (rs.foldl ja.turn s) (n+rs.length)
 | [],_,_,_,g,_=>g
 | v::rs,_,s,n,g,h=>by have:=xx.roots rs (g.turn (h v (List.mem_cons_self ..))) fun u A=>h u (List.mem_cons_of_mem _ A);rw [show n+1+rs.length=n+(v::rs).length by rw [List.length_cons];omega]at this;exact this
theorem xx.word (r:Right d h ts) {s0 s:ja} {n:Nat} (g:xx ts s0 s n) {t:bk} (A:t∈ts) {i:Nat} (hi:(i:Int)<t.len):xx ts s0 (s.word d h.ab t i) (n+1):=by
 unfold ja.word;cases hr:jp d.fields t i with
 | true=>exact g.turn (zu6 r A (Co hi hr))
 | false=>
   refine ⟨g.nd,g.sub,g.ext,?_⟩;show (s.o++ [wd h.ab (t.loc+3+i)]).length=_;rw [List.length_append,g.o];rfl
theorem xx.ab (r:Right d h ts) {t:bk} (A:t∈ts):∀(is:List Nat) {s0 s:ja} {n:Nat},xx ts s0 s n->(∀i∈is,(i:Int)<t.len)->xx ts s0 (is.foldl (ja.word d h.ab t) s) (n+is.length)
 | [],_,_,_,g,_=>g
 | i::is,_,s,n,g,hi=>by have:=xx.ab r A is (g.word r A (hi i (List.mem_cons_self ..))) fun j D=>hi j (List.mem_cons_of_mem _ D);rw [show n+1+is.length=n+(i::is).length by rw [List.length_cons];omega]at this;exact this
theorem z1e (r:Right d h ts):((ts.map bk.loc).map fun a=>3+wd h.ab (a+1)).sum<=h.ab.length:=by
 have z:=r.sized;have L:=z.ae;have N:=z.len;have O:=z.bo;have V:=z.ba;have e:((ts.map bk.loc).map fun a=>3+wd h.ab (a+1))=ts.map fun t=>3+t.len:=by rw [List.map_map];refine List.map_congr_left fun t E=>?_;show 3+wd h.ab (t.loc+1)=3+t.len;rw [<-congrArg bk.len (pg r E).symm];rfl
 rw [e];obtain ⟨G,F,A,D,rfl⟩:=xu r.both;have I:=zu1 _ 1 G (nlq _) (by omega) A;have J:=zu1 _ (h.ae+1) F (nlq _) (by omega) D;rw [List.map_append,List.sum_append];omega
theorem z1f (r:Right d h ts) {l:List Int} (E:l.Nodup) (F:∀v∈l,∃t∈ts,t.loc=v):(l.map fun a=>3+wd h.ab (a+1)).sum<=h.ab.length:=by
 refine Int.le_trans (zu0 l (ts.map bk.loc) E (fun x D=>?_) fun x D=>?_) (z1e r)
 ·obtain ⟨t,A,e⟩:=F x D;exact List.mem_map.2 ⟨t,A,e⟩
 obtain ⟨t,A,rfl⟩:=List.mem_map.1 D;have e:t.len=wd h.ab (t.loc+1):=congrArg bk.len (pg r A);obtain ⟨-,-,q,-⟩:=zxx r A;have:=vd q;omega
theorem z1g (r:Right d h ts) {l:List Int} (A:l.Nodup) (D:∀v∈l,∃t∈ts,t.loc=v):l.length<h.ab.length:=
 Nat.lt_of_le_of_lt (zvh l (ts.map bk.loc) A fun x F=>by
  obtain ⟨t,E,e⟩:=D x F;exact List.mem_map.2 ⟨t,E,e⟩) (zvm r)
structure yz (d:bd) (h:ar) (ts:List bk) (rs:List Int) (k:Nat) (s:ja):Prop where
 nd:s.met.Nodup
 sub:∀v∈s.met,∃t∈ts,t.loc=v
 o:(s.o.length:Int)=rs.length+((s.met.take k).map fun a=>3+wd h.ab (a+1)).sum
 fin:(ja.all d h.ab (h.ab.length+1 - k) k s).o=ii d h rs
theorem yz.small (r:Right d h ts) {rs:List Int} {k:Nat} {s:ja} (i:yz d h ts rs k s):s.met.length<h.ab.length/\s.o.length<=rs.length+h.ab.length:=by refine ⟨z1g r i.nd i.sub,?_⟩;have h1:=z1f r (l:=s.met.take k) (i.nd.sublist (List.take_sublist _ _)) fun v A=>i.sub v (List.mem_of_mem_take A);have D:=i.o;omega
theorem yz.start {rs:List Int} (A:∀v∈rs,b8 ts v=true):yz d h ts rs 0 (rs.foldl ja.turn ⟨[],[]⟩):=by have g:=xx.roots (ts:=ts) rs (s0:=⟨[],[]⟩) (s:=⟨[],[]⟩) (n:=0) ⟨List.nodup_nil,fun v D=>(by cases D),⟨[],rfl⟩,rfl⟩ A;refine ⟨g.nd,g.sub,?_,rfl⟩;have:=g.o;simp at this;simp [this]
theorem yz.next (r:Right d h ts) {rs:List Int} {k:Nat} {s:ja} (i:yz d h ts rs k s) {a:Int} (A:s.met[k]? =some a):yz d h ts rs (k+1) (s.thing d h.ab a)/\(s.thing d h.ab a).o.length=s.o.length+3+(bj h.ab a).len.toNat:=by
 obtain ⟨t,I,rfl⟩:=i.sub a (List.mem_of_getElem? A);have D:k<s.met.length:=by
  rcases Nat.lt_or_ge k s.met.length with h | h
  ·exact h
  rw [List.getElem?_eq_none h]at A;cases A
 have O:=(i.small r).1;have E:=pg r I;have N:0<=t.len:=vd (zxx r I).2.2.1;have g:=xx.ab r I (List.range t.len.toNat) (s0:=s) (s:=⟨s.met,s.o++ [t.tag,t.len,t.hash]⟩) (n:=3) ⟨i.nd,i.sub,⟨[],(List.append_nil _).symm⟩,by rw [List.length_append];rfl⟩ (fun j L=>by have:=List.mem_range.1 L;omega);have e:s.thing d h.ab t.loc=(List.range t.len.toNat).foldl (ja.word d h.ab t) ⟨s.met,s.o++ [t.tag,t.len,t.hash]⟩:=by unfold ja.thing;rw [<-E]
 rw [<-e]at g;obtain ⟨V,F⟩:=g.ext;have G:=g.o;rw [List.length_range]at G;refine ⟨⟨g.nd,g.sub,?_,?_⟩,by rw [G,<-E];omega⟩
 ·have h1:=i.o;have J:(s.thing d h.ab t.loc).met.take (k+1)=s.met.take k++ [t.loc]:=by
   rw [F,List.take_append_of_le_length (by omega),List.take_succ_eq_append_getElem D];congr 1;rw [List.getElem?_eq_getElem D]at A;rw [ojq A]
  rw [G,J,List.map_append,List.sum_append];have W:([t.loc].map fun a=>3+wd h.ab (a+1)).sum=3+t.len:=by have:t.len=wd h.ab (t.loc+1):=congrArg bk.len E;simp;omega
  omega
 rw [<-i.fin];rw [show h.ab.length+1 - k=(h.ab.length+1 - (k+1))+1 by omega,ja.all,A]
theorem yz.done {rs:List Int} {k:Nat} {s:ja} (i:yz d h ts rs k s) (A:s.met.length<=k):s.o=ii d h rs:=by
 rw [<-i.fin];cases h.ab.length+1 - k with
 | zero=>rfl
 | succ f=>rw [ja.all,List.getElem?_eq_none A]
end
theorem z1h (w:World) (B:Nat) (vW vO kC kS kF kN kT:Value) (h:ar) (d:bd) (g:Hd B w vW vO kC kS kF kN kT h d) (ts:List bk) (rt:Right d h ts) (vR:Value) (rs:List Int) (hs:SL 1 RI (· <B) w vR rs) (hr:∀v∈rs,b8 ts v=true) (fa:rs.length<=500000):
 Calls prog 90 #[.agg #[vW,.i h.ae,.i h.old,.i h.bo,.i h.ba,vO,.i h.next],.agg #[kC,kS,kF,kN,kT],vR] w fun r w'=>Bl w w'/\∃v,r=.returned v/\w'.ownsRow w.heap.size 3 1 v (ii d h rs).length (bw (ii d h rs)):=by
 obtain ⟨iI,cj,a0,a1,a2⟩:=info_parts jy;have e7:=qj prog;have e2:=Ar;have HG:=ag g;have d3:=ag hs;obtain ⟨aW,cW,aO,cO,aC,cC,aS,cS,aF,cF,aN,cN,aT,cT,rfl,rfl,rfl,rfl,rfl,rfl,rfl⟩:=g.agg;obtain ⟨aR,cR,rfl,-,ef,-⟩:=hs;unfold maxLen at ef;have e4:=g.le;clear g;obtain ⟨W0,cx,be,cm,k0,k1,k2⟩:=uq w #[.slice aW h.ab.length cW,.i h.ae,.i h.old,.i h.bo,.i h.ba,.slice aO h.am.length cO,.i h.next] #[.slice aC d.aj.length cC,.slice aS d.bg.length cS,.slice aF d.fields.length cF,.slice aN d.names.length cN,.slice aT d.ax.length cT] #[.nl] 24 36 22;have x0:Sh (w.heap.size+1+1) W0 (w.heap.size+1+1) (.nl) (.nl) ⟨[],[]⟩:=⟨⟨k2,World.ownsRow_nil _ _ _ _,nlq _,fun e=>by cases e⟩,World.ownsRow_nil _ _ _ _,(fun e=>by cases e),fun j e=>by cases e⟩;have z:=rt.sized;have z1:=z.ae;have z2:=z.old;have z3:=z.len;have fe:h.ab.length<=100000:=by omega
 have O:=ag rt;have cp:=ag hr;have d8:=ag x0;have ds:=ag be;have dz:=ag cx;have d1:=ag cm;have co:=ag (And.intro k0 k1);have b5:Hid (∀V,Below (w.heap.size+1+1) W0 V->Hd B V (.slice aW h.ab.length cW) (.slice aO h.am.length cO) (.slice aC d.aj.length cC) (.slice aS d.bg.length cS) (.slice aF d.fields.length cF) (.slice aN d.names.length cN) (.slice aT d.ax.length cT) h d):=fun V hV=>HG.o.below ((be.trans (hV.mono (by omega))).mono (by omega));have d4:Hid (∀V,Below (w.heap.size+1+1) W0 V->SL 1 RI (· <B) V (.slice aR rs.length cR) rs):=fun V hV=>d3.o.keptI (Kp.below ((be.trans (hV.mono (by omega))).mono (by omega)));clear k0 k1 k2 x0 be cx cm rt hr z z1 z2 z3;go_enter func90,ntmps90;go_wp2_with fail;rw [<-dz.o];go_loopw [8,10] (fun vt i wr=>∃(k:Nat) (vo:Value),i=.i k/\k<=rs.length/\Hid (Sh (w.heap.size+1+1) wr (w.heap.size+1+1) vo vt ((rs.take k).foldl ja.turn ⟨[],[]⟩)/\Below (w.heap.size+1+1) W0 wr)) (fun _ i _=>rs.length - (intOf i).toNat)
 case atStart=>exact ⟨0,_,rfl,n0q _,d8.o,br _ _⟩
 case round=>
  obtain ⟨k,vo,rfl,hk,HI⟩:=hrel;have cm:=d1.o;have dd:=HI.o.2.size;by_cases c4:k<rs.length
  ·obtain ⟨Y,W⟩:=HI.o;obtain ⟨bR,off,rfl,ez,e0⟩:=(d4.o wr W).atI k c4;have gg:=xx.roots (ts:=ts) (rs.take k) (s0:=⟨[],[]⟩) (s:=⟨[],[]⟩) (n:=0) ⟨List.nodup_nil,fun v hv=>(by cases hv),⟨[],rfl⟩,rfl⟩ fun v hv=>cp.o v (List.mem_of_mem_take hv);have em:=z1g O.o gg.nd gg.sub;have c8:((rs.take k).foldl ja.turn ⟨[],[]⟩).o.length<=1000000:=by
    have h1:((rs.take k).foldl ja.turn ⟨[],[]⟩).o.length=0+(0+(rs.take k).length):=gg.o;rw [List.length_take]at h1;omega
   have a7:=ag (zv4 ja.turn rs ⟨[],[]⟩ k c4);generalize (rs.take k).foldl ja.turn ⟨[],[]⟩=s at*;have au:=ag (z1a wr (w.heap.size+1+1) (w.heap.size+1+1) vo _ Y.bx (by omega) rs[k]);obtain ⟨bb,bc,rfl⟩:=kq Y.row;have N:=ag Y;have Z:=ag W;generalize rs[k]=v at*;clear gg Y W HI;go_wp2_with fail;refine au.o.mono ?_;rintro r w5 ⟨rfl,a4,x5,m5⟩;have a3:=N.o.turned x5 m5;have ak:Below (w.heap.size+1+1) W0 w5:=Z.o.trans (N.o.bx.bel m5 (by omega));have af:=ag a3;have bv:=ag ak;obtain ⟨D,J⟩:∃D,s.o=D:=⟨_,rfl⟩;have cr:Hid ((rs.take (k+1)).foldl ja.turn ⟨[],[]⟩=⟨tu s.met v,D++ [vi s.met v]⟩):=by rw [a7.o,<-J];rfl
   rw [J]at af c8;have ac:=ag af.o.row;have eh:=ak.size;have L:Hid (D.length+1<=maxLen/\(D.length+1)*8<=140737488355328/\w.heap.size+1+1<=(w5.alloc (.cells #[.i (vi s.met v)] 3)).heap.size):=⟨by unfold maxLen;omega,by omega,by simp;omega⟩;rw [J];generalize vi s.met v=nv at*;clear x5 m5 a3 ak au N Z e0 J a7;go_wp2_with (at_builtin;refine wpList_append_lies _ rfl _ _ 22 rfl (w.heap.size+1+1) 3 iI (.i 0) 1 8 underlying22 cj a0 a1 a2 rfl (by decide) (.slice bb D.length bc) D.length (bw D) rfl (ac.o.alloc _) ⟨w5.heap.size,0,none⟩ 1 1 [.i nv] rfl rfl (World.news_of_block (heap_alloc_new w5 _)) (by intro u hu;simp at hu;subst hu;rfl) (by omega) L.o.1 L.o.2.1 L.o.2.2 _ rfl ?_);intro gA cA w3 I G ah az;have X:Bl w5 (w5.alloc (.cells #[.i nv] 3)):=(br _ _).alloc (nlq _) _;have sA:=af.o.below X;have s3:=sA.told (l:=[nv]) (vt':=.slice (some ⟨gA,0,none⟩) (D.length+1) cA) G (by
    show w3.ownsRow _ 3 1 (.slice (some ⟨gA,0,none⟩) (D.length+1) cA) (D++ [nv]).length (bw (D++ [nv]));rw [List.length_append,El];exact I) (ah.elim (fun q=>Or.inl q.symm) fun q=>Or.inr ⟨gA,rfl,by simp;omega⟩)
   have ai:Below (w.heap.size+1+1) W0 w3:=bv.o.trans ((X.mono (by have:=bz af.o.bx.blk;omega)).trans (sA.bel G));have HF:Hid (Sh (w.heap.size+1+1) w3 (w.heap.size+1+1) a4 (.slice (some ⟨gA,0,none⟩) (D.length+1) cA) ((rs.take (k+1)).foldl ja.turn ⟨[],[]⟩)/\Below (w.heap.size+1+1) W0 w3):=⟨by rw [cr.o];exact s3,ai⟩;clear I G ah X sA s3 ai ac L;go_wp2_with fail;go_roundw
   case rel=>exact ⟨k+1,a4,by go_num,by omega,HF.o⟩
   case measure=>simp [intOf];omega
  obtain rfl:k=rs.length:=by omega
  have cf:=HI.o;rw [List.take_length]at cf;have b7:=ag cf;clear HI cf dd;go_wp2_with fail;go_loopw [8,11] (fun vt i wr=>∃(k:Nat) (vo:Value) (s:ja),i=.i k/\k<=h.ab.length/\Hid (Sh (w.heap.size+1+1) wr (w.heap.size+1+1) vo vt s/\yz d h ts rs k s/\Below (w.heap.size+1+1) W0 wr)) (fun _ i _=>h.ab.length+1 - (intOf i).toNat)
  case atStart=>exact ⟨0,vo,_,rfl,n0q _,b7.o.1,yz.start cp.o,b7.o.2⟩
  case round=>
   obtain ⟨k,fk,s,rfl,e5,HI⟩:=hrel;clear b7;obtain ⟨wq,ei⟩:∃wq,wq=wr:=⟨_,rfl⟩;subst ei;obtain ⟨Y,hI,W⟩:=HI.o;have dd:=W.size;obtain ⟨e8,c8⟩:=hI.small O.o;obtain ⟨aP,cv,rfl⟩:=kq Y.bx.row;have p0:=bp Y.bx.blk 0 (x:=.slice aP s.met.length cv) rfl;have lP:=bz Y.bx.blk;by_cases al:k<s.met.length
   ·obtain ⟨gO,ee⟩:∃gO,aP=some ⟨gO,0,none⟩:=by
     rcases Y.bx.row.2 with ⟨e,h0⟩ | ⟨g,cap,ex,e,-⟩
     ·omega
     injection e with e1;exact ⟨g,e1⟩
    subst ee;have cl:s.met[k]? =some s.met[k]:=List.getElem?_eq_getElem al;obtain ⟨t,ht,cn⟩:=hI.sub _ (gm al);have ea:=wv O.o.sized O.o.both t ht;obtain ⟨a,ha⟩:∃a:Nat,s.met[k]=(a:Int):=⟨s.met[k].toNat,by omega⟩;have e0:=(Y.bx.row.cellAt k (by rw [Nat.mul_one];exact al)).trans (A8 al);have lO:=(Y.bx.row.lt gO rfl).2;rw [ha]at e0 cn cl;have bi:bj h.ab (a:Int)=t:=by rw [<-cn];exact (pg O.o ht).symm
    have ch:pm d (bj h.ab (a:Int)):=by
     rw [bi];by_cases hy:t.loc<=h.ae
     ·exact (xw O.o ht hy).fit
     exact (A0 O.o ht (by omega)).2.2.2.1
    have ec:(bj h.ab (a:Int)).fin<=h.ab.length:=by rw [bi];omega
    have eb:(bj h.ab (a:Int)).fin=(a:Int)+3+(bj h.ab (a:Int)).len:=rfl;have e3:=ch.lo;obtain ⟨ck,e9⟩:=hI.next O.o cl;have eo:=(ck.small O.o).2;have a7:=ag ck;have d0:=ag ch;have d5:Hid (bj h.ab (a:Int)∈ts):=by rw [bi];exact ht
    have de:h.ab[a]'(by omega)=(bj h.ab (a:Int)).tag:=(pi (by omega)).symm;have c3:h.ab[a+1]'(by omega)=(bj h.ab (a:Int)).len:=by show _=wd h.ab ((a:Int)+1);rw [show (a:Int)+1=((a+1:Nat):Int) by omega];exact (pi (by omega)).symm
    have c2:h.ab[a+2]'(by omega)=(bj h.ab (a:Int)).hash:=by show _=wd h.ab ((a:Int)+2);rw [show (a:Int)+2=((a+2:Nat):Int) by omega];exact (pi (by omega)).symm
    obtain ⟨bW,oW,rfl,cy,-⟩:=atIm (b5.o wq W).sW a (by omega);have a9:Hid (∀V,Below (w.heap.size+1+1) W0 V->∀m:Nat,m<h.ab.length->V.cell? ⟨bW,oW+m,none⟩=some (.i (wd h.ab m))):=fun V hV m hm=>by obtain ⟨b1,o1,q1,-,-,q2⟩:=atIm (b5.o V hV).sW m hm;cases q1;rw [pi hm];exact q2
    have b6:Hid (∀V,Below (w.heap.size+1+1) W0 V->V.heap[w.heap.size]? =_/\V.heap[w.heap.size+1]? =_):=fun V hV=>⟨(hV.block _ (by omega:w.heap.size<w.heap.size+1+1)).trans co.o.1,(hV.block _ (by omega:w.heap.size+1<w.heap.size+1+1)).trans co.o.2⟩;have ek:bW<w.heap.size+1+1:=by have h:bW<B:=cy;omega
    have cu:Hid (∀V,Below (w.heap.size+1+1) W0 V->V.cell? ⟨bW,oW+a,none⟩=some (.i (bj h.ab (a:Int)).tag)/\V.cell? ⟨bW,oW+(a+1),none⟩=some (.i (bj h.ab (a:Int)).len)/\V.cell? ⟨bW,oW+(a+2),none⟩=some (.i (bj h.ab (a:Int)).hash)):=fun V hV=>by have q0:=a9.o V hV a (by omega);have q1:=a9.o V hV (a+1) (by omega);have q2:=a9.o V hV (a+2) (by omega);rw [pi (by omega)]at q0 q1 q2;rw [de]at q0;rw [c3]at q1;rw [c2]at q2;exact ⟨q0,q1,q2⟩
    obtain ⟨t0,t1,t2⟩:=cu.o wq W;have c0:=bp (b6.o wq W).1 0 (x:=.slice (some ⟨bW,oW,none⟩) h.ab.length cW) rfl;obtain ⟨bb,bc,rfl⟩:=kq Y.row;have N:=ag Y;have Z:=ag W;have w1:IntKind.i64.wrap ((a:Int)+1)=(a:Int)+1:=gp _ (by omega) (by omega);have w2:IntKind.i64.wrap ((a:Int)+2)=(a:Int)+2:=gp _ (by omega) (by omega);have w3:IntKind.i64.wrap ((a:Int)+3)=(a:Int)+3:=gp _ (by omega) (by omega);have i0:(0:Int)<=a:=by omega
    have i1:(a:Int)<h.ab.length:=by omega
    have i2:(0:Int)<=(a:Int)+1:=by omega
    have i3:(a:Int)+1<h.ab.length:=by omega
    have i4:(0:Int)<=(a:Int)+2:=by omega
    have i5:(a:Int)+2<h.ab.length:=by omega
    have i6:((a:Int)+1).toNat=a+1:=by omega
    have i7:((a:Int)+2).toNat=a+2:=by omega
    have lB:w.heap.size<w.heap.size+1+1:=by omega
    have fi:w.heap.size+1<w.heap.size+1+1:=by omega
    have ey:w.heap.size+1+1<=wq.heap.size:=by omega
    have e6:(a:Int)+3+(bj h.ab (a:Int)).len<=h.ab.length:=by omega
    have ca:Hid ((bj h.ab (a:Int)).len.toNat=(bj h.ab (a:Int)).len):=by show (((bj h.ab (a:Int)).len.toNat:Nat):Int)=_;omega
    have ct:=ag (And.intro hI.nd hI.sub);clear hI Y W HI ea cn bi ch ck cl ht de c3 c2 ec eb ha;go_wp2_with fail;refine wp_region_held_drew (S:=fun W'=>∀p:Addr,p.block<w.heap.size+1+1->W'.cell? p=wq.cell? p) (by kernel_rfl) (fun p hp=>rfl) fun A=>?_;refine ta 0 (.slice bb s.o.length bc) rfl A ?_;refine ta 1 (.p w.heap.size) rfl A ?_;refine ta 2 (.slice (some ⟨bW,oW,none⟩) h.ab.length cW) rfl A ?_;refine ta 3 (.i (a:Int)) rfl A ?_;refine ta 4 (.pointer (some ⟨bW,oW+a,none⟩)) rfl A ?_;refine ta 5 (.i (bj h.ab (a:Int)).tag) rfl A ?_;refine ta 6 (.p w.heap.size) rfl A ?_;refine ta 7 (.slice (some ⟨bW,oW,none⟩) h.ab.length cW) rfl A ?_;refine ta 8 (.i (a:Int)) rfl A ?_;refine ta 9 (.i ((a:Int)+1)) rfl A ?_;refine ta 10 (.pointer (some ⟨bW,oW+(a+1),none⟩)) rfl A ?_;refine ta 11 (.i (bj h.ab (a:Int)).len) rfl A ?_;refine ta 12 (.p w.heap.size) rfl A ?_;refine ta 13 (.slice (some ⟨bW,oW,none⟩) h.ab.length cW) rfl A ?_;refine ta 14 (.i (a:Int)) rfl A ?_;refine ta 15 (.i ((a:Int)+2)) rfl A ?_;refine ta 16 (.pointer (some ⟨bW,oW+(a+2),none⟩)) rfl A ?_;refine ta 17 (.i (bj h.ab (a:Int)).hash) rfl A ?_;refine wpAnyH_ready (rs:=[18]) (by kernel_rfl) (by simp) ?_;refine AllReadyH.cons rfl (fun et bm=>?_) AllReadyH.nil;go_simp;obtain ⟨V1,bf⟩:∃V1,V1=(wq.alloc (.cells #[.i (bj h.ab (a:Int)).tag,.i (bj h.ab (a:Int)).len,.i (bj h.ab (a:Int)).hash] 3)).drew:=⟨_,rfl⟩;rw [<-bf];have bh:V1.heap[wq.heap.size]? =some (.cells #[.i (bj h.ab (a:Int)).tag,.i (bj h.ab (a:Int)).len,.i (bj h.ab (a:Int)).hash] 3 (0,0)):=bf ▸ heap_alloc_new wq _;have aa:Bl wq V1:=bf ▸ ((br _ wq).alloc (nlq _) _).drew;have el:=bz bh;have dk:SL 1 RI (· <V1.heap.size) V1 (.slice (some ⟨wq.heap.size,0,none⟩) 3 3) [(bj h.ab (a:Int)).tag,(bj h.ab (a:Int)).len,(bj h.ab (a:Int)).hash]:=(ru (zsx (n:=3) (cap:=3) bh (nlq wq.heap.size) rfl (nlq _) (by unfold maxLen;omega) rfl (fun i u hi=>by rw [zsw bh];simpa [bw]using hi)) (by simp)).monoI fun j hj=>hj.lt;refine bm.o _ _ (fun p hp=>aa.cell (by omega)) fun A=>?_;refine wpAnyH_ready (rs:=[19]) (by kernel_rfl) (by simp) ?_;refine AllReadyH.cons rfl (fun eu bn=>?_) AllReadyH.nil;refine zrr V1 rfl (.tmp 41) (.tmp 59) rfl (w.heap.size+1+1) (.slice bb s.o.length bc) s.o rfl (mf N.o.row aa) (· <V1.heap.size) (.slice (some ⟨wq.heap.size,0,none⟩) 3 3) [(bj h.ab (a:Int)).tag,(bj h.ab (a:Int)).len,(bj h.ab (a:Int)).hash] rfl dk (by simp;omega) (by omega) ?_;intro v8 V2 c7 ci df;have ay:Below (w.heap.size+1+1) wq V2:=(aa.mono (by omega)).trans ((N.o.below aa).bel ci);refine bn.o _ _ (fun p hp=>ay.cell hp) fun A=>?_;have dl:Sh (w.heap.size+1+1) V2 (w.heap.size+1+1) (.slice (some ⟨gO,0,none⟩) s.met.length cv) v8 ⟨s.met,s.o++ [(bj h.ab (a:Int)).tag,(bj h.ab (a:Int)).len,(bj h.ab (a:Int)).hash]⟩:=(N.o.below aa).told ci c7 (df.imp id fun e=>⟨_,e,nlq _⟩);have d2:=ag dl;have du:=ag (Z.o.trans ay);refine ta 20 (v8) rfl A ?_;refine wpAnyH_done (by kernel_rfl) ?_ _;clear A bm bn c7 ci df ay dk bh aa bf dl;try simp only [Act.put,p1q,p4q,p3q,p2q,p5q,p6q]
    clear N Z e0 lO c0 t0 t1 t2 p0 lP;generalize htl:(bj h.ab (a:Int)).len.toNat=tn at*;have eq:s.o.length+3+tn<=rs.length+h.ab.length:=by omega
    have a8:=ag htl;clear htl;go_wp2_with fail;go_loopw [8,13] (fun vt i wr=>∃(n:Nat) (vo:Value),i=.i n/\n<=tn/\Hid (Sh (w.heap.size+1+1) wr (w.heap.size+1+1) vo vt ((List.range n).foldl (ja.word d h.ab (bj h.ab (a:Int))) ⟨s.met,s.o++ [(bj h.ab (a:Int)).tag,(bj h.ab (a:Int)).len,(bj h.ab (a:Int)).hash]⟩)/\Below (w.heap.size+1+1) W0 wr)) (fun _ i _=>tn - (intOf i).toNat)
    case atStart=>exact ⟨0,_,rfl,n0q _,d2.o,du.o⟩
    case round=>
     obtain ⟨n,ap,rfl,hn,HJ⟩:=hrel;obtain ⟨E,dg⟩:∃E,E=wr:=⟨_,rfl⟩;subst dg;obtain ⟨Y,W⟩:=HJ.o;have es:=W.size;obtain ⟨t0,t1,-⟩:=cu.o E W;have j0:=(b6.o E W).1;have c0:=bp j0 0 (x:=.slice (some ⟨bW,oW,none⟩) h.ab.length cW) rfl;have fj:=bz j0;have ej:bW<E.heap.size:=by omega
     by_cases az:n<tn
     ·have c5:(n:Int)<(bj h.ab (a:Int)).len:=by have:=ca.o;have:=a8.o;omega
      have gg:=xx.ab O.o d5.o (List.range n) (s0:=s) (s:=⟨s.met,s.o++ [(bj h.ab (a:Int)).tag,(bj h.ab (a:Int)).len,(bj h.ab (a:Int)).hash]⟩) (n:=3) ⟨ct.o.1,ct.o.2,⟨[],(List.append_nil _).symm⟩,by rw [List.length_append];rfl⟩ (fun j hj=>by have:=List.mem_range.1 hj;omega);have en:=z1g O.o gg.nd gg.sub;have c9:((List.range n).foldl (ja.word d h.ab (bj h.ab (a:Int))) ⟨s.met,s.o++ [(bj h.ab (a:Int)).tag,(bj h.ab (a:Int)).len,(bj h.ab (a:Int)).hash]⟩).o.length<=s.o.length+3+tn:=by have h1:=gg.o;rw [List.length_range]at h1;omega
      have bu:((List.range (n+1)).foldl (ja.word d h.ab (bj h.ab (a:Int))) ⟨s.met,s.o++ [(bj h.ab (a:Int)).tag,(bj h.ab (a:Int)).len,(bj h.ab (a:Int)).hash]⟩)=ja.word d h.ab (bj h.ab (a:Int)) ((List.range n).foldl (ja.word d h.ab (bj h.ab (a:Int))) ⟨s.met,s.o++ [(bj h.ab (a:Int)).tag,(bj h.ab (a:Int)).len,(bj h.ab (a:Int)).hash]⟩) n:=by rw [List.range_succ,List.foldl_append];rfl
      have s3:=a9.o E W (a+3+n) (by omega);have ao:=ag (fun V (hV:Bl E V)=>zky V B _ _ _ _ _ d (b5.o V (W.trans (hV.mono (by omega)))).lk (bj h.ab (a:Int)) d0.o n c5);have d6:Hid (wd h.ab ((bj h.ab (a:Int)).loc+3+n)=wd h.ab ((a+3+n:Nat):Int)):=by show wd h.ab ((a:Int)+3+n)=_;rw [show (a:Int)+3+(n:Int)=((a+3+n:Nat):Int) by omega]
      generalize ((List.range n).foldl (ja.word d h.ab (bj h.ab (a:Int))) ⟨s.met,s.o++ [(bj h.ab (a:Int)).tag,(bj h.ab (a:Int)).len,(bj h.ab (a:Int)).hash]⟩)=u at*;have w4:IntKind.i64.wrap ((a:Int)+3+n)=(a:Int)+3+n:=gp _ (by omega) (by omega);have i8:(0:Int)<=(a:Int)+3+n:=by omega
      have i9:(a:Int)+3+n<h.ab.length:=by omega
      have ff:((a:Int)+3+n).toNat=a+3+n:=by omega
      have q7:decide ((n:Int)<(bj h.ab (a:Int)).len)=true:=decide_eq_true c5;obtain ⟨b0,b1,b2,b3,b4,bl⟩:=cells5 (b6.o E W).2;obtain ⟨cc,ce,rfl⟩:=kq Y.row;obtain ⟨D,J⟩:∃D,u.o=D:=⟨_,rfl⟩;rw [J]at c9;have N:Hid (Sh (w.heap.size+1+1) E (w.heap.size+1+1) ap (.slice cc D.length ce) ⟨u.met,D⟩):=by rw [<-J];exact Y
      have Z:=ag W;have a6:Hid (ja.word d h.ab (bj h.ab (a:Int)) u n=if jp d.fields (bj h.ab (a:Int)) n then ⟨tu u.met (wd h.ab ((a+3+n:Nat):Int)),D++ [vi u.met (wd h.ab ((a+3+n:Nat):Int))]⟩ else ⟨u.met,D++ [wd h.ab ((a+3+n:Nat):Int)]⟩):=by show _=_;unfold ja.word;rw [d6.o,<-J];rfl
      have cs:=ag bu;generalize wd h.ab ((a+3+n:Nat):Int)=v at*;clear gg Y W HJ bu j0;have an:Hid (Bl E E.drew):=(br _ _).drew;rw [J];clear J;cases hrf:jp d.fields (bj h.ab (a:Int)) n with
      | true=>
        rw [hrf]at ao a6;clear hrf;go_wp2_with fail;refine wp_region_held_drew (S:=fun W'=>∀p:Addr,p.block<E.heap.size->W'.cell? p=E.cell? p) (by kernel_rfl) (fun p hp=>rfl) fun A=>?_;refine ta 0 (.agg #[.slice aC d.aj.length cC,.slice aS d.bg.length cS,.slice aF d.fields.length cF,.slice aN d.names.length cN,.slice aT d.ax.length cT]) rfl A ?_;refine ta 1 (.p w.heap.size) rfl A ?_;refine ta 2 (.slice (some ⟨bW,oW,none⟩) h.ab.length cW) rfl A ?_;refine ta 3 (.i (a:Int)) rfl A ?_;refine ta 4 (.pointer (some ⟨bW,oW+a,none⟩)) rfl A ?_;refine ta 5 (.i (bj h.ab (a:Int)).tag) rfl A ?_;refine ta 6 (.i (n:Int)) rfl A ?_;refine wpAnyH_ready (rs:=[7]) (by kernel_rfl) (by simp) ?_;refine AllReadyH.cons rfl (fun K7 av=>?_) AllReadyH.nil;go_simp;refine (ao.o _ an.o).mono ?_;rintro r w2 ⟨rfl,aw⟩;have F:Bl E w2:=an.o.trans aw;refine av.o _ _ (fun p hp=>F.cell hp) fun A=>?_;refine wpAnyH_done (by kernel_rfl) ?_ _;clear A av;try simp only [Act.put,p1q,p4q,p3q,p2q,p5q,p6q]
        have eg:=F.size;have ad:=ag (N.o.below F);have a5:Hid (Below (w.heap.size+1+1) W0 w2):=Z.o.trans (F.mono (by omega));clear aw F ao an N Z t0 t1 c0 s3 b0 b1 b2 b3 b4 bl;have au:=ag (z1a w2 (w.heap.size+1+1) (w.heap.size+1+1) ap _ ad.o.bx (by show u.met.length<=_;omega) v);go_wp2_with fail;refine au.o.mono ?_;rintro r w5 ⟨rfl,a4,x5,m5⟩;have a3:=ad.o.turned x5 m5;have ak:Below (w.heap.size+1+1) W0 w5:=a5.o.trans (ad.o.bx.bel m5 (by omega));have af:=ag a3;have bv:=ag ak;have ac:=ag af.o.row;have eh:=ak.size;have L:Hid (D.length+1<=maxLen/\(D.length+1)*8<=140737488355328/\w.heap.size+1+1<=(w5.alloc (.cells #[.i (vi u.met v)] 3)).heap.size):=⟨by unfold maxLen;omega,by omega,by simp;omega⟩;generalize vi u.met v=nv at*;clear x5 m5 a3 ak au ad a5;go_wp2_with (at_builtin;refine wpList_append_lies _ rfl _ _ 22 rfl (w.heap.size+1+1) 3 iI (.i 0) 1 8 underlying22 cj a0 a1 a2 rfl (by decide) (.slice cc D.length ce) D.length (bw D) rfl (ac.o.alloc _) ⟨w5.heap.size,0,none⟩ 1 1 [.i nv] rfl rfl (World.news_of_block (heap_alloc_new w5 _)) (by intro u hu;simp at hu;subst hu;rfl) (by omega) L.o.1 L.o.2.1 L.o.2.2 _ rfl ?_);intro gA cA w3 I G ah az;have X:Bl w5 (w5.alloc (.cells #[.i nv] 3)):=(br _ _).alloc (nlq _) _;have sA:=af.o.below X;have s3:=sA.told (l:=[nv]) (vt':=.slice (some ⟨gA,0,none⟩) (D.length+1) cA) G (by
         show w3.ownsRow _ 3 1 (.slice (some ⟨gA,0,none⟩) (D.length+1) cA) (D++ [nv]).length (bw (D++ [nv]));rw [List.length_append,El];exact I) (ah.elim (fun q=>Or.inl q.symm) fun q=>Or.inr ⟨gA,rfl,by simp;omega⟩)
        have ai:Below (w.heap.size+1+1) W0 w3:=bv.o.trans ((X.mono (by have:=bz af.o.bx.blk;omega)).trans (sA.bel G));have HF:Hid (Sh (w.heap.size+1+1) w3 (w.heap.size+1+1) a4 (.slice (some ⟨gA,0,none⟩) (D.length+1) cA) ((List.range (n+1)).foldl (ja.word d h.ab (bj h.ab (a:Int))) ⟨s.met,s.o++ [(bj h.ab (a:Int)).tag,(bj h.ab (a:Int)).len,(bj h.ab (a:Int)).hash]⟩)/\Below (w.heap.size+1+1) W0 w3):=⟨by rw [cs.o,a6.o,if_pos trivial];exact s3,ai⟩;clear I G ah X sA s3 ai ac L;go_wp2_with fail;go_roundw
        case rel=>exact ⟨n+1,a4,by go_num,by omega,HF.o⟩
        case measure=>simp [intOf];omega
      | false=>
        rw [hrf]at ao a6;clear hrf;go_wp2_with fail;refine wp_region_held_drew (S:=fun W'=>∀p:Addr,p.block<E.heap.size->W'.cell? p=E.cell? p) (by kernel_rfl) (fun p hp=>rfl) fun A=>?_;refine ta 0 (.agg #[.slice aC d.aj.length cC,.slice aS d.bg.length cS,.slice aF d.fields.length cF,.slice aN d.names.length cN,.slice aT d.ax.length cT]) rfl A ?_;refine ta 1 (.p w.heap.size) rfl A ?_;refine ta 2 (.slice (some ⟨bW,oW,none⟩) h.ab.length cW) rfl A ?_;refine ta 3 (.i (a:Int)) rfl A ?_;refine ta 4 (.pointer (some ⟨bW,oW+a,none⟩)) rfl A ?_;refine ta 5 (.i (bj h.ab (a:Int)).tag) rfl A ?_;refine ta 6 (.i (n:Int)) rfl A ?_;refine wpAnyH_ready (rs:=[7]) (by kernel_rfl) (by simp) ?_;refine AllReadyH.cons rfl (fun K7 av=>?_) AllReadyH.nil;go_simp;refine (ao.o _ an.o).mono ?_;rintro r w2 ⟨rfl,aw⟩;have F:Bl E w2:=an.o.trans aw;refine av.o _ _ (fun p hp=>F.cell hp) fun A=>?_;refine wpAnyH_done (by kernel_rfl) ?_ _;clear A av;try simp only [Act.put,p1q,p4q,p3q,p2q,p5q,p6q]
        have eg:=F.size;have ad:=ag (N.o.below F);have a5:Hid (Below (w.heap.size+1+1) W0 w2):=Z.o.trans (F.mono (by omega));clear aw F ao an N Z t0 t1 c0 s3 b0 b1 b2 b3 b4 bl;have ac:=ag ad.o.row;have er:w.heap.size+1+1<=w2.heap.size:=by omega
        have L:Hid (D.length+1<=maxLen/\(D.length+1)*8<=140737488355328/\w.heap.size+1+1<=(w2.alloc (.cells #[.i v] 3)).heap.size):=⟨by unfold maxLen;omega,by omega,by simp;omega⟩;go_wp2_with (at_builtin;refine wpList_append_lies _ rfl _ _ 22 rfl (w.heap.size+1+1) 3 iI (.i 0) 1 8 underlying22 cj a0 a1 a2 rfl (by decide) (.slice cc D.length ce) D.length (bw D) rfl (ac.o.alloc _) ⟨w2.heap.size,0,none⟩ 1 1 [.i v] rfl rfl (World.news_of_block (heap_alloc_new w2 _)) (by intro u hu;simp at hu;subst hu;rfl) (by omega) L.o.1 L.o.2.1 L.o.2.2 _ rfl ?_);intro gA cA w3 I G ah az;have X:Bl w2 (w2.alloc (.cells #[.i v] 3)):=(br _ _).alloc (nlq _) _;have sA:=ad.o.below X;have s3:=sA.told (l:=[v]) (vt':=.slice (some ⟨gA,0,none⟩) (D.length+1) cA) G (by
         show w3.ownsRow _ 3 1 (.slice (some ⟨gA,0,none⟩) (D.length+1) cA) (D++ [v]).length (bw (D++ [v]));rw [List.length_append,El];exact I) (ah.elim (fun q=>Or.inl q.symm) fun q=>Or.inr ⟨gA,rfl,by simp;omega⟩)
        have ai:Below (w.heap.size+1+1) W0 w3:=a5.o.trans ((X.mono (by have:=bz ad.o.bx.blk;omega)).trans (sA.bel G));have HF:Hid (Sh (w.heap.size+1+1) w3 (w.heap.size+1+1) ap (.slice (some ⟨gA,0,none⟩) (D.length+1) cA) ((List.range (n+1)).foldl (ja.word d h.ab (bj h.ab (a:Int))) ⟨s.met,s.o++ [(bj h.ab (a:Int)).tag,(bj h.ab (a:Int)).len,(bj h.ab (a:Int)).hash]⟩)/\Below (w.heap.size+1+1) W0 w3):=⟨by rw [cs.o,a6.o,if_neg (by simp)];exact s3,ai⟩;clear I G ah X sA s3 ai ac L;go_wp2_with fail;go_roundw
        case rel=>exact ⟨n+1,ap,by go_num,by omega,HF.o⟩
        case measure=>simp [intOf];omega
     have c6:n=tn:=by omega
     have bs:((List.range n).foldl (ja.word d h.ab (bj h.ab (a:Int))) ⟨s.met,s.o++ [(bj h.ab (a:Int)).tag,(bj h.ab (a:Int)).len,(bj h.ab (a:Int)).hash]⟩)=s.thing d h.ab (a:Int):=by unfold ja.thing;rw [a8.o,c6]
     have HF:Hid (Sh (w.heap.size+1+1) E (w.heap.size+1+1) ap _ (s.thing d h.ab (a:Int))/\yz d h ts rs (k+1) (s.thing d h.ab (a:Int))/\Below (w.heap.size+1+1) W0 E):=⟨bs ▸ Y,a7.o,W⟩;have q7:decide ((n:Int)<(bj h.ab (a:Int)).len)=false:=decide_eq_false (by have:=ca.o;have:=a8.o;omega);have q8:¬(n:Int)<(bj h.ab (a:Int)).len:=by have:=ca.o;have:=a8.o;omega
     clear bs Y W HJ j0 c6;go_wp2_with fail;go_roundw
     case rel=>exact ⟨k+1,ap,_,by go_num,by omega,HF.o⟩
     case measure=>simp [intOf];omega
   have c1:=hI.done (by omega);have HF:Hid (Bl w wq/\wq.ownsRow w.heap.size 3 1 _ (ii d h rs).length (bw (ii d h rs))):=⟨ds.o.trans (W.mono (by omega)),by rw [<-c1];exact yy Y.row (by omega)⟩;clear Y hI W HI c1;go_wp2_with fail;go_ret;exact ⟨HF.o.1,_,rfl,HF.o.2⟩
theorem z1y (w:World) (B:Nat) (kC kS kF kN kT:Value) (d:bd) (O:mt (· <B) w kC kS kF kN kT d) (Y:B<=w.heap.size) (hz:me d=0):
 Calls prog 54 #[.agg #[kC,kS,kF,kN,kT]] w fun r w'=>r=.returned (.i 0)/\Bl w w':=by
 have h0:jq d.aj=0:=by
  by_cases h:jq d.aj=0
  ·exact h
  exfalso;have e:me d=4:=by simp [me,h]
  rw [hz]at e;cases e
 have HK:=ag O;obtain ⟨aC,cC,aS,cS,aF,cF,aN,cN,aT,cT,rfl,rfl,rfl,rfl,rfl⟩:=O.agg;clear O;have X:=ag (fun o=>(br w.heap.size w).alloc (nlq _) o);go_enter func54,ntmps54;go_wp2_with fail;refine (z1x _ B d.aj _ (HK.o.C.keptC (Kp.below ((X.o _).mono Y))) (lt3 Y (X.o _).size) h0).mono ?_;rintro r G ⟨F,jC,jS,jF,jN,jT,rfl,hj⟩;have E:=(F.block w.heap.size (by simp)).trans (heap_alloc_new w _);have A:Bl w G:=(X.o _).trans (F.mono (X.o _).size);have N:=hj.mono (M':=(· <G.heap.size)) fun k h=>h.2;obtain ⟨bC,eC,bS,eS,bF,eF,bN,eN,bT,eT,rfl,rfl,rfl,rfl,rfl⟩:=hj.agg;have xn:=bz E;have xk:=cells5 E;have D:=ag (fun o=>(br G.heap.size G).alloc (nlq _) o);have J:Hid (∀W,Bl G W->Calls prog 118 #[.agg #[.slice aC d.aj.length cC,.slice aS d.bg.length cS,.slice aF d.fields.length cF,.slice aN d.names.length cN,.slice aT d.ax.length cT],.agg #[.slice bC (qn d.aj).aj.length eC,.slice bS (qn d.aj).bg.length eS,.slice bF (qn d.aj).fields.length eF,.slice bN (qn d.aj).names.length eN,.slice bT (qn d.aj).ax.length eT]] W fun r w'=>r=.returned (.bool (ge d (qn d.aj)))/\Bl W w'):=fun W hW=>zqx W G.heap.size _ _ _ _ _ _ _ _ _ _ d (qn d.aj) ((HK.o.kept (Kp.below ((A.trans (hW.mono A.size)).mono Y))).mono fun k O=>ll3 O (lt3 Y A.size)) (N.kept (Kp.below hW)) rfl hW.size;have V:ge d (qn d.aj)=true:=by
  cases e:ge d (qn d.aj)with
  | true=>rfl
  | false=>exfalso;have e2:me d=4:=by simp [me,h0,e]
           rw [hz]at e2;cases e2
 have I:=ag A;rw [V]at J;clear F hj N h0 E A hz V;generalize hrd:qn d.aj=rd at*;clear hrd;go_wp2_with (go_at_call 118;refine (J.o _ (D.o _)).mono ?_;rintro r w2 ⟨rfl,L⟩;have Z:=ag (I.o.trans (((D.o _).trans (L.mono (D.o _).size)).mono I.o.size));clear L);go_ret;exact ⟨rfl,Z.o⟩
theorem z1z (d:bd):me d=if ql d=true then 0 else 4:=by rw [zrc];unfold il;simp
theorem z11 (w:World) (B:Nat) (vW vO kC kS kF kN kT:Value) (h:ar) (d:bd) (g:Hd B w vW vO kC kS kF kN kT h d) (ad:h.next<=9223372036854775807) (L:dt d h=0):
 Calls prog 21 #[.agg #[vW,.i h.ae,.i h.old,.i h.bo,.i h.ba,vO,.i h.next],.agg #[kC,kS,kF,kN,kT]] w fun r w'=>r=.returned (.i 0)/\Bl w w':=by
 have N:=ag g;obtain ⟨aW,cW,aO,cO,aC,cC,aS,cS,aF,cF,aN,cN,aT,cT,rfl,rfl,rfl,rfl,rfl,rfl,rfl⟩:=g.agg;clear g;obtain ⟨W0,aa,A,ak,G,I⟩:=ro w #[.slice aW h.ab.length cW,.i h.ae,.i h.old,.i h.bo,.i h.ba,.slice aO h.am.length cO,.i h.next] #[.slice aC d.aj.length cC,.slice aS d.bg.length cS,.slice aF d.fields.length cF,.slice aN d.names.length cN,.slice aT d.ax.length cT] 24 36;have al:=bz G;have xn:=bz I;have ck:=ip G;have ek:=cells5 I;have O:=ag A;have X:=ag aa;have Y:=ag (And.intro G I);have F:ql d=true:=by
  unfold dt at L;cases e:ql d with
  | true=>rfl
  | false=>rw [e]at L;cases L
 have J:=ag (z1y W0 B _ _ _ _ _ d (N.o.below (A.mono N.o.le)).lk (N.o.below (A.mono N.o.le)).le (by rw [z1z,F];rfl));have E:=Ds F;have ai:Hid (∀V,Bl W0 V->Calls prog 55 #[.agg #[.slice aW h.ab.length cW,.i h.ae,.i h.old,.i h.bo,.i h.ba,.slice aO h.am.length cO,.i h.next],.agg #[.slice aC d.aj.length cC,.slice aS d.bg.length cS,.slice aF d.fields.length cF,.slice aN d.names.length cN,.slice aT d.ax.length cT]] V fun r w'=>r=.returned (.i 0)/\Bl V w'):=fun V hV=>by
  have g2:=N.o.below ((A.trans (hV.mono A.size)).mono N.o.le);have hz:gi d h=0:=by unfold dt at L;rw [F,if_pos rfl]at L;rw [zn9 E];exact L
  have:=z1v V B _ _ _ _ _ _ _ h d g2.sW g2.sO g2.lk g2.le E ad hz;rw [hz]at this;exact this
 rw [X.o]at J;clear G I A aa ak F E ad L;go_enter func21,ntmps21;go_wp2_with fail;refine J.o.mono ?_;rw [<-X.o];rintro r w1 ⟨rfl,D⟩;have Z:=O.o.trans (D.mono O.o.size);have G:=(D.block _ al).trans Y.o.1;have I:=(D.block _ xn).trans Y.o.2;have m0:=bz G;have m1:=bz I;have fk:=ip G;have gk:=cells5 I;have ah:=ag (ai.o w1 D);have W:=ag Z;clear D Z G I J;go_wp2_with fail;refine ah.o.mono ?_;rintro r w2 ⟨rfl,ac⟩;have af:=ag (W.o.trans (ac.mono W.o.size));clear ac;go_wp2_with fail;go_ret;exact ⟨rfl,af.o⟩
theorem z12 {d:bd} {h:ar} {ts:List bk} (r:Right d h ts) {rs:List Int} (D:∀v∈rs,b8 ts v=true):(ii d h rs).length<=rs.length+h.ab.length:=by
 have A:∀(f k:Nat) (s:ja),yz d h ts rs k s->(ja.all d h.ab f k s).o.length<=rs.length+h.ab.length:=by
  intro f;induction f with
  | zero=>intro k s i;exact (i.small r).2
  | succ f ih=>
    intro k s i;rw [ja.all];cases ha:s.met[k]? with
    | none=>exact (i.small r).2
    | some a=>exact ih (k+1) _ (i.next r ha).1
 exact A _ 0 _ (yz.start D)
theorem z13 {ts:List bk} {rs:List Int} (h1:rs.length<=1000) (A:∀v∈rs,b8 ts v=true):jr ts rs=0:=by
 unfold jr;rw [decide_eq_true (by omega:(rs.length:Int)<=1000),if_pos rfl];have:(rs.any fun x=>!b8 ts x)=false:=List.any_eq_false.2 fun v D=>by rw [A v D];simp
 rw [this];rfl
theorem z14 (w:World) (B:Nat) (vW vO kC kS kF kN kT xW xO:Value) (h x:ar) (d:bd) (g:Hd B w vW vO kC kS kF kN kT h d) (gx:Hd B w xW xO kC kS kF kN kT x d) (ts tx:List bk) (rt:Right d h ts) (rx:Right d x tx) (a8:x.next<=9223372036854775807) (vR:Value) (rs:List Int) (hs:SL 1 RI (· <B) w vR rs) (hr:∀v∈rs,b8 ts v=true) (b5:rs.length<=1000) (vM:Value) (E:List Int) (hm:SL 1 RI (· <B) w vM E) (al:∀v∈E,b8 tx v=true) (a7:E.length=rs.length) (a9:ii d x E=ii d h rs):
 Calls prog 39 #[.agg #[vW,.i h.ae,.i h.old,.i h.bo,.i h.ba,vO,.i h.next],.agg #[kC,kS,kF,kN,kT],vR,.agg #[xW,.i x.ae,.i x.old,.i x.bo,.i x.ba,xO,.i x.next],vM] w fun r w'=>r=.returned (.bool true)/\Bl w w':=by
 have HG:=ag g;have bh:=ag gx;have bn:=ag hs;have bl:=ag hm;obtain ⟨aW,cW,aO,cO,O,cC,Y,cS,W,cF,X,cN,Z,cT,rfl,rfl,rfl,rfl,rfl,rfl,rfl⟩:=g.agg;obtain ⟨aX,cX,rfl,-⟩:=gx.sW;obtain ⟨aQ,cQ,rfl,-⟩:=gx.sO;obtain ⟨aR,cR,rfl,-⟩:=hs;obtain ⟨aM,cM,rfl,-⟩:=hm;have b3:=g.le;clear g gx;obtain ⟨F,a1,aa,bv,k0,k1,k2⟩:=uq w #[.slice aW h.ab.length cW,.i h.ae,.i h.old,.i h.bo,.i h.ba,.slice aO h.am.length cO,.i h.next] #[.slice O d.aj.length cC,.slice Y d.bg.length cS,.slice W d.fields.length cF,.slice X d.names.length cN,.slice Z d.ax.length cT] #[.slice aX x.ab.length cX,.i x.ae,.i x.old,.i x.bo,.i x.ba,.slice aQ x.am.length cQ,.i x.next] 24 36 24;have b6:=bz k0;have xn:=bz k1;have lk2:=bz k2;have ap:=ag aa;have bf:=ag a1;have ac:=ip k0;have bc:=cells5 k1;have xc:=ip k2;have D:Hid (∀V,Bl F V->Hd B V (.slice aW h.ab.length cW) (.slice aO h.am.length cO) (.slice O d.aj.length cC) (.slice Y d.bg.length cS) (.slice W d.fields.length cF) (.slice X d.names.length cN) (.slice Z d.ax.length cT) h d/\Hd B V (.slice aX x.ab.length cX) (.slice aQ x.am.length cQ) (.slice O d.aj.length cC) (.slice Y d.bg.length cS) (.slice W d.fields.length cF) (.slice X d.names.length cN) (.slice Z d.ax.length cT) x d/\SL 1 RI (· <B) V (.slice aR rs.length cR) rs/\SL 1 RI (· <B) V (.slice aM E.length cM) E):=fun V G=>by have hb:=(aa.trans (G.mono aa.size)).mono HG.o.le;exact ⟨HG.o.below hb,bh.o.below hb,bn.o.keptI (Kp.below hb),bl.o.keptI (Kp.below hb)⟩
 have bi:Hid (∀V,Bl F V->Calls prog 21 #[.agg #[.slice aX x.ab.length cX,.i x.ae,.i x.old,.i x.bo,.i x.ba,.slice aQ x.am.length cQ,.i x.next],.agg #[.slice O d.aj.length cC,.slice Y d.bg.length cS,.slice W d.fields.length cF,.slice X d.names.length cN,.slice Z d.ax.length cT]] V fun r w'=>r=.returned (.i 0)/\Bl V w'):=fun V G=>z11 V B _ _ _ _ _ _ _ x d (D.o V G).2.1 a8 rx.err;have be:Hid (∀V,Bl F V->Calls prog 85 #[.agg #[.slice aX x.ab.length cX,.i x.ae,.i x.old,.i x.bo,.i x.ba,.slice aQ x.am.length cQ,.i x.next],.agg #[.slice O d.aj.length cC,.slice Y d.bg.length cS,.slice W d.fields.length cF,.slice X d.names.length cN,.slice Z d.ax.length cT],.slice aM E.length cM] V fun r w'=>r=.returned (.i 0)/\Bl V w'):=fun V G=>by have:=zue V B _ _ _ _ _ _ _ x d (D.o V G).2.1 rx.sized (Ds rx.ok) tx rx.both _ E (D.o V G).2.2.2;rw [z13 (by omega) al]at this;exact this
 have bm:=ag fun V (G:Bl F V)=>z1h V B _ _ _ _ _ _ _ h d (D.o V G).1 ts rt _ rs (D.o V G).2.2.1 hr (by omega);have aw:=ag fun V (G:Bl F V)=>z1h V B _ _ _ _ _ _ _ x d (D.o V G).2.1 tx rx _ E (D.o V G).2.2.2 al (by omega);rw [a9]at aw;have av:Hid ((ii d h rs).length<=1000000):=by have h1:=z12 rt hr;have z1:=rt.sized.ae;have z2:=rt.sized.old;have z3:=rt.sized.len;show _<=_;omega
 generalize ii d h rs=sl at*;have af:Hid (Bl F F.drew):=(br _ _).drew;have ad:(rs.length:Int)=E.length:=by omega
 have b4:((rs.length:Int)==(E.length:Int))=true:=by rw [ad];simp
 clear k0 k1 k2 aa a1 bv rt rx hr al a9 a8 ad;have bx:=ag a7;clear a7;go_enter func39,ntmps39;go_wp2_with fail;rw [<-bf.o];refine wp_region_held_drew (S:=fun W'=>∀p:Addr,p.block<F.heap.size->W'.cell? p=F.cell? p) (by kernel_rfl) (fun p N=>rfl) fun A=>?_;refine ta 0 (.agg #[.slice aX x.ab.length cX,.i x.ae,.i x.old,.i x.bo,.i x.ba,.slice aQ x.am.length cQ,.i x.next]) rfl A ?_;refine ta 1 (.agg #[.slice O d.aj.length cC,.slice Y d.bg.length cS,.slice W d.fields.length cF,.slice X d.names.length cN,.slice Z d.ax.length cT]) rfl A ?_;refine wpAnyH_ready (rs:=[2]) (by kernel_rfl) (by simp) ?_;refine AllReadyH.cons rfl (fun K2 bs=>?_) AllReadyH.nil;go_simp;refine (bi.o _ af.o).mono ?_;rintro r w1 ⟨rfl,a2⟩;have I:Bl F w1:=af.o.trans (a2.mono af.o.size);refine bs.o _ _ (fun p N=>I.cell N) fun A=>?_;refine ta 3 (.bool true) rfl A ?_;refine ta 4 (.bool true) rfl A ?_;refine ta 5 (.agg #[.slice aX x.ab.length cX,.i x.ae,.i x.old,.i x.bo,.i x.ba,.slice aQ x.am.length cQ,.i x.next]) rfl A ?_;refine ta 6 (.agg #[.slice O d.aj.length cC,.slice Y d.bg.length cS,.slice W d.fields.length cF,.slice X d.names.length cN,.slice Z d.ax.length cT]) rfl A ?_;refine ta 7 (.slice aM E.length cM) rfl A ?_;refine wpAnyH_ready (rs:=[8]) (by kernel_rfl) (by simp) ?_;refine AllReadyH.cons rfl (fun K8 bu=>?_) AllReadyH.nil;go_simp;refine (be.o _ I).mono ?_;rintro r w2 ⟨rfl,a5⟩;have J:Bl F w2:=I.trans (a5.mono I.size);refine bu.o _ _ (fun p N=>J.cell N) fun A=>?_;refine ta 9 (.bool true) rfl A ?_;refine ta 10 (.bool true) rfl A ?_;refine ta 11 (.bool true) rfl A ?_;refine ta 12 (.slice aR rs.length cR) rfl A ?_;refine ta 13 (.i rs.length) rfl A ?_;refine ta 14 (.slice aM E.length cM) rfl A ?_;refine ta 15 (.i E.length) rfl A ?_;refine ta 16 (.bool true) rfl A ?_;refine ta 17 (.bool true) rfl A ?_;refine ta 18 (.bool true) rfl A ?_;refine ta 19 (.agg #[.slice aW h.ab.length cW,.i h.ae,.i h.old,.i h.bo,.i h.ba,.slice aO h.am.length cO,.i h.next]) rfl A ?_;refine ta 20 (.agg #[.slice O d.aj.length cC,.slice Y d.bg.length cS,.slice W d.fields.length cF,.slice X d.names.length cN,.slice Z d.ax.length cT]) rfl A ?_;refine ta 21 (.slice aR rs.length cR) rfl A ?_;refine ta 23 (.agg #[.slice aX x.ab.length cX,.i x.ae,.i x.old,.i x.bo,.i x.ba,.slice aQ x.am.length cQ,.i x.next]) rfl A ?_;refine ta 24 (.agg #[.slice O d.aj.length cC,.slice Y d.bg.length cS,.slice W d.fields.length cF,.slice X d.names.length cN,.slice Z d.ax.length cT]) rfl A ?_;refine ta 25 (.slice aM E.length cM) rfl A ?_;refine wpAnyH_ready (rs:=[22]) (by kernel_rfl) (by simp) ?_;refine AllReadyH.cons rfl (fun b0 ay=>?_) AllReadyH.nil;go_simp;refine (bm.o _ J).mono ?_;rintro r w3 ⟨a6,v3,rfl,an⟩;obtain ⟨a3,c3,rfl⟩:=kq an;have L:Bl F w3:=J.trans (a6.mono J.size);refine ay.o _ _ (fun p N=>L.cell N) fun A=>?_;refine wpAnyH_ready (rs:=[26]) (by kernel_rfl) (by simp) ?_;refine AllReadyH.cons rfl (fun b1 az=>?_) AllReadyH.nil;go_simp;refine (aw.o _ L).mono ?_;rintro r w4 ⟨ah,v4,rfl,ao⟩;obtain ⟨a4,c4,rfl⟩:=kq ao;have ai:Bl F w4:=L.trans (ah.mono L.size);have au:Hid (Calls prog 29 #[.slice a3 sl.length c3,.slice a4 sl.length c4] w4 fun r w'=>r=.returned (.bool true)/\∃n,w'=w4.drewN n):=by have:=zsj w4 _ _ _ _ sl sl (ru (mf an ah) av.o) (ru ao av.o);rw [zsl]at this;exact this
 refine az.o _ _ (fun p N=>ai.cell N) fun A=>?_;refine wpAnyH_ready (rs:=[27]) (by kernel_rfl) (by simp) ?_;refine AllReadyH.cons rfl (fun b2 a0=>?_) AllReadyH.nil;go_simp;refine au.o.mono ?_;rintro r w5 ⟨rfl,m5,rfl⟩;have ak:=zsk ai m5;refine a0.o _ _ (fun p N=>ak.cell N) fun A=>?_;refine ta 28 (.bool true) rfl A ?_;refine ta 29 (.bool true) rfl A ?_;refine wpAnyH_done (by kernel_rfl) ?_ _;clear A;try simp only [Act.put,p1q,p4q,p3q,p2q,p5q,p6q]
 have bb:Hid (Bl w (w4.drewN m5)):=ap.o.trans (ak.mono ap.o.size);clear I J L ai ak a2 a5 a6 ah an ao au;go_wp2_with fail;go_ret;exact ⟨rfl,bb.o⟩
theorem z15 {d:bd} {h:ar} {ts I:List bk} (r:Right d h ts) (E:0<=leftD h) (A:b9 d.aj.length d.fields h.ab (h.ae+1) h.ba=some I) (rs:List Int) (F:∀v∈rs,b8 ts v=true) (G:∀v∈h.ab,(Lit.int .i64 v).wf=true):
 ∃tx,Right d (im d h rs) tx/\(∀v∈j8 h rs,b8 tx v=true)/\(j8 h rs).length=rs.length/\ii d (im d h rs) (j8 h rs)=ii d h rs/\(∀v∈(im d h rs).ab,(Lit.int .i64 v).wf=true)/\(im d h rs).bo=1/\(im d h rs).am= []/\(im d h rs).next=h.next:=by
 obtain ⟨J,L,-⟩:=zxu r E A rs F;obtain ⟨k,D⟩:=zyc r E A rs F;have n:=zyb r k;rw [J,L];refine ⟨_,n.right k r,k.leads D,?_,n.shape k r D,n.small k r G,rfl,rfl,rfl⟩;unfold zn;rw [List.length_map]
end Go.Proofs.YtjdnmblggdobgaaGreat
