import Derived.Test.YtjdnmblggdobgaaGreatJHyDHyF
import Derived.Test.YtjdnmblggdobgaaGreatJHyBHzA
import Derived.Test.YtjdnmblggdobgaaGreatJHyGHyJ
import Derived.Test.YtjdnmblggdobgaaGreatJTk2Dies
set_option maxHeartbeats 8000000
set_option maxRecDepth 100000
namespace Go.Proofs.YtjdnmblggdobgaaGreat
open Go.RowKit Go.Maps
def i3 (P:Int->Bool) (o:List Int) (v:Int):List Int:=if P v&& !o.contains v then o++ [v] else o
def ki (P:Int->Bool) (next:Int->List Int) (from0:List Int) (v:Int):Prop:=∀Q:Int->Prop,(∀u,u∈from0->P u=true->Q u)->(∀u x,Q u->x∈next u->P x=true->Q x)->Q v
theorem ki.root {P:Int->Bool} {next:Int->List Int} {from0:List Int} {v:Int} (h:v∈from0) (g:P v=true):ki P next from0 v:=fun _ a _=>a v h g
theorem ki.step {P:Int->Bool} {next:Int->List Int} {from0:List Int} {u v:Int} (h:ki P next from0 u) (k:v∈next u) (g:P v=true):ki P next from0 v:=fun Q a b=>b u v (h Q a b) k g
theorem ki.ind {P:Int->Bool} {next:Int->List Int} {from0:List Int} {Q:Int->Prop} {v:Int} (h:ki P next from0 v) (a:∀v,v∈from0->P v=true->Q v) (b:∀u v,ki P next from0 u->v∈next u->P v=true->Q u->Q v):Q v:=(h (fun x=>ki P next from0 x/\Q x) (fun u p q=>⟨ki.root p q,a u p q⟩) (fun u x p q r=>⟨ki.step p.1 q r,b u x p.1 q r p.2⟩)).2
def bfsP (P:Int->Bool) (next:Int->List Int):Nat->Nat->List Int->List Int
 | 0,_,o=>o
 | f+1,i,o=>match o[i]? with
   | none=>o
   | some a=>bfsP P next f (i+1) ((next a).foldl (i3 P) o)
theorem zvc {P:Int->Bool} {o:List Int} {v:Int} (h:o.Nodup):(i3 P o v).Nodup:=by
 unfold i3;split
 ·rename_i hc;rw [Bool.and_eq_true,Bool.not_eq_true']at hc;refine List.nodup_append.2 ⟨h,by simp,?_⟩;intro a A b u e;rw [List.mem_singleton]at u;subst u;subst e;rw [List.contains_iff_mem.2 A]at hc;cases hc.2
 exact h
theorem zvd {P:Int->Bool} {o:List Int} {v x:Int} :x∈i3 P o v↔x∈o\/(x=v/\P v=true):=by
 unfold i3;cases hp:P v with
 | false=>simp
 | true=>
   cases hc:o.contains v with
   | true=>
     have u:=List.contains_iff_mem.1 hc;simp only [Bool.not_true,Bool.and_false,Bool.false_eq_true,if_false,and_true];exact ⟨Or.inl,fun h=>h.elim id fun e=>e ▸ u⟩
   | false=>simp
theorem zve {P:Int->Bool} :∀(l o:List Int),o.Nodup->(l.foldl (i3 P) o).Nodup
 | [],_,h=>h
 | v::l,o,h=>zve l (i3 P o v) (zvc h)
theorem zvf {P:Int->Bool} {x:Int} :∀(l o:List Int),x∈l.foldl (i3 P) o↔x∈o\/(x∈l/\P x=true)
 | [],o=>by simp
 | v::l,o=>by
   rw [List.foldl_cons,zvf l,zvd,List.mem_cons];constructor
   ·rintro ((h | ⟨rfl,h⟩) | ⟨h1,u⟩)
    ·exact Or.inl h
    ·exact Or.inr ⟨Or.inl rfl,h⟩
    exact Or.inr ⟨Or.inr h1,u⟩
   rintro (h | ⟨rfl | h1,u⟩)
   ·exact Or.inl (Or.inl h)
   ·exact Or.inl (Or.inr ⟨rfl,u⟩)
   exact Or.inr ⟨h1,u⟩
theorem zvg {P:Int->Bool} :∀(l o:List Int),∃e,l.foldl (i3 P) o=o++e
 | [],o=>⟨[],(List.append_nil _).symm⟩
 | v::l,o=>by
   obtain ⟨e,u⟩:=zvg (P:=P) l (i3 P o v);rw [List.foldl_cons,u];unfold i3;split
   ·exact ⟨[v]++e,List.append_assoc ..⟩
   exact ⟨e,rfl⟩
theorem zvh:∀(l m:List Int),l.Nodup->(∀x∈l,x∈m)->l.length<=m.length
 | [],_,_,_=>n0q _
 | x::l,m,hn,hs=>by rw [List.nodup_cons]at hn;have u:=hs x (List.mem_cons_self ..);have D:=zvh l (m.erase x) hn.2 fun y A=>(List.mem_erase_of_ne (fun e=>hn.1 (by rw [<-e];exact A))).2 (hs y (List.mem_cons_of_mem _ A));rw [List.length_erase_of_mem u]at D;have:0<m.length:=List.length_pos_of_mem u;rw [List.length_cons];omega
structure BfsI (P:Int->Bool) (next:Int->List Int) (from0 U:List Int) (i:Nat) (o:List Int):Prop where
 nd:o.Nodup
 le:i<=o.length
 sound:∀v∈o,ki P next from0 v
 roots:∀v∈from0,P v=true->v∈o
 done:∀j a,j<i->o[j]? =some a->∀v∈next a,P v=true->v∈o
theorem zvi {P:Int->Bool} {next:Int->List Int} {u U:List Int} :BfsI P next u U 0 (u.foldl (i3 P) []):=
 ⟨zve _ _ List.nodup_nil,n0q _,fun v A=>by
  rcases (zvf _ _).1 A with h | h
  ·cases h
  exact ki.root h.1 h.2,fun v A D=>(zvf _ _).2 (Or.inr ⟨A,D⟩),fun j a E=>by omega⟩
theorem BfsI.next {P:Int->Bool} {next:Int->List Int} {u U:List Int} {i:Nat} {o:List Int} (b:BfsI P next u U i o) {a:Int} (F:o[i]? =some a):BfsI P next u U (i+1) ((next a).foldl (i3 P) o):=by
 have hi:i<o.length:=(List.getElem?_eq_some_iff.1 F).1;obtain ⟨e,I⟩:=zvg (P:=P) (next a) o;have A:∀j,j<=i->((next a).foldl (i3 P) o)[j]? =o[j]? :=fun j J=>by rw [I,List.getElem?_append_left (by omega)]
 refine ⟨zve _ _ b.nd,by rw [I,List.length_append];omega,fun v D=>?_,fun v D E=>(zvf _ _).2 (Or.inl (b.roots v D E)),fun j c J hc v D E=>?_⟩
 ·rcases (zvf _ _).1 D with h | h
  ·exact b.sound v h
  exact ki.step (b.sound a (List.mem_of_getElem? F)) h.1 h.2
 rw [A j (by omega)]at hc;by_cases G:j<i
 ·exact (zvf _ _).2 (Or.inl (b.done j c G hc v D E))
 have:j=i:=by omega
 subst this;rw [F]at hc;have:=ojq hc;subst this;exact (zvf _ _).2 (Or.inr ⟨D,E⟩)
theorem BfsI.all {P:Int->Bool} {next:Int->List Int} {u U:List Int} {o:List Int} (b:BfsI P next u U o.length o) (v:Int):v∈o↔ki P next u v:=by
 refine ⟨b.sound v,fun h=>?_⟩;apply ki.ind h
 ·intro _ h1 h2
  exact b.roots _ h1 h2
 intro _ _ _ h1 h2 ih
 obtain ⟨j,A,e⟩:=List.getElem_of_mem ih;exact b.done j _ A (by rw [List.getElem?_eq_getElem A,e]) _ h1 h2
theorem zvj {P:Int->Bool} {next:Int->List Int} {u U:List Int} (A:∀v,ki P next u v->v∈U):∀(f i:Nat) (o:List Int),U.length<i+f->BfsI P next u U i o->BfsI P next u U (bfsP P next f i o).length (bfsP P next f i o)
 | 0,i,o,hf,b=>by have:=zvh o U b.nd fun x D=>A x (b.sound x D);have:=b.le;omega
 | f+1,i,o,hf,b=>by
   rw [bfsP];cases ha:o[i]? with
   | none=>
     have:o.length<=i:=List.getElem?_eq_none_iff.1 ha;have e:i=o.length:=by have:=b.le;omega
     rw [e]at b;exact b
   | some a=>exact zvj A f (i+1) _ (by omega) (b.next ha)
theorem zvk {f:Int->Int} {l m:List Int} (A:l.Nodup) (D:m.Nodup) (h:∀x,x∈l↔x∈m) (h0:∀x∈l,0<=f x):(l.map f).sum=(m.map f).sum:=
 Int.le_antisymm (zu0 l m A (fun x u=>(h x).1 u) fun x u=>h0 x ((h x).2 u)) (zu0 m l D (fun x u=>(h x).2 u) h0)
def dr (fs:List (List bk)) (ws:List Int) (a:Int):List Int:=(refsOf fs (bq ws a)).map (wd ws)
def nz (v:Int):Bool:=v != 0
def cg (d:be) (h:bd) (rs:List Int):List Int:=bfsP nz (dr d.fields h.ab) (h.ab.length+1) 0 (rs.foldl (i3 nz) [])
def gi (d:be) (h:bd) (rs:List Int):Int:=((cg d h rs).map fun a=>3+wd h.ab (a+1)).sum
theorem th_at {d:be} {h:bd} {ts:List bo} (r:Right d h ts) {t:bo} (u:t∈ts):t=bq h.ab t.loc:=by
 by_cases A:t.loc<=h.ae
 ·exact (zuv r u A).eq
 exact (zu7 r u (by omega)).2.2.1
theorem zvl {d:be} {h:bd} {ts:List bo} (r:Right d h ts) {rs:List Int} (E:∀v∈rs,dv ts v=true) {v:Int} (F:ki nz (dr d.fields h.ab) rs v):∃t∈ts,t.loc=v:=by
 have u:∀ {v:Int},nz v=true->v≠0:=fun {v} h e=>by subst e;cases h
 apply ki.ind F
 ·intro _ h1 h2
  exact zux (E _ h1) (u h2)
 intro _ _ _ h1 h2 ih
 obtain ⟨t,D,rfl⟩:=ih;unfold dr at h1;obtain ⟨a,A,rfl⟩:=List.mem_map.1 h1;rw [<-th_at r D]at A;exact zux (zu6 r D A) (u h2)
theorem zvm {d:be} {h:bd} {ts:List bo} (r:Right d h ts):(ts.map bo.loc).length<h.ab.length:=by
 rw [List.length_map];obtain ⟨G,F,D,E,rfl⟩:=zko r.both;have z:=r.sized;have W:=z.ae;have X:=z.old;have Y:=z.len;have Z:=z.bg;have z5:=z.bj;have u:∀(l:List bo),(∀t∈l,0<=t.len)->(l.length:Int)<=(l.map fun t=>3+t.len).sum:=by
  intro l;induction l with
  | nil=>intro _;exact Int.le_refl _
  | cons q l ih=>
    intro h;have h1:=ih fun p I=>h p (List.mem_cons_of_mem _ I);have N:=h q (List.mem_cons_self ..);rw [List.map_cons,List.sum_cons,List.length_cons];omega
 have O:=zu1 _ 1 G (nlq _) (by omega) D;have V:=zu1 _ (h.ae+1) F (nlq _) (by omega) E;have J:=u G fun t A=>zeo (zkn D t A).2.2.2.2;have L:=u F fun t A=>zeo (zkn E t A).2.2.2.2;rw [List.length_append];omega
theorem zvn {d:be} {h:bd} {ts:List bo} (r:Right d h ts) {rs:List Int} (A:∀v∈rs,dv ts v=true):(cg d h rs).Nodup/\∀v,v∈cg d h rs↔ki nz (dr d.fields h.ab) rs v:=by
 have u:∀v,ki nz (dr d.fields h.ab) rs v->v∈ts.map bo.loc:=fun v E=>by obtain ⟨t,D,e⟩:=zvl r A E;exact List.mem_map.2 ⟨t,D,e⟩
 have b:=zvj u (h.ab.length+1) 0 _ (by have:=zvm r;omega) zvi;exact ⟨b.nd,b.all⟩
theorem zvo {d:be} {h:bd} {ts:List bo} (r:Right d h ts) {rs:List Int} (D:∀v∈rs,dv ts v=true) {l:List Int} (E:l.Nodup) (A:∀v,v∈l↔ki nz (dr d.fields h.ab) rs v):(l.map fun a=>3+wd h.ab (a+1)).sum=gi d h rs:=by
 obtain ⟨I,J⟩:=zvn r D;refine zvk E I (fun x=>(A x).trans (J x).symm) fun x F=>?_;obtain ⟨t,u,rfl⟩:=zvl r D ((A x).1 F);have e:t.len=wd h.ab (t.loc+1):=congrArg bo.len (th_at r u);have:0<=t.len:=by
  by_cases G:t.loc<=h.ae
  ·exact (zuv r u G).fit.lo
  exact (zu7 r u (by omega)).2.2.2.1.lo
 omega
structure Bx1 (b:Nat) (w:World) (P:Nat) (vo:Value) (o:List Int):Prop where
 blk:w.heap[P]? =some (.cells #[vo] 22 (0,0))
 row:w.ownsRow b 3 1 vo o.length (b8 o)
 bP:b<=P
 ne:vo.ownBlock≠some P
theorem Bx1.below {b P:Nat} {w w':World} {A:Value} {o:List Int} (x:Bx1 b w P A o) (u:Below w.heap.size w w'):Bx1 b w' P A o:=⟨(u.block _ (bv x.blk)).trans x.blk,jj x.row u,x.bP,x.ne⟩
theorem Bx1.bel {b P L:Nat} {w w':World} {A u:Value} {o:List Int} (x:Bx1 b w P A o) (m:lh L P P P (.slice none 0 0) A w u w') (E:b<=L):Below b w w':=
 ⟨m.os,m.tape,m.output,m.size,fun j D=>m.block j (by omega) (by have:=bv x.blk;have:=x.bP;omega) (by have:=x.bP;omega) (by have:=x.bP;omega) (by have:=x.bP;omega) (fun e=>by cases e) (fun e=>by have:=(x.row.lt j e).1;omega)⟩
theorem Bx1.more {b P:Nat} {w G w':World} {F:Value} {o:List Int} {v:Int} {A I:Nat} (x:Bx1 b w P F o) (D:w.grownBy G F.ownBlock) (V:G.ownsRow b 3 1 (.slice (some ⟨A,0,none⟩) (o.length+1) I) (o.length+1) (b8 o++ [.int .i64 v])) (J:F.ownBlock=some A\/w.heap.size<=A) (N:w'=G.setCell ⟨P,0,none⟩ (.slice (some ⟨A,0,none⟩) (o.length+1) I)):
 Bx1 b w' P (.slice (some ⟨A,0,none⟩) (o.length+1) I) (o++ [v])/\∀L,L<=w.heap.size->lh L P P P (.slice none 0 0) F w (.slice (some ⟨A,0,none⟩) (o.length+1) I) w':=by
 have Y:=bv x.blk;have X:G.heap[P]? =some (.cells #[F] 22 (0,0)):=(D.block P Y (fun e=>x.ne e.symm)).trans x.blk;have u:G.grownBy w' (some P):=N ▸ mh (World.grownBy.refl _ _) _ _ (Or.inl rfl);have W:=D.size;have E:A≠P:=fun e=>by
  rcases J with q | q
  ·exact x.ne (by rw [q,e])
  omega
 refine ⟨⟨N ▸ nu X _,?_,x.bP,fun e=>E (ojq e)⟩,fun L Z=>⟨u.os.trans D.os,u.tape.trans D.tape,u.output.trans D.output,lt3 D.size u.size,fun j _ O a _ _ _ f=>(u.block j (by omega) (fun e=>a (ojq e))).trans (D.block j O (fun e=>f e.symm)),fun j e=>by
  have e:A=j:=ojq e;rcases J with q | q
  ·exact Or.inl (by rw [q,e])
  exact Or.inr (by omega)⟩⟩
 rw [List.length_append,zhs];exact World.ownsRow.kept V u (Or.inr fun e=>E (ojq e))
theorem zv3 (w:World) (b P:Nat) (vo:Value) (o:List Int) (x:Bx1 b w P vo o) (ae:o.length<=1000000) (v:Int):
 Calls Tryz.prog 148 #[.int .i64 v,.pointer (some ⟨P,0,none⟩)] w fun r w'=>r=.returned (.tuple #[])/\∃vo',Bx1 b w' P vo' (i3 nz o v)/\lh w.heap.size P P P (.slice none 0 0) vo w vo' w':=by
 obtain ⟨iI,ad,W,X,Y⟩:=info_parts Tryz.infoInt;obtain ⟨L,N,rfl⟩:=jf x.row;have HX:=ag x;have c0:=ba x.blk 0 (x:=.slice L o.length N) rfl;have lP:=bv x.blk;have J:=ag (zkz w _ _ _ (zfb x.row ae) v);have ah:=x.bP;clear x;by_cases hv:v=0
 ·have I:Hid (i3 nz o v=o):=by show _=_;unfold i3 nz;rw [hv];rfl
  have V:(v==0)=true:=by simpa using hv
  clear J;go_enter Tryz.func148,Tryz.ntmps148;go_wp2_with fail;go_end0;exact ⟨rfl,_,by rw [I.o];exact HX.o,lh.ofBelow (br _ _)⟩
 have V:(v==0)=false:=by simpa using hv
 cases hc:o.contains v with
 | true=>
   have I:Hid (i3 nz o v=o):=by show _=_;unfold i3;rw [hc];simp
   rw [hc]at J;clear hc;go_enter Tryz.func148,Tryz.ntmps148;go_wp2_with fail;refine J.o.mono ?_;rintro r _ ⟨rfl,rfl⟩;go_wp2_with fail;go_end0;exact ⟨rfl,_,by rw [I.o];exact HX.o,lh.ofBelow (br _ _)⟩
 | false=>
   have I:Hid (i3 nz o v=o++ [v]):=by show _=_;unfold i3 nz;rw [hc,bne,V];rfl
   rw [hc]at J;have aa:=ag HX.o.row;have F:Hid (o.length+1<=maxLen/\(o.length+1)*8<=140737488355328/\b<=(w.alloc (.cells #[.int .i64 v] 3)).heap.size):=⟨by unfold maxLen;omega,by omega,by simp;omega⟩;clear hc;go_enter Tryz.func148,Tryz.ntmps148;go_wp2_with fail;refine J.o.mono ?_;rintro r w ⟨rfl,rfl⟩;go_wp2_with (at_builtin;refine wpList_append_lies _ rfl _ _ 22 rfl b 3 iI (.int .i64 0) 1 8 Tryz.underlying22 ad W X Y rfl (by decide) (.slice L o.length N) o.length (b8 o) rfl (aa.o.alloc _) ⟨w.heap.size,0,none⟩ 1 1 [.int .i64 v] rfl rfl (World.news_of_block (heap_alloc_new w _)) (by intro u hu;simp at hu;subst hu;rfl) (by omega) F.o.1 F.o.2.1 F.o.2.2 _ rfl ?_);intro gA cA w3 D A O af;have E:Below w.heap.size w (w.alloc (.cells #[.int .i64 v] 3)):=(br _ _).alloc (nlq _) _;have Z:=HX.o.below E;have k3:w3.heap[P]? =some (.cells #[.slice L o.length N] 22 (0,0)):=(A.block P (bv Z.blk) (fun e=>Z.ne e.symm)).trans Z.blk;have d0:=ba k3 0 (x:=.slice L o.length N) rfl;have dz:=nb k3 0;have dl:=bv k3;obtain ⟨W4,G⟩:∃W4,W4=w3.setCell ⟨P,0,none⟩ (.slice (some ⟨gA,0,none⟩) (o.length+1) cA):=⟨_,rfl⟩;obtain ⟨x4,m4⟩:=Z.more (v:=v) A D (O.imp id fun e=>by simp;omega) G;have HF:Hid (Bx1 b W4 P (.slice (some ⟨gA,0,none⟩) (o.length+1) cA) (o++ [v])/\lh w.heap.size P P P (.slice none 0 0) (.slice L o.length N) w (.slice (some ⟨gA,0,none⟩) (o.length+1) cA) W4):=⟨x4,(lh.ofBelow E).trans (m4 _ E.size)⟩;have ac:=ag G;clear D A O E Z k3 x4 m4 G;go_wp2_with fail;rw [<-ac.o];go_end0;exact ⟨rfl,_,by rw [I.o];exact HF.o.1,HF.o.2⟩
theorem callReach1 (args:Array Value) (w:World):(callFunc 148 args).run Tryz.prog w=.ok (.enter 148 args) w:=by kernel_rfl
theorem zv4 {α β:Type} (f:β->α->β) (l:List α) (b:β) (k:Nat) (u:k<l.length):(l.take (k+1)).foldl f b=f ((l.take k).foldl f b) l[k]:=by rw [List.take_succ_eq_append_getElem u,List.foldl_append];rfl
theorem zv5 (Q:Int->Bool) (next:Int->List Int) (f i:Nat) (o:List Int) {a:Int} (h:o[i]? =some a):bfsP Q next (f+1) i o=bfsP Q next f (i+1) ((next a).foldl (i3 Q) o):=by rw [bfsP,h]
theorem zv6 (Q:Int->Bool) (next:Int->List Int) (f i:Nat) (o:List Int) (h:o.length<=i):bfsP Q next f i o=o:=by
 cases f with
 | zero=>rfl
 | succ f=>rw [bfsP,List.getElem?_eq_none h]
theorem atIm {M:Nat->Prop} {w:World} {u:Option Addr} {len cap:Nat} {l:List Int} (h:SL 1 RI M w (.slice u len cap) l) (k:Nat) (D:k<l.length):
 ∃b off,u=some ⟨b,off,none⟩/\M b/\b<w.heap.size/\w.cell? ⟨b,off+k,none⟩=some (.int .i64 l[k]):=by
 obtain ⟨b,off,F,e,E,A,_,hc,rfl⟩:=h.at k D;exact ⟨b,off,e,E,A,by have:=hc 0 (by decide);simpa using this⟩
theorem zv7 (w:World) (B:Nat) (vW vO kC kS kF kN kT:Value) (h:bd) (d:be) (g:Hd B w vW vO kC kS kF kN kT h d) (ts:List bo) (rt:Right d h ts) (vR:Value) (rs:List Int) (hs:SL 1 RI (· <B) w vR rs) (hr:∀v∈rs,dv ts v=true) (ea:rs.length<=1000000):
 Calls Tryz.prog 93 #[.agg #[vW,.int .i64 h.ae,.int .i64 h.old,.int .i64 h.bg,.int .i64 h.bj,vO,.int .i64 h.next],.agg #[kC,kS,kF,kN,kT],vR] w fun r w'=>Below w.heap.size w w'/\∃v,r=.returned v/\w'.ownsRow w.heap.size 3 1 v (cg d h rs).length (b8 (cg d h rs)):=by
 have d8:=my Tryz.prog;have d4:=callReach1;have HG:=ag g;have c5:=ag hs;obtain ⟨aW,cW,aO,cO,aC,cC,aS,cS,aF,cF,aN,cN,aT,cT,rfl,rfl,rfl,rfl,rfl,rfl,rfl⟩:=g.agg;obtain ⟨aR,cR,rfl,-,dk,-⟩:=hs;unfold maxLen at dk;have d5:=g.le;clear g;obtain ⟨W0,b6,ai,au,k0,k1,k2⟩:=boxes3 w #[.slice aW h.ab.length cW,.int .i64 h.ae,.int .i64 h.old,.int .i64 h.bg,.int .i64 h.bj,.slice aO h.ap.length cO,.int .i64 h.next] #[.slice aC d.aj.length cC,.slice aS d.ar.length cS,.slice aF d.fields.length cF,.slice aN d.names.length cN,.slice aT d.aq.length cT] #[.slice none 0 0] 24 36 22;have x0:Bx1 (w.heap.size+1+1) W0 (w.heap.size+1+1) (.slice none 0 0) []:=⟨k2,World.ownsRow_nil _ _ _ _,nlq _,fun e=>by cases e⟩;have z:=rt.sized;have z1:=z.ae;have z2:=z.old;have z3:=z.len;have hU:∀v,ki nz (dr d.fields h.ab) rs v->v∈(ts.map bo.loc):=fun v hv=>by obtain ⟨t,ht,e⟩:=zvl rt hr hv;exact List.mem_map.2 ⟨t,ht,e⟩
 have HU:=ag hU;have ac:=ag rt;have bp:=ag (zvm rt);have c7:=ag x0;have cx:=ag ai;have c1:=ag b6;have bz:=ag au;have ax:=ag (And.intro k0 k1);have bs:Hid (∀V,Below (w.heap.size+1+1) W0 V->Hd B V (.slice aW h.ab.length cW) (.slice aO h.ap.length cO) (.slice aC d.aj.length cC) (.slice aS d.ar.length cS) (.slice aF d.fields.length cF) (.slice aN d.names.length cN) (.slice aT d.aq.length cT) h d):=fun V hV=>HG.o.below ((ai.trans (hV.mono (by omega))).mono (by omega));have c6:Hid (∀V,Below (w.heap.size+1+1) W0 V->SL 1 RI (· <B) V (.slice aR rs.length cR) rs):=fun V hV=>c5.o.keptI (Kp.below ((ai.trans (hV.mono (by omega))).mono (by omega)));have ds:h.ab.length<=100000:=by omega
 have c4:Hid (cg d h rs=bfsP nz (dr d.fields h.ab) (h.ab.length+1) 0 (rs.foldl (i3 nz) [])):=rfl;clear k0 k1 k2 x0 ai b6 au rt hr hU z z1 z2 z3;go_enter Tryz.func93,Tryz.ntmps93;go_wp2_with fail;rw [<-c1.o];go_loopw [9] (fun i wr=>∃(k:Nat) (vo:Value),i=.int .i64 k/\k<=rs.length/\Hid (Bx1 (w.heap.size+1+1) wr (w.heap.size+1+1) vo ((rs.take k).foldl (i3 nz) [])/\Below (w.heap.size+1+1) W0 wr)) (fun i _=>rs.length - (intOf i).toNat)
 case atStart=>exact ⟨0,_,rfl,n0q _,c7.o,br _ _⟩
 case round=>
  obtain ⟨k,vo,rfl,hk,HI⟩:=hrel;by_cases cn:k<rs.length
  ·have dl:=HI.o.2.size;have au:=bz.o;obtain ⟨bR,off,rfl,d2,e0⟩:=(c6.o wr HI.o.2).atI k cn;have cp:((rs.take k).foldl (i3 nz) []).length<=1000000:=by
    have h1:((rs.take k).foldl (i3 nz) []).length<=(rs.take k).length:=zvh _ _ (zve _ _ List.nodup_nil) fun x hx=>by
     rcases (zvf _ _).1 hx with h | h
     ·cases h
     exact h.1
    rw [List.length_take]at h1;omega
   have aa:=ag (zv3 wr (w.heap.size+1+1) (w.heap.size+1+1) vo _ HI.o.1 cp rs[k]);have a7:=ag (zv4 (i3 nz) rs [] k cn);generalize rs[k]=v at*;clear cp;go_wp2_with fail;refine aa.o.mono ?_;rintro r Y ⟨rfl,E,x5,m5⟩;have HF:Hid (Bx1 (w.heap.size+1+1) Y (w.heap.size+1+1) E ((rs.take (k+1)).foldl (i3 nz) [])/\Below (w.heap.size+1+1) W0 Y):=⟨by rw [a7.o];exact x5,HI.o.2.trans (HI.o.1.bel m5 (by omega))⟩;clear x5 m5 aa HI e0;go_wp2_with fail;go_roundw
   case rel=>exact ⟨k+1,E,by go_num,by omega,HF.o⟩
   case measure=>simp [intOf];omega
  obtain rfl:k=rs.length:=by omega
  have a9:=HI.o;rw [List.take_length]at a9;have bu:=ag a9;clear HI a9;go_wp2_with fail;go_loopw [10] (fun i wr=>∃(k:Nat) (vo:Value) (o:List Int),i=.int .i64 k/\k<=h.ab.length/\Hid (Bx1 (w.heap.size+1+1) wr (w.heap.size+1+1) vo o/\BfsI nz (dr d.fields h.ab) rs (ts.map bo.loc) k o/\bfsP nz (dr d.fields h.ab) (h.ab.length+1 - k) k o=cg d h rs/\Below (w.heap.size+1+1) W0 wr)) (fun i _=>h.ab.length+1 - (intOf i).toNat)
  case atStart=>exact ⟨0,vo,_,rfl,n0q _,bu.o.1,zvi,c4.o.symm,bu.o.2⟩
  case round=>
   obtain ⟨k,ec,o,rfl,d6,HI⟩:=hrel;obtain ⟨L,du⟩:∃L,L=wr:=⟨_,rfl⟩;subst du;obtain ⟨hX,hF,ak,G⟩:=HI.o;have dl:=G.size;have au:=bz.o;have ao:o.length<h.ab.length:=Nat.lt_of_le_of_lt (zvh o _ hF.nd fun x hx=>HU.o x (hF.sound x hx)) bp.o;obtain ⟨aP,ad,rfl⟩:=jf hX.row;have p0:=ba hX.blk 0 (x:=.slice aP o.length ad) rfl;have lP:=bv hX.blk;by_cases O:k<o.length
   ·obtain ⟨gO,dg⟩:∃gO,aP=some ⟨gO,0,none⟩:=by
     rcases hX.row.2 with ⟨e,h0⟩ | ⟨g,cap,d1,e,-⟩
     ·omega
     injection e with e1;exact ⟨g,e1⟩
    subst dg;have an:o[k]? =some o[k]:=List.getElem?_eq_getElem O;obtain ⟨t,ht,bf⟩:∃t∈ts,t.loc=o[k]:=by obtain ⟨t,ht,e⟩:=List.mem_map.1 (HU.o _ (hF.sound _ (gm O)));exact ⟨t,ht,e⟩
    have dd:=zsg ac.o.sized ac.o.both t ht;obtain ⟨a,ha⟩:∃a:Nat,o[k]=(a:Int):=⟨o[k].toNat,by omega⟩;have e0:=(hX.row.cellAt k (by rw [Nat.mul_one];exact O)).trans (zmp O);rw [ha]at e0 bf an;have bh:bq h.ab (a:Int)=t:=by rw [<-bf];exact (th_at ac.o ht).symm
    have F:mw d (bq h.ab (a:Int)):=by
     rw [bh];by_cases hy:t.loc<=h.ae
     ·exact (zuv ac.o ht hy).fit
     exact (zu7 ac.o ht (by omega)).2.2.2.1
    have cj:∀c∈refsOf d.fields (bq h.ab (a:Int)),0<=c/\c<h.ab.length:=fun c hc=>by rw [bh]at hc;obtain ⟨n,e,hn,-⟩:=zto hc;have:t.fin=t.loc+3+t.len:=rfl;omega
    have c3:=ag cj;have bx:=ag (fun V (hV:Below L.heap.size L V)=>by
     have g2:=bs.o V (G.trans (hV.mono (by omega)));exact znq V B _ _ _ _ _ _ _ h d g2.sW g2.sO g2.lk g2.le a (by omega) ds F)
    have c2:=ag F;have bm:Hid (Below L.heap.size L L.drew):=(br _ _).drew;have ay:=ag (hF.next an);have bc:=zv5 nz (dr d.fields h.ab) (h.ab.length - k) k o an;rw [show h.ab.length - k+1=h.ab.length+1 - k by omega,ak]at bc;have a7:=ag bc;have j0:=(G.block _ (by omega:w.heap.size<w.heap.size+1+1)).trans ax.o.1;have j1:=(G.block _ (by omega:w.heap.size+1<w.heap.size+1+1)).trans ax.o.2;obtain ⟨a0,a1,a2,a3,a4,a5,a6,az,al⟩:=ia j0;obtain ⟨b0,b1,b2,b3,b4,W⟩:=cells5 j1;have c8:=ag hX;have c0:=ag G;have lO:=(hX.row.lt gO rfl).2;clear hX hF ak G dd bf bh F cj bc an j0 j1 ht ha;go_wp2_with fail;refine wp_region_held_drew (S:=fun W'=>∀p:Addr,p.block<L.heap.size->W'.cell? p=L.cell? p) (by kernel_rfl) (fun p hp=>rfl) fun D=>?_;refine ta 0 (.agg #[.slice aW h.ab.length cW,.int .i64 h.ae,.int .i64 h.old,.int .i64 h.bg,.int .i64 h.bj,.slice aO h.ap.length cO,.int .i64 h.next]) rfl D ?_;refine ta 1 (.agg #[.slice aC d.aj.length cC,.slice aS d.ar.length cS,.slice aF d.fields.length cF,.slice aN d.names.length cN,.slice aT d.aq.length cT]) rfl D ?_;refine ta 2 (.slice (some ⟨gO,0,none⟩) o.length ad) rfl D ?_;refine ta 3 (.int .i64 (k:Int)) rfl D ?_;refine ta 4 (.pointer (some ⟨gO,k,none⟩)) rfl D ?_;refine ta 5 (.int .i64 (a:Int)) rfl D ?_;refine wpAnyH_ready (rs:=[6]) (by kernel_rfl) (by simp) ?_;refine AllReadyH.cons rfl (fun K6 c9=>?_) AllReadyH.nil;go_simp;refine (bx.o _ bm.o).mono ?_;rintro r w2 ⟨ca,vl,rfl,ao⟩;obtain ⟨aL,cL,rfl⟩:=jf ao;have I:Below L.heap.size L w2:=(br L.heap.size L).drew.trans ca;refine c9.o _ _ (fun p hp=>I.cell hp) fun D=>?_;refine ta 7 (.slice aL (refsOf d.fields (bq h.ab a)).length cL) rfl D ?_;refine wpAnyH_done (by kernel_rfl) ?_ _;clear D;try simp only [Act.put,p1q,p4q,p3q,p2q,p5q,p6q]
    have a8:=ag ao;have cy:=ag I;have eb:=I.size;have cs:(refsOf d.fields (bq h.ab (a:Int))).length<=1000000:=by have h1:=zhr d.fields (bq h.ab (a:Int)) (bq h.ab (a:Int)).len.toNat;have h2:=c2.o.hi;have h3:(refsOf d.fields (bq h.ab (a:Int))).length<=(bq h.ab (a:Int)).len.toNat:=h1;omega
    have ah:Hid (dr d.fields h.ab a=(refsOf d.fields (bq h.ab (a:Int))).map (wd h.ab)):=rfl;have b7:=c8.o.below I;have b5:=ag b7;generalize refsOf d.fields (bq h.ab (a:Int))=l at*;clear ao ca I bx bm b7 e0;clear a0 a1 a2 a3 a4 a5 a6 al az;clear b0 b1 b2 b3 b4 W;go_wp2_with fail;go_loopw [12] (fun i wr=>∃(j:Nat) (A:Value),i=.int .i64 j/\j<=l.length/\Hid (Bx1 (w.heap.size+1+1) wr (w.heap.size+1+1) A (((dr d.fields h.ab a).take j).foldl (i3 nz) o)/\lh w2.heap.size (w.heap.size+1+1) (w.heap.size+1+1) (w.heap.size+1+1) (.slice none 0 0) (.slice (some ⟨gO,0,none⟩) o.length ad) w2 A wr)) (fun i _=>l.length - (intOf i).toNat)
    case atStart=>exact ⟨0,_,rfl,n0q _,b5.o,lh.ofBelow (br _ _)⟩
    case round=>
     obtain ⟨j,A,rfl,hj,HJ⟩:=hrel;obtain ⟨x3,m3⟩:=HJ.o;have af:Below (w.heap.size+1+1) W0 wr:=(c0.o.trans (cy.o.mono (by omega))).trans (b5.o.bel m3 (by omega));have dz:=m3.size;by_cases J:j<l.length
     ·have aw:=zv0 a8.o m3 (fun q e1 e2=>by
       have h0:L.heap.size<=q:=(a8.o.lt q e1).1;exact ⟨e2,by omega,by omega,by omega,(fun e=>by cases e),fun e=>by have e:gO=q:=ojq e;omega⟩)
      have N:∀q,(Value.slice aL l.length cL).ownBlock=some q->L.heap.size<=q/\q<w2.heap.size:=fun q e=>a8.o.lt q e;obtain ⟨W,ol,rfl,ce,X⟩:=(zfb aw cs).atI j J;have N:=N W rfl;obtain ⟨d3,df⟩:=c3.o l[j] (gm J);have co:(dr d.fields h.ab a)[j]'(by rw [ah.o,List.length_map];exact J)=wd h.ab l[j]:=by
       have e:(dr d.fields h.ab a)[j]? =some (wd h.ab l[j]):=by rw [ah.o,List.getElem?_map,List.getElem?_eq_getElem J];rfl
       exact ojq ((List.getElem?_eq_getElem _).symm.trans e)
      have F:=zv4 (i3 nz) (dr d.fields h.ab a) o j (by rw [ah.o,List.length_map];exact J);rw [co]at F;obtain ⟨c,hc⟩:∃c:Nat,l[j]=(c:Int):=⟨l[j].toNat,by omega⟩;rw [hc]at X df F;have ch:c<h.ab.length:=by omega
      obtain ⟨bW,oW,rfl,av,cc,s2⟩:=atIm (bs.o wr af).sW c ch;have av:bW<B:=av;rw [zen ch]at F;have cr:(((dr d.fields h.ab a).take j).foldl (i3 nz) o).length<=1000000:=by
       have h1:=zvh _ _ ay.o.nd fun x hx=>HU.o x (ay.o.sound x hx);have h2:(dr d.fields h.ab a).foldl (i3 nz) o=((dr d.fields h.ab a).drop j).foldl (i3 nz) (((dr d.fields h.ab a).take j).foldl (i3 nz) o):=by rw [<-List.foldl_append,List.take_append_drop]
       obtain ⟨e,he⟩:=zvg (P:=nz) ((dr d.fields h.ab a).drop j) (((dr d.fields h.ab a).take j).foldl (i3 nz) o);rw [h2,he,List.length_append]at h1;have:=bp.o;omega
      generalize h.ab[c]=v at*;have bn:=ag F;generalize ((dr d.fields h.ab a).take j).foldl (i3 nz) o=o3 at*;have aa:=ag (zv3 wr.drew (w.heap.size+1+1) (w.heap.size+1+1) A o3 (x3.below (br _ _).drew) cr v);have q0:=(af.block _ (by omega:w.heap.size<w.heap.size+1+1)).trans ax.o.1;have Z:=ba q0 0 (x:=.slice (some ⟨bW,oW,none⟩) h.ab.length cW) rfl;have cm:=bv q0;have bi:∀q,A.ownBlock=some q->w.heap.size+1+1<=q:=fun q e=>(x3.row.lt q e).1;have ct:A.ownBlock≠some (w.heap.size):=fun e=>by have:=bi _ e;omega
      have cv:A.ownBlock≠some bW:=fun e=>by have:=bi _ e;omega
      have cu:A.ownBlock≠some W:=fun e=>by
       rcases m3.gv W e with q | q
       ·have q:gO=W:=ojq q;omega
       omega
      have cf:W≠w.heap.size+1+1:=by omega
      have bw:Hid (∀(Y:World) (E:Value),lh wr.drew.heap.size (w.heap.size+1+1) (w.heap.size+1+1) (w.heap.size+1+1) (.slice none 0 0) A wr.drew E Y->Y.cell? ⟨w.heap.size,0,none⟩=some (.slice (some ⟨bW,oW,none⟩) h.ab.length cW)/\Y.cell? ⟨W,ol+j,none⟩=some (.int .i64 (c:Int))/\Y.cell? ⟨bW,oW+c,none⟩=some (.int .i64 v)):=fun Y E m5=>by have bb:∀q,q<wr.heap.size->q≠w.heap.size+1+1->A.ownBlock≠some q->Y.heap[q]? =wr.heap[q]? :=fun q hq h1 h2=>m5.block q hq hq h1 h1 h1 (fun e=>by cases e) h2;exact ⟨(World.cell?_of_block (a:=⟨w.heap.size,0,none⟩) (bb (w.heap.size) cm (by omega) ct)).trans Z,(World.cell?_of_block (a:=⟨W,ol+j,none⟩) (bb W ce cf cu)).trans X,(World.cell?_of_block (a:=⟨bW,oW+c,none⟩) (bb bW cc (by omega) cv)).trans s2⟩
      have d0:=ag N;clear aw co F hc x3 m3 q0 bi ct cv cu cm af N;go_wp2_with fail;refine wp_region_held_drew (S:=fun W'=>W'.cell? ⟨w.heap.size,0,none⟩=some (.slice (some ⟨bW,oW,none⟩) h.ab.length cW)/\W'.cell? ⟨W,ol+j,none⟩=some (.int .i64 (c:Int))/\W'.cell? ⟨bW,oW+c,none⟩=some (.int .i64 v)) (by kernel_rfl) ⟨Z,X,s2⟩ fun D=>?_;refine tq 0 (.func (.func 148) #[] #[.pointer (some ⟨w.heap.size+1+1,0,none⟩)]) rfl (by kernel_rfl) (by kernel_rfl) (fun _ _ _ h=>h) ?_ D ?_
      ·intro w u;obtain ⟨Z,X,s2⟩:=u;go_simp
      refine tq 1 (.pointer (some ⟨w.heap.size,0,none⟩)) rfl (by kernel_rfl) (by kernel_rfl) (fun _ _ _ h=>h) ?_ D ?_
      ·intro w u;obtain ⟨Z,X,s2⟩:=u;go_simp
      refine tq 2 (.slice (some ⟨bW,oW,none⟩) h.ab.length cW) rfl (by kernel_rfl) (by kernel_rfl) (fun _ _ _ h=>h) ?_ D ?_
      ·intro w u;obtain ⟨Z,X,s2⟩:=u;go_simp
      refine tq 3 (.slice (some ⟨W,ol,none⟩) l.length cL) rfl (by kernel_rfl) (by kernel_rfl) (fun _ _ _ h=>h) ?_ D ?_
      ·intro w u;obtain ⟨Z,X,s2⟩:=u;go_simp
      refine tq 4 (.int .i64 (j:Int)) rfl (by kernel_rfl) (by kernel_rfl) (fun _ _ _ h=>h) ?_ D ?_
      ·intro w u;obtain ⟨Z,X,s2⟩:=u;go_simp
      refine tq 5 (.pointer (some ⟨W,ol+j,none⟩)) rfl (by kernel_rfl) (by kernel_rfl) (fun _ _ _ h=>h) ?_ D ?_
      ·intro w u;obtain ⟨Z,X,s2⟩:=u;go_simp
      refine tq 6 (.int .i64 (c:Int)) rfl (by kernel_rfl) (by kernel_rfl) (fun _ _ _ h=>h) ?_ D ?_
      ·intro w u;obtain ⟨Z,X,s2⟩:=u;go_simp
      refine tq 7 (.pointer (some ⟨bW,oW+c,none⟩)) rfl (by kernel_rfl) (by kernel_rfl) (fun _ _ _ h=>h) ?_ D ?_
      ·intro w u;obtain ⟨Z,X,s2⟩:=u;go_simp
      refine tq 8 (.int .i64 v) rfl (by kernel_rfl) (by kernel_rfl) (fun _ _ _ h=>h) ?_ D ?_
      ·intro w u;obtain ⟨Z,X,s2⟩:=u;go_simp
      refine wpAnyH_ready (rs:=[9]) (by kernel_rfl) (by simp) ?_;refine AllReadyH.cons rfl (fun K9 db=>?_) AllReadyH.nil;go_simp;refine aa.o.mono ?_;rintro r Y ⟨rfl,E,x5,m5⟩;refine db.o _ _ (bw.o Y E m5) fun D=>?_;refine wpAnyH_done (by kernel_rfl) ?_ _;clear D;try simp only [Act.put,p1q,p4q,p3q,p2q,p5q,p6q]
      have HF:Hid (Bx1 (w.heap.size+1+1) Y (w.heap.size+1+1) E (((dr d.fields h.ab a).take (j+1)).foldl (i3 nz) o)/\lh w2.heap.size (w.heap.size+1+1) (w.heap.size+1+1) (w.heap.size+1+1) (.slice none 0 0) (.slice (some ⟨gO,0,none⟩) o.length ad) w2 E Y):=⟨by rw [bn.o];exact x5,HJ.o.2.trans ((lh.ofBelow (br _ wr).drew).trans (m5.mono HJ.o.2.size))⟩;clear x5 m5 aa bw Z X s2 HJ;go_wp2_with fail;go_roundw
      case rel=>exact ⟨j+1,E,by go_num,by omega,HF.o⟩
      case measure=>simp [intOf];omega
     have cl:(dr d.fields h.ab a).take j=dr d.fields h.ab a:=List.take_of_length_le (by rw [ah.o,List.length_map];omega);rw [cl]at x3;have HF:Hid (Bx1 (w.heap.size+1+1) wr (w.heap.size+1+1) A ((dr d.fields h.ab a).foldl (i3 nz) o)/\BfsI nz (dr d.fields h.ab) rs (ts.map bo.loc) (k+1) ((dr d.fields h.ab a).foldl (i3 nz) o)/\bfsP nz (dr d.fields h.ab) (h.ab.length+1 - (k+1)) (k+1) ((dr d.fields h.ab a).foldl (i3 nz) o)=cg d h rs/\Below (w.heap.size+1+1) W0 wr):=⟨x3,ay.o,by rw [show h.ab.length+1 - (k+1)=h.ab.length - k by omega];exact a7.o.symm,af⟩;clear x3 m3 af HJ cl;go_wp2_with fail;go_roundw
     case rel=>exact ⟨k+1,A,_,by go_num,by omega,HF.o⟩
     case measure=>simp [intOf];omega
   have ci:o=cg d h rs:=by rw [<-ak];exact (zv6 _ _ _ _ _ (by omega)).symm
   have HF:Hid (Below w.heap.size w L/\L.ownsRow w.heap.size 3 1 (.slice aP o.length ad) (cg d h rs).length (b8 (cg d h rs))):=⟨cx.o.trans (G.mono (by omega)),by rw [<-ci];exact zhp hX.row (by omega)⟩;clear hX hF ak G HI ci;go_wp2_with fail;go_ret;exact ⟨HF.o.1,_,rfl,HF.o.2⟩
end Go.Proofs.YtjdnmblggdobgaaGreat
