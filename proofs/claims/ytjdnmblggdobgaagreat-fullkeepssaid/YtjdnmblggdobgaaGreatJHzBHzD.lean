import Derived.Test.YtjdnmblggdobgaaGreatJHyDHyF
import Derived.Test.YtjdnmblggdobgaaGreatJHyBHzA
import Derived.Test.YtjdnmblggdobgaaGreatJHyGHyJ
import Derived.Test.YtjdnmblggdobgaaGreatJTk2Dies
namespace Go.Proofs.YtjdnmblggdobgaaGreat
open Go.RowKit Go.Maps
def rchP (P:Int->Bool) (o:List Int) (v:Int):List Int:=if P v&& !o.contains v then o++ [v] else o
def jq (P:Int->Bool) (next:Int->List Int) (from0:List Int) (v:Int):Prop:=∀Q:Int->Prop,(∀u,u∈from0->P u=true->Q u)->(∀u x,Q u->x∈next u->P x=true->Q x)->Q v
theorem jq.root {P:Int->Bool} {next:Int->List Int} {from0:List Int} {v:Int} (h:v∈from0) (g:P v=true):jq P next from0 v:=fun _ a _=>a v h g
theorem jq.step {P:Int->Bool} {next:Int->List Int} {from0:List Int} {u v:Int} (h:jq P next from0 u) (k:v∈next u) (g:P v=true):jq P next from0 v:=fun Q a b=>b u v (h Q a b) k g
theorem jq.ind {P:Int->Bool} {next:Int->List Int} {from0:List Int} {Q:Int->Prop} {v:Int} (h:jq P next from0 v) (a:∀v,v∈from0->P v=true->Q v) (b:∀u v,jq P next from0 u->v∈next u->P v=true->Q u->Q v):Q v:=(h (fun x=>jq P next from0 x/\Q x) (fun u p q=>⟨jq.root p q,a u p q⟩) (fun u x p q r=>⟨jq.step p.1 q r,b u x p.1 q r p.2⟩)).2
def bfsP (P:Int->Bool) (next:Int->List Int):Nat->Nat->List Int->List Int
 | 0,_,o=>o
 | f+1,i,o=>match o[i]? with
   | none=>o
   | some a=>bfsP P next f (i+1) ((next a).foldl (rchP P) o)
theorem zvc {P:Int->Bool} {o:List Int} {v:Int} (h:o.Nodup):(rchP P o v).Nodup:=by
 unfold rchP;split
 ·rename_i hc;rw [Bool.and_eq_true,Bool.not_eq_true']at hc;refine List.nodup_append.2 ⟨h,by simp,?_⟩;intro a A b u e;rw [List.mem_singleton]at u;subst u;subst e;rw [List.contains_iff_mem.2 A]at hc;cases hc.2
 exact h
theorem zvd {P:Int->Bool} {o:List Int} {v x:Int} :x∈rchP P o v↔x∈o\/(x=v/\P v=true):=by
 unfold rchP;cases hp:P v with
 | false=>simp
 | true=>
   cases hc:o.contains v with
   | true=>
     have u:=List.contains_iff_mem.1 hc;simp only [Bool.not_true,Bool.and_false,Bool.false_eq_true,if_false,and_true];exact ⟨Or.inl,fun h=>h.elim id fun e=>e ▸ u⟩
   | false=>simp
theorem zve {P:Int->Bool} :∀(l o:List Int),o.Nodup->(l.foldl (rchP P) o).Nodup
 | [],_,h=>h
 | v::l,o,h=>zve l (rchP P o v) (zvc h)
theorem zvf {P:Int->Bool} {x:Int} :∀(l o:List Int),x∈l.foldl (rchP P) o↔x∈o\/(x∈l/\P x=true)
 | [],o=>by simp
 | v::l,o=>by
   rw [List.foldl_cons,zvf l,zvd,List.mem_cons];constructor
   ·rintro ((h | ⟨rfl,h⟩) | ⟨h1,u⟩)
    ·exact Or.inl h
    ·exact Or.inr ⟨Or.inl rfl,h⟩
    exact Or.inr ⟨Or.inr h1,u⟩
   rintro (h | ⟨rfl | h1,u⟩)
   ·exact Or.inl (Or.inl h)
   ·exact Or.inl (Or.inr ⟨rfl,u⟩)
   exact Or.inr ⟨h1,u⟩
theorem zvg {P:Int->Bool} :∀(l o:List Int),∃e,l.foldl (rchP P) o=o++e
 | [],o=>⟨[],(List.append_nil _).symm⟩
 | v::l,o=>by
   obtain ⟨e,u⟩:=zvg (P:=P) l (rchP P o v);rw [List.foldl_cons,u];unfold rchP;split
   ·exact ⟨[v]++e,List.append_assoc ..⟩
   exact ⟨e,rfl⟩
theorem zvh:∀(l m:List Int),l.Nodup->(∀x∈l,x∈m)->l.length<=m.length
 | [],_,_,_=>n0q _
 | x::l,m,hn,hs=>by rw [List.nodup_cons]at hn;have u:=hs x (List.mem_cons_self ..);have D:=zvh l (m.erase x) hn.2 fun y A=>(List.mem_erase_of_ne (fun e=>hn.1 (by rw [<-e];exact A))).2 (hs y (List.mem_cons_of_mem _ A));rw [List.length_erase_of_mem u]at D;have:0<m.length:=List.length_pos_of_mem u;rw [List.length_cons];omega
structure BfsI (P:Int->Bool) (next:Int->List Int) (from0 U:List Int) (i:Nat) (o:List Int):Prop where
 nd:o.Nodup
 le:i<=o.length
 sound:∀v∈o,jq P next from0 v
 roots:∀v∈from0,P v=true->v∈o
 done:∀j a,j<i->o[j]? =some a->∀v∈next a,P v=true->v∈o
theorem zvi {P:Int->Bool} {next:Int->List Int} {u U:List Int} :BfsI P next u U 0 (u.foldl (rchP P) []):=
 ⟨zve _ _ List.nodup_nil,n0q _,fun v A=>by
  rcases (zvf _ _).1 A with h | h
  ·cases h
  exact jq.root h.1 h.2,fun v A D=>(zvf _ _).2 (Or.inr ⟨A,D⟩),fun j a E=>by omega⟩
theorem BfsI.next {P:Int->Bool} {next:Int->List Int} {u U:List Int} {i:Nat} {o:List Int} (b:BfsI P next u U i o) {a:Int} (F:o[i]? =some a):BfsI P next u U (i+1) ((next a).foldl (rchP P) o):=by
 have hi:i<o.length:=(List.getElem?_eq_some_iff.1 F).1;obtain ⟨e,I⟩:=zvg (P:=P) (next a) o;have A:∀j,j<=i->((next a).foldl (rchP P) o)[j]? =o[j]? :=fun j J=>by rw [I,List.getElem?_append_left (by omega)]
 refine ⟨zve _ _ b.nd,by rw [I,List.length_append];omega,fun v D=>?_,fun v D E=>(zvf _ _).2 (Or.inl (b.roots v D E)),fun j c J hc v D E=>?_⟩
 ·rcases (zvf _ _).1 D with h | h
  ·exact b.sound v h
  exact jq.step (b.sound a (List.mem_of_getElem? F)) h.1 h.2
 rw [A j (by omega)]at hc;by_cases G:j<i
 ·exact (zvf _ _).2 (Or.inl (b.done j c G hc v D E))
 have:j=i:=by omega
 subst this;rw [F]at hc;have:=ojq hc;subst this;exact (zvf _ _).2 (Or.inr ⟨D,E⟩)
theorem BfsI.all {P:Int->Bool} {next:Int->List Int} {u U:List Int} {o:List Int} (b:BfsI P next u U o.length o) (v:Int):v∈o↔jq P next u v:=by
 refine ⟨b.sound v,fun h=>?_⟩;apply jq.ind h
 ·intro _ h1 h2
  exact b.roots _ h1 h2
 intro _ _ _ h1 h2 ih
 obtain ⟨j,A,e⟩:=List.getElem_of_mem ih;exact b.done j _ A (by rw [List.getElem?_eq_getElem A,e]) _ h1 h2
theorem zvj {P:Int->Bool} {next:Int->List Int} {u U:List Int} (A:∀v,jq P next u v->v∈U):∀(f i:Nat) (o:List Int),U.length<i+f->BfsI P next u U i o->BfsI P next u U (bfsP P next f i o).length (bfsP P next f i o)
 | 0,i,o,hf,b=>by have:=zvh o U b.nd fun x D=>A x (b.sound x D);have:=b.le;omega
 | f+1,i,o,hf,b=>by
   rw [bfsP];cases ha:o[i]? with
   | none=>
     have:o.length<=i:=List.getElem?_eq_none_iff.1 ha;have e:i=o.length:=by have:=b.le;omega
     rw [e]at b;exact b
   | some a=>exact zvj A f (i+1) _ (by omega) (b.next ha)
theorem zvk {f:Int->Int} {l m:List Int} (A:l.Nodup) (D:m.Nodup) (h:∀x,x∈l↔x∈m) (h0:∀x∈l,0<=f x):(l.map f).sum=(m.map f).sum:=
 Int.le_antisymm (zu0 l m A (fun x u=>(h x).1 u) fun x u=>h0 x ((h x).2 u)) (zu0 m l D (fun x u=>(h x).2 u) h0)
def fm (fs:List (List bo)) (ws:List Int) (a:Int):List Int:=(refsOf fs (bj ws a)).map (wd ws)
def nz (v:Int):Bool:=v != 0
def cg (d:be) (h:bd) (rs:List Int):List Int:=bfsP nz (fm d.fields h.ab) (h.ab.length+1) 0 (rs.foldl (rchP nz) [])
def fc (d:be) (h:bd) (rs:List Int):Int:=((cg d h rs).map fun a=>3+wd h.ab (a+1)).sum
theorem th_at {d:be} {h:bd} {ts:List bp} (r:Right d h ts) {t:bp} (u:t∈ts):t=bj h.ab t.loc:=by
 by_cases A:t.loc<=h.ae
 ·exact (zuv r u A).eq
 exact (zu7 r u (by omega)).2.2.1
theorem zvl {d:be} {h:bd} {ts:List bp} (r:Right d h ts) {rs:List Int} (E:∀v∈rs,cw ts v=true) {v:Int} (F:jq nz (fm d.fields h.ab) rs v):∃t∈ts,t.loc=v:=by
 have u:∀ {v:Int},nz v=true->v≠0:=fun {v} h e=>by subst e;cases h
 apply jq.ind F
 ·intro _ h1 h2
  exact zux (E _ h1) (u h2)
 intro _ _ _ h1 h2 ih
 obtain ⟨t,D,rfl⟩:=ih;unfold fm at h1;obtain ⟨a,A,rfl⟩:=List.mem_map.1 h1;rw [<-th_at r D]at A;exact zux (zu6 r D A) (u h2)
theorem zvm {d:be} {h:bd} {ts:List bp} (r:Right d h ts):(ts.map bp.loc).length<h.ab.length:=by
 rw [List.length_map];obtain ⟨G,F,D,E,rfl⟩:=zko r.both;have z:=r.sized;have W:=z.ae;have X:=z.old;have Y:=z.len;have Z:=z.bg;have z5:=z.bk;have u:∀(l:List bp),(∀t∈l,0<=t.len)->(l.length:Int)<=(l.map fun t=>3+t.len).sum:=by
  intro l;induction l with
  | nil=>intro _;exact Int.le_refl _
  | cons q l ih=>
    intro h;have h1:=ih fun p I=>h p (List.mem_cons_of_mem _ I);have N:=h q (List.mem_cons_self ..);rw [List.map_cons,List.sum_cons,List.length_cons];omega
 have O:=zu1 _ 1 G (nlq _) (by omega) D;have V:=zu1 _ (h.ae+1) F (nlq _) (by omega) E;have J:=u G fun t A=>zeo (zkn D t A).2.2.2.2;have L:=u F fun t A=>zeo (zkn E t A).2.2.2.2;rw [List.length_append];omega
theorem zvn {d:be} {h:bd} {ts:List bp} (r:Right d h ts) {rs:List Int} (A:∀v∈rs,cw ts v=true):(cg d h rs).Nodup/\∀v,v∈cg d h rs↔jq nz (fm d.fields h.ab) rs v:=by
 have u:∀v,jq nz (fm d.fields h.ab) rs v->v∈ts.map bp.loc:=fun v E=>by obtain ⟨t,D,e⟩:=zvl r A E;exact List.mem_map.2 ⟨t,D,e⟩
 have b:=zvj u (h.ab.length+1) 0 _ (by have:=zvm r;omega) zvi;exact ⟨b.nd,b.all⟩
theorem zvo {d:be} {h:bd} {ts:List bp} (r:Right d h ts) {rs:List Int} (D:∀v∈rs,cw ts v=true) {l:List Int} (E:l.Nodup) (A:∀v,v∈l↔jq nz (fm d.fields h.ab) rs v):(l.map fun a=>3+wd h.ab (a+1)).sum=fc d h rs:=by
 obtain ⟨I,J⟩:=zvn r D;refine zvk E I (fun x=>(A x).trans (J x).symm) fun x F=>?_;obtain ⟨t,u,rfl⟩:=zvl r D ((A x).1 F);have e:t.len=wd h.ab (t.loc+1):=congrArg bp.len (th_at r u);have:0<=t.len:=by
  by_cases G:t.loc<=h.ae
  ·exact (zuv r u G).fit.lo
  exact (zu7 r u (by omega)).2.2.2.1.lo
 omega
structure Bx1 (b:Nat) (w:World) (P:Nat) (vo:Value) (o:List Int):Prop where
 blk:w.heap[P]? =some (.cells #[vo] 22 (0,0))
 row:w.ownsRow b 3 1 vo o.length (bv o)
 bP:b<=P
 ne:vo.ownBlock≠some P
theorem Bx1.below {b P:Nat} {w w':World} {A:Value} {o:List Int} (x:Bx1 b w P A o) (u:Below w.heap.size w w'):Bx1 b w' P A o:=⟨(u.block _ (bz x.blk)).trans x.blk,kg x.row u,x.bP,x.ne⟩
theorem Bx1.bel {b P L:Nat} {w w':World} {A u:Value} {o:List Int} (x:Bx1 b w P A o) (m:Mvd L P P P (.slice none 0 0) A w u w') (E:b<=L):Below b w w':=
 ⟨m.os,m.tape,m.output,m.size,fun j D=>m.block j (by omega) (by have:=bz x.blk;have:=x.bP;omega) (by have:=x.bP;omega) (by have:=x.bP;omega) (by have:=x.bP;omega) (fun e=>by cases e) (fun e=>by have:=(x.row.lt j e).1;omega)⟩
theorem Bx1.more {b P:Nat} {w G w':World} {F:Value} {o:List Int} {v:Int} {A I:Nat} (x:Bx1 b w P F o) (D:w.grownBy G F.ownBlock) (V:G.ownsRow b 3 1 (.slice (some ⟨A,0,none⟩) (o.length+1) I) (o.length+1) (bv o++ [.int .i64 v])) (J:F.ownBlock=some A\/w.heap.size<=A) (N:w'=G.setCell ⟨P,0,none⟩ (.slice (some ⟨A,0,none⟩) (o.length+1) I)):
 Bx1 b w' P (.slice (some ⟨A,0,none⟩) (o.length+1) I) (o++ [v])/\∀L,L<=w.heap.size->Mvd L P P P (.slice none 0 0) F w (.slice (some ⟨A,0,none⟩) (o.length+1) I) w':=by
 have Y:=bz x.blk;have X:G.heap[P]? =some (.cells #[F] 22 (0,0)):=(D.block P Y (fun e=>x.ne e.symm)).trans x.blk;have u:G.grownBy w' (some P):=N ▸ nh (World.grownBy.refl _ _) _ _ (Or.inl rfl);have W:=D.size;have E:A≠P:=fun e=>by
  rcases J with q | q
  ·exact x.ne (by rw [q,e])
  omega
 refine ⟨⟨N ▸ zg6 X _,?_,x.bP,fun e=>E (ojq e)⟩,fun L Z=>⟨u.os.trans D.os,u.tape.trans D.tape,u.output.trans D.output,lt3 D.size u.size,fun j _ O a _ _ _ f=>(u.block j (by omega) (fun e=>a (ojq e))).trans (D.block j O (fun e=>f e.symm)),fun j e=>by
  have e:A=j:=ojq e;rcases J with q | q
  ·exact Or.inl (by rw [q,e])
  exact Or.inr (by omega)⟩⟩
 rw [List.length_append,zhs];exact World.ownsRow.kept V u (Or.inr fun e=>E (ojq e))
theorem zv4 {α β:Type} (f:β->α->β) (l:List α) (b:β) (k:Nat) (u:k<l.length):(l.take (k+1)).foldl f b=f ((l.take k).foldl f b) l[k]:=by rw [List.take_succ_eq_append_getElem u,List.foldl_append];rfl
theorem atIm {M:Nat->Prop} {w:World} {u:Option Addr} {len cap:Nat} {l:List Int} (h:SL 1 RI M w (.slice u len cap) l) (k:Nat) (D:k<l.length):
 ∃b off,u=some ⟨b,off,none⟩/\M b/\b<w.heap.size/\w.cell? ⟨b,off+k,none⟩=some (.int .i64 l[k]):=by
 obtain ⟨b,off,F,e,E,A,_,hc,rfl⟩:=h.at k D;exact ⟨b,off,e,E,A,by have:=hc 0 (by decide);simpa using this⟩
end Go.Proofs.YtjdnmblggdobgaaGreat
