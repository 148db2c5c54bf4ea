import Derived.Test.YtjdnmblggdobgaaGreatJHyDHyF
import Derived.Test.YtjdnmblggdobgaaGreatHzA
import Derived.Test.YtjdnmblggdobgaaGreatJHyGHyH
import Derived.Test.YtjdnmblggdobgaaGreatJTk2Dies
namespace Go.Proofs.YtjdnmblggdobgaaGreat
open Go.RowKit Go.Maps
def fq (P:Int->Bool) (o:List Int) (v:Int):List Int:=if P v&& !o.contains v then o++ [v] else o
def RchP (P:Int->Bool) (next:Int->List Int) (from0:List Int) (v:Int):Prop:=∀Q:Int->Prop,(∀u,u∈from0->P u=true->Q u)->(∀u x,Q u->x∈next u->P x=true->Q x)->Q v
theorem RchP.root {P:Int->Bool} {next:Int->List Int} {from0:List Int} {v:Int} (h:v∈from0) (g:P v=true):RchP P next from0 v:=fun _ a _=>a v h g
theorem RchP.step {P:Int->Bool} {next:Int->List Int} {from0:List Int} {u v:Int} (h:RchP P next from0 u) (k:v∈next u) (g:P v=true):RchP P next from0 v:=fun Q a b=>b u v (h Q a b) k g
theorem RchP.ind {P:Int->Bool} {next:Int->List Int} {from0:List Int} {Q:Int->Prop} {v:Int} (h:RchP P next from0 v) (a:∀v,v∈from0->P v=true->Q v) (b:∀u v,RchP P next from0 u->v∈next u->P v=true->Q u->Q v):Q v:=(h (fun x=>RchP P next from0 x/\Q x) (fun u p q=>⟨RchP.root p q,a u p q⟩) (fun u x p q r=>⟨RchP.step p.1 q r,b u x p.1 q r p.2⟩)).2
def bfsP (P:Int->Bool) (next:Int->List Int):Nat->Nat->List Int->List Int
 | 0,_,o=>o
 | f+1,i,o=>match o[i]? with
   | none=>o
   | some a=>bfsP P next f (i+1) ((next a).foldl (fq P) o)
theorem zvc {P:Int->Bool} {o:List Int} {v:Int} (h:o.Nodup):(fq P o v).Nodup:=by
 unfold fq;split
 ·rename_i hc;rw [Bool.and_eq_true,Bool.not_eq_true']at hc;refine List.nodup_append.2 ⟨h,by simp,?_⟩;intro a D b A e;rw [List.mem_singleton]at A;subst A;subst e;rw [List.contains_iff_mem.2 D]at hc;cases hc.2
 exact h
theorem zvd {P:Int->Bool} {o:List Int} {v x:Int} :x∈fq P o v↔x∈o\/(x=v/\P v=true):=by
 unfold fq;cases hp:P v with
 | false=>simp
 | true=>
   cases hc:o.contains v with
   | true=>
     have A:=List.contains_iff_mem.1 hc;simp only [Bool.not_true,Bool.and_false,Bool.false_eq_true,if_false,and_true];exact ⟨Or.inl,fun h=>h.elim id fun e=>e ▸ A⟩
   | false=>simp
theorem zve {P:Int->Bool} :∀(l o:List Int),o.Nodup->(l.foldl (fq P) o).Nodup
 | [],_,h=>h
 | v::l,o,h=>zve l (fq P o v) (zvc h)
theorem zvf {P:Int->Bool} {x:Int} :∀(l o:List Int),x∈l.foldl (fq P) o↔x∈o\/(x∈l/\P x=true)
 | [],o=>by simp
 | v::l,o=>by
   rw [List.foldl_cons,zvf l,zvd,List.mem_cons];constructor
   ·rintro ((h | ⟨rfl,h⟩) | ⟨h1,A⟩)
    ·exact Or.inl h
    ·exact Or.inr ⟨Or.inl rfl,h⟩
    exact Or.inr ⟨Or.inr h1,A⟩
   rintro (h | ⟨rfl | h1,A⟩)
   ·exact Or.inl (Or.inl h)
   ·exact Or.inl (Or.inr ⟨rfl,A⟩)
   exact Or.inr ⟨h1,A⟩
theorem zvg {P:Int->Bool} :∀(l o:List Int),∃e,l.foldl (fq P) o=o++e
 | [],o=>⟨[],(List.append_nil _).symm⟩
 | v::l,o=>by
   obtain ⟨e,A⟩:=zvg (P:=P) l (fq P o v);rw [List.foldl_cons,A];unfold fq;split
   ·exact ⟨[v]++e,List.append_assoc ..⟩
   exact ⟨e,rfl⟩
theorem zvh:∀(l m:List Int),l.Nodup->(∀x∈l,x∈m)->l.length<=m.length
 | [],_,_,_=>n0q _
 | x::l,m,hn,hs=>by rw [List.nodup_cons]at hn;have A:=hs x (List.mem_cons_self ..);have E:=zvh l (m.erase x) hn.2 fun y D=>(List.mem_erase_of_ne (fun e=>hn.1 (by rw [<-e];exact D))).2 (hs y (List.mem_cons_of_mem _ D));rw [List.length_erase_of_mem A]at E;have:0<m.length:=List.length_pos_of_mem A;rw [List.length_cons];omega
structure BfsI (P:Int->Bool) (next:Int->List Int) (from0 U:List Int) (i:Nat) (o:List Int):Prop where
 nd:o.Nodup
 le:i<=o.length
 sound:∀v∈o,RchP P next from0 v
 roots:∀v∈from0,P v=true->v∈o
 done:∀j a,j<i->o[j]? =some a->∀v∈next a,P v=true->v∈o
theorem zvi {P:Int->Bool} {next:Int->List Int} {A U:List Int} :BfsI P next A U 0 (A.foldl (fq P) []):=
 ⟨zve _ _ List.nodup_nil,n0q _,fun v D=>by
  rcases (zvf _ _).1 D with h | h
  ·cases h
  exact RchP.root h.1 h.2,fun v D E=>(zvf _ _).2 (Or.inr ⟨D,E⟩),fun j a F=>by omega⟩
theorem BfsI.next {P:Int->Bool} {next:Int->List Int} {A U:List Int} {i:Nat} {o:List Int} (b:BfsI P next A U i o) {a:Int} (G:o[i]? =some a):BfsI P next A U (i+1) ((next a).foldl (fq P) o):=by
 have N:i<o.length:=(List.getElem?_eq_some_iff.1 G).1;obtain ⟨e,J⟩:=zvg (P:=P) (next a) o;have D:∀j,j<=i->((next a).foldl (fq P) o)[j]? =o[j]? :=fun j L=>by rw [J,List.getElem?_append_left (by omega)]
 refine ⟨zve _ _ b.nd,by rw [J,List.length_append];omega,fun v E=>?_,fun v E F=>(zvf _ _).2 (Or.inl (b.roots v E F)),fun j c L hc v E F=>?_⟩
 ·rcases (zvf _ _).1 E with h | h
  ·exact b.sound v h
  exact RchP.step (b.sound a (List.mem_of_getElem? G)) h.1 h.2
 rw [D j (by omega)]at hc;by_cases I:j<i
 ·exact (zvf _ _).2 (Or.inl (b.done j c I hc v E F))
 have:j=i:=by omega
 subst this;rw [G]at hc;have:=ojq hc;subst this;exact (zvf _ _).2 (Or.inr ⟨E,F⟩)
def di (fs:List (List bg)) (ws:List Int) (a:Int):List Int:=(refsOf fs (bj ws a)).map (wd ws)
theorem th_at {d:bd} {h:bb} {ts:List bp} (r:Right d h ts) {t:bp} (A:t∈ts):t=bj h.ab t.loc:=by
 by_cases D:t.loc<=h.ag
 ·exact (zuv r A D).eq
 exact (zu7 r A (by omega)).2.2.1
theorem zvm {d:bd} {h:bb} {ts:List bp} (r:Right d h ts):(ts.map bp.loc).length<h.ab.length:=by
 rw [List.length_map];obtain ⟨I,G,E,F,rfl⟩:=zko r.both;have z:=r.sized;have X:=z.ag;have Y:=z.old;have Z:=z.len;have z4:=z.be;have z5:=z.ar;have A:∀(l:List bp),(∀t∈l,0<=t.len)->(l.length:Int)<=(l.map fun t=>3+t.len).sum:=by
  intro l;induction l with
  | nil=>intro _;exact Int.le_refl _
  | cons q l ih=>
    intro h;have h1:=ih fun p J=>h p (List.mem_cons_of_mem _ J);have O:=h q (List.mem_cons_self ..);rw [List.map_cons,List.sum_cons,List.length_cons];omega
 have V:=zu1 _ 1 I (nlq _) (by omega) E;have W:=zu1 _ (h.ag+1) G (nlq _) (by omega) F;have L:=A I fun t D=>zeo (zkn E t D).2.2.2.2;have N:=A G fun t D=>zeo (zkn F t D).2.2.2.2;rw [List.length_append];omega
structure Bx1 (b:Nat) (w:World) (P:Nat) (vo:Value) (o:List Int):Prop where
 blk:w.heap[P]? =some (.cells #[vo] 22 (0,0))
 row:w.ownsRow b 3 1 vo o.length (b8 o)
 bP:b<=P
 ne:vo.ownBlock≠some P
theorem Bx1.below {b P:Nat} {w w':World} {D:Value} {o:List Int} (x:Bx1 b w P D o) (A:Below w.heap.size w w'):Bx1 b w' P D o:=⟨(A.block _ (bk x.blk)).trans x.blk,kv x.row A,x.bP,x.ne⟩
theorem Bx1.bel {b P L:Nat} {w w':World} {D A:Value} {o:List Int} (x:Bx1 b w P D o) (m:jc L P P P (.slice none 0 0) D w A w') (F:b<=L):Below b w w':=
 ⟨m.os,m.tape,m.output,m.size,fun j E=>m.block j (by omega) (by have:=bk x.blk;have:=x.bP;omega) (by have:=x.bP;omega) (by have:=x.bP;omega) (by have:=x.bP;omega) (fun e=>by cases e) (fun e=>by have:=(x.row.lt j e).1;omega)⟩
theorem Bx1.more {b P:Nat} {w I w':World} {G:Value} {o:List Int} {v:Int} {D J:Nat} (x:Bx1 b w P G o) (E:w.grownBy I G.ownBlock) (W:I.ownsRow b 3 1 (.slice (some ⟨D,0,none⟩) (o.length+1) J) (o.length+1) (b8 o++ [.int .i64 v])) (N:G.ownBlock=some D\/w.heap.size<=D) (O:w'=I.setCell ⟨P,0,none⟩ (.slice (some ⟨D,0,none⟩) (o.length+1) J)):
 Bx1 b w' P (.slice (some ⟨D,0,none⟩) (o.length+1) J) (o++ [v])/\∀L,L<=w.heap.size->jc L P P P (.slice none 0 0) G w (.slice (some ⟨D,0,none⟩) (o.length+1) J) w':=by
 have Z:=bk x.blk;have Y:I.heap[P]? =some (.cells #[G] 22 (0,0)):=(E.block P Z (fun e=>x.ne e.symm)).trans x.blk;have A:I.grownBy w' (some P):=O ▸ mf (World.grownBy.refl _ _) _ _ (Or.inl rfl);have X:=E.size;have F:D≠P:=fun e=>by
  rcases N with q | q
  ·exact x.ne (by rw [q,e])
  omega
 refine ⟨⟨O ▸ mu Y _,?_,x.bP,fun e=>F (ojq e)⟩,fun L hL=>⟨A.os.trans E.os,A.tape.trans E.tape,A.output.trans E.output,lt3 E.size A.size,fun j _ V a _ _ _ f=>(A.block j (by omega) (fun e=>a (ojq e))).trans (E.block j V (fun e=>f e.symm)),fun j e=>by
  have e:D=j:=ojq e;rcases N with q | q
  ·exact Or.inl (by rw [q,e])
  exact Or.inr (by omega)⟩⟩
 rw [List.length_append,zhs];exact World.ownsRow.kept W A (Or.inr fun e=>F (ojq e))
theorem zv4 {α β:Type} (f:β->α->β) (l:List α) (b:β) (k:Nat) (A:k<l.length):(l.take (k+1)).foldl f b=f ((l.take k).foldl f b) l[k]:=by rw [List.take_succ_eq_append_getElem A,List.foldl_append];rfl
theorem zv5 (Q:Int->Bool) (next:Int->List Int) (f i:Nat) (o:List Int) {a:Int} (h:o[i]? =some a):bfsP Q next (f+1) i o=bfsP Q next f (i+1) ((next a).foldl (fq Q) o):=by rw [bfsP,h]
theorem zv6 (Q:Int->Bool) (next:Int->List Int) (f i:Nat) (o:List Int) (h:o.length<=i):bfsP Q next f i o=o:=by
 cases f with
 | zero=>rfl
 | succ f=>rw [bfsP,List.getElem?_eq_none h]
theorem atIm {M:Nat->Prop} {w:World} {A:Option Addr} {len cap:Nat} {l:List Int} (h:SL 1 RI M w (.slice A len cap) l) (k:Nat) (E:k<l.length):
 ∃b off,A=some ⟨b,off,none⟩/\M b/\b<w.heap.size/\w.cell? ⟨b,off+k,none⟩=some (.int .i64 l[k]):=by
 obtain ⟨b,off,G,e,F,D,_,hc,rfl⟩:=h.at k E;exact ⟨b,off,e,F,D,by have:=hc 0 (by decide);simpa using this⟩
end Go.Proofs.YtjdnmblggdobgaaGreat
