import Derived.Test.YtjdnmblggdobgaaGreatJHyBHzA
import Derived.Test.YtjdnmblggdobgaaGreatJHyGHyJ
set_option maxHeartbeats 2000000
set_option maxRecDepth 100000
namespace Go.Proofs.YtjdnmblggdobgaaGreat
open Go.RowKit Go.Maps Tryz
def oo (P:Int->Bool) (o:List Int) (v:Int):List Int:=if P v&& !o.contains v then o++ [v] else o
def kh (P:Int->Bool) (next:Int->List Int) (from0:List Int) (v:Int):Prop:=∀Q:Int->Prop,(∀u,u∈from0->P u=true->Q u)->(∀u x,Q u->x∈next u->P x=true->Q x)->Q v
theorem kh.root {P:Int->Bool} {next:Int->List Int} {from0:List Int} {v:Int} (h:v∈from0) (g:P v=true):kh P next from0 v:=fun _ a _=>a v h g
theorem kh.step {P:Int->Bool} {next:Int->List Int} {from0:List Int} {u v:Int} (h:kh P next from0 u) (k:v∈next u) (g:P v=true):kh P next from0 v:=fun Q a b=>b u v (h Q a b) k g
theorem kh.ind {P:Int->Bool} {next:Int->List Int} {from0:List Int} {Q:Int->Prop} {v:Int} (h:kh P next from0 v) (a:∀v,v∈from0->P v=true->Q v) (b:∀u v,kh P next from0 u->v∈next u->P v=true->Q u->Q v):Q v:=(h (fun x=>kh P next from0 x/\Q x) (fun u p q=>⟨kh.root p q,a u p q⟩) (fun u x p q r=>⟨kh.step p.1 q r,b u x p.1 q r p.2⟩)).2
def uo (P:Int->Bool) (next:Int->List Int):Nat->Nat->List Int->List Int
 | 0,_,o=>o
 | f+1,i,o=>match o[i]? with
   | none=>o
   | some a=>uo P next f (i+1) ((next a).foldl (oo P) o)
theorem zvc {P:Int->Bool} {o:List Int} {v:Int} (h:o.Nodup):(oo P o v).Nodup:=by
 unfold oo;split
 ·rename_i hc;rw [Bool.and_eq_true,Bool.not_eq_true']at hc;refine List.nodup_append.2 ⟨h,by simp,?_⟩;intro a D b A e;rw [List.mem_singleton]at A;subst A;subst e;rw [List.contains_iff_mem.2 D]at hc;cases hc.2
 exact h
theorem zvd {P:Int->Bool} {o:List Int} {v x:Int} :x∈oo P o v↔x∈o\/(x=v/\P v=true):=by
 unfold oo;cases hp:P v with
 | false=>simp
 | true=>
   cases hc:o.contains v with
   | true=>
     have A:=List.contains_iff_mem.1 hc;simp only [Bool.not_true,Bool.and_false,Bool.false_eq_true,if_false,and_true];exact ⟨Or.inl,fun h=>h.elim id fun e=>e ▸ A⟩
   | false=>simp
theorem zve {P:Int->Bool} :∀(l o:List Int),o.Nodup->(l.foldl (oo P) o).Nodup
 | [],_,h=>h
 | v::l,o,h=>zve l (oo P o v) (zvc h)
theorem Cs {P:Int->Bool} {x:Int} :∀(l o:List Int),x∈l.foldl (oo P) o↔x∈o\/(x∈l/\P x=true)
 | [],o=>by simp
 | v::l,o=>by
   rw [List.foldl_cons,Cs l,zvd,List.mem_cons];constructor
   ·rintro ((h | ⟨rfl,h⟩) | ⟨h1,A⟩)
    ·exact Or.inl h
    ·exact Or.inr ⟨Or.inl rfl,h⟩
    exact Or.inr ⟨Or.inr h1,A⟩
   rintro (h | ⟨rfl | h1,A⟩)
   ·exact Or.inl (Or.inl h)
   ·exact Or.inl (Or.inr ⟨rfl,A⟩)
   exact Or.inr ⟨h1,A⟩
theorem zvg {P:Int->Bool} :∀(l o:List Int),∃e,l.foldl (oo P) o=o++e
 | [],o=>⟨[],(List.append_nil _).symm⟩
 | v::l,o=>by
   obtain ⟨e,A⟩:=zvg (P:=P) l (oo P o v);rw [List.foldl_cons,A];unfold oo;split
   ·exact ⟨[v]++e,List.append_assoc ..⟩
   exact ⟨e,rfl⟩
theorem zvh:∀(l m:List Int),l.Nodup->(∀x∈l,x∈m)->l.length<=m.length
 | [],_,_,_=>n0q _
 | x::l,m,hn,hs=>by rw [List.nodup_cons]at hn;have A:=hs x (List.mem_cons_self ..);have E:=zvh l (m.erase x) hn.2 fun y D=>(List.mem_erase_of_ne (fun e=>hn.1 (by rw [<-e];exact D))).2 (hs y (List.mem_cons_of_mem _ D));rw [List.length_erase_of_mem A]at E;have:0<m.length:=List.length_pos_of_mem A;rw [List.length_cons];omega
structure xy (P:Int->Bool) (next:Int->List Int) (from0 U:List Int) (i:Nat) (o:List Int):Prop where
 nd:o.Nodup
 le:i<=o.length
 sound:∀v∈o,kh P next from0 v
 roots:∀v∈from0,P v=true->v∈o
 done:∀j a,j<i->o[j]? =some a->∀v∈next a,P v=true->v∈o
theorem zvi {P:Int->Bool} {next:Int->List Int} {A U:List Int} :xy P next A U 0 (A.foldl (oo P) []):=
 ⟨zve _ _ List.nodup_nil,n0q _,fun v D=>by
  rcases (Cs _ _).1 D with h | h
  ·cases h
  exact kh.root h.1 h.2,fun v D E=>(Cs _ _).2 (Or.inr ⟨D,E⟩),fun j a F=>by omega⟩
theorem xy.next {P:Int->Bool} {next:Int->List Int} {A U:List Int} {i:Nat} {o:List Int} (b:xy P next A U i o) {a:Int} (G:o[i]? =some a):xy P next A U (i+1) ((next a).foldl (oo P) o):=by
 have hi:i<o.length:=(List.getElem?_eq_some_iff.1 G).1;obtain ⟨e,J⟩:=zvg (P:=P) (next a) o;have D:∀j,j<=i->((next a).foldl (oo P) o)[j]? =o[j]? :=fun j L=>by rw [J,List.getElem?_append_left (by omega)]
 refine ⟨zve _ _ b.nd,by rw [J,List.length_append];omega,fun v E=>?_,fun v E F=>(Cs _ _).2 (Or.inl (b.roots v E F)),fun j c L hc v E F=>?_⟩
 ·rcases (Cs _ _).1 E with h | h
  ·exact b.sound v h
  exact kh.step (b.sound a (List.mem_of_getElem? G)) h.1 h.2
 rw [D j (by omega)]at hc;by_cases I:j<i
 ·exact (Cs _ _).2 (Or.inl (b.done j c I hc v E F))
 have:j=i:=by omega
 subst this;rw [G]at hc;have:=ojq hc;subst this;exact (Cs _ _).2 (Or.inr ⟨E,F⟩)
theorem xy.all {P:Int->Bool} {next:Int->List Int} {A U:List Int} {o:List Int} (b:xy P next A U o.length o) (v:Int):v∈o↔kh P next A v:=by
 refine ⟨b.sound v,fun h=>?_⟩;apply kh.ind h
 ·intro _ h1 h2
  exact b.roots _ h1 h2
 intro _ _ _ h1 h2 ih
 obtain ⟨j,D,e⟩:=List.getElem_of_mem ih;exact b.done j _ D (by rw [List.getElem?_eq_getElem D,e]) _ h1 h2
theorem zvj {P:Int->Bool} {next:Int->List Int} {A U:List Int} (D:∀v,kh P next A v->v∈U):∀(f i:Nat) (o:List Int),U.length<i+f->xy P next A U i o->xy P next A U (uo P next f i o).length (uo P next f i o)
 | 0,i,o,hf,b=>by have:=zvh o U b.nd fun x E=>D x (b.sound x E);have:=b.le;omega
 | f+1,i,o,hf,b=>by
   rw [uo];cases ha:o[i]? with
   | none=>
     have:o.length<=i:=List.getElem?_eq_none_iff.1 ha;have e:i=o.length:=by have:=b.le;omega
     rw [e]at b;exact b
   | some a=>exact zvj D f (i+1) _ (by omega) (b.next ha)
theorem zvk {f:Int->Int} {l m:List Int} (D:l.Nodup) (E:m.Nodup) (h:∀x,x∈l↔x∈m) (h0:∀x∈l,0<=f x):(l.map f).sum=(m.map f).sum:=
 Int.le_antisymm (zu0 l m D (fun x A=>(h x).1 A) fun x A=>h0 x ((h x).2 A)) (zu0 m l E (fun x A=>(h x).2 A) h0)
def ed (fs:List (List bq)) (ws:List Int) (a:Int):List Int:=(refsOf fs (bj ws a)).map (wd ws)
def nz (v:Int):Bool:=v != 0
def cz (d:bd) (h:ar) (rs:List Int):List Int:=uo nz (ed d.fields h.ab) (h.ab.length+1) 0 (rs.foldl (oo nz) [])
def dp (d:bd) (h:ar) (rs:List Int):Int:=((cz d h rs).map fun a=>3+wd h.ab (a+1)).sum
theorem pg {d:bd} {h:ar} {ts:List bk} (r:Right d h ts) {t:bk} (A:t∈ts):t=bj h.ab t.loc:=by
 by_cases D:t.loc<=h.ae
 ·exact (xw r A D).eq
 exact (A0 r A (by omega)).2.2.1
theorem Fr {d:bd} {h:ar} {ts:List bk} (r:Right d h ts) {rs:List Int} (F:∀v∈rs,b8 ts v=true) {v:Int} (G:kh nz (ed d.fields h.ab) rs v):∃t∈ts,t.loc=v:=by
 have A:∀ {v:Int},nz v=true->v≠0:=fun {v} h e=>by subst e;cases h
 apply kh.ind G
 ·intro _ h1 h2
  exact Du (F _ h1) (A h2)
 intro _ _ _ h1 h2 ih
 obtain ⟨t,E,rfl⟩:=ih;unfold ed at h1;obtain ⟨a,D,rfl⟩:=List.mem_map.1 h1;rw [<-pg r E]at D;exact Du (zu6 r E D) (A h2)
theorem zvm {d:bd} {h:ar} {ts:List bk} (r:Right d h ts):(ts.map bk.loc).length<h.ab.length:=by
 rw [List.length_map];obtain ⟨I,G,E,F,rfl⟩:=xu r.both;have z:=r.sized;have X:=z.ae;have Y:=z.old;have Z:=z.len;have z4:=z.bo;have z5:=z.ba;have A:∀(l:List bk),(∀t∈l,0<=t.len)->(l.length:Int)<=(l.map fun t=>3+t.len).sum:=by
  intro l;induction l with
  | nil=>intro _;exact Int.le_refl _
  | cons q l ih=>
    intro h;have h1:=ih fun p J=>h p (List.mem_cons_of_mem _ J);have O:=h q (List.mem_cons_self ..);rw [List.map_cons,List.sum_cons,List.length_cons];omega
 have V:=zu1 _ 1 I (nlq _) (by omega) E;have W:=zu1 _ (h.ae+1) G (nlq _) (by omega) F;have L:=A I fun t D=>vd (sc E t D).2.2.2.2;have N:=A G fun t D=>vd (sc F t D).2.2.2.2;rw [List.length_append];omega
theorem Fs {d:bd} {h:ar} {ts:List bk} (r:Right d h ts) {rs:List Int} (D:∀v∈rs,b8 ts v=true):(cz d h rs).Nodup/\∀v,v∈cz d h rs↔kh nz (ed d.fields h.ab) rs v:=by
 have A:∀v,kh nz (ed d.fields h.ab) rs v->v∈ts.map bk.loc:=fun v F=>by obtain ⟨t,E,e⟩:=Fr r D F;exact List.mem_map.2 ⟨t,E,e⟩
 have b:=zvj A (h.ab.length+1) 0 _ (by have:=zvm r;omega) zvi;exact ⟨b.nd,b.all⟩
theorem zvo {d:bd} {h:ar} {ts:List bk} (r:Right d h ts) {rs:List Int} (E:∀v∈rs,b8 ts v=true) {l:List Int} (F:l.Nodup) (D:∀v,v∈l↔kh nz (ed d.fields h.ab) rs v):(l.map fun a=>3+wd h.ab (a+1)).sum=dp d h rs:=by
 obtain ⟨J,L⟩:=Fs r E;refine zvk F J (fun x=>(D x).trans (L x).symm) fun x G=>?_;obtain ⟨t,A,rfl⟩:=Fr r E ((D x).1 G);have e:t.len=wd h.ab (t.loc+1):=congrArg bk.len (pg r A);have:0<=t.len:=by
  by_cases I:t.loc<=h.ae
  ·exact (xw r A I).fit.lo
  exact (A0 r A (by omega)).2.2.2.1.lo
 omega
structure Al (b:Nat) (w:World) (P:Nat) (vo:Value) (o:List Int):Prop where
 blk:w.heap[P]? =some (.cells #[vo] 22 (0,0))
 row:w.ownsRow b 3 1 vo o.length (bw o)
 bP:b<=P
 ne:vo.ownBlock≠some P
theorem Al.below {b P:Nat} {w w':World} {D:Value} {o:List Int} (x:Al b w P D o) (A:Bl w w'):Al b w' P D o:=⟨(A.block _ (bz x.blk)).trans x.blk,mf x.row A,x.bP,x.ne⟩
theorem Al.bel {b P L:Nat} {w w':World} {D A:Value} {o:List Int} (x:Al b w P D o) (m:j7 L P P P (.nl) D w A w') (F:b<=L):Below b w w':=
 ⟨m.os,m.tape,m.output,m.size,fun j E=>m.block j (by omega) (by have:=bz x.blk;have:=x.bP;omega) (by have:=x.bP;omega) (by have:=x.bP;omega) (by have:=x.bP;omega) (fun e=>by cases e) (fun e=>by have:=(x.row.lt j e).1;omega)⟩
theorem Al.more {b P:Nat} {w I w':World} {G:Value} {o:List Int} {v:Int} {D J:Nat} (x:Al b w P G o) (E:w.grownBy I G.ownBlock) (W:I.ownsRow b 3 1 (.slice (some ⟨D,0,none⟩) (o.length+1) J) (o.length+1) (bw o++ [.i v])) (N:G.ownBlock=some D\/w.heap.size<=D) (O:w'=I.setCell ⟨P,0,none⟩ (.slice (some ⟨D,0,none⟩) (o.length+1) J)):
 Al b w' P (.slice (some ⟨D,0,none⟩) (o.length+1) J) (o++ [v])/\∀L,L<=w.heap.size->j7 L P P P (.nl) G w (.slice (some ⟨D,0,none⟩) (o.length+1) J) w':=by
 have Z:=bz x.blk;have Y:I.heap[P]? =some (.cells #[G] 22 (0,0)):=(E.block P Z (fun e=>x.ne e.symm)).trans x.blk;have A:I.grownBy w' (some P):=O ▸ ow (World.grownBy.refl _ _) _ _ (Or.inl rfl);have X:=E.size;have F:D≠P:=fun e=>by
  rcases N with q | q
  ·exact x.ne (by rw [q,e])
  omega
 refine ⟨⟨O ▸ rr Y _,?_,x.bP,fun e=>F (ojq e)⟩,fun L hL=>⟨A.os.trans E.os,A.tape.trans E.tape,A.output.trans E.output,lt3 E.size A.size,fun j _ V a _ _ _ f=>(A.block j (by omega) (fun e=>a (ojq e))).trans (E.block j V (fun e=>f e.symm)),fun j e=>by
  have e:D=j:=ojq e;rcases N with q | q
  ·exact Or.inl (by rw [q,e])
  exact Or.inr (by omega)⟩⟩
 rw [List.length_append,El];exact World.ownsRow.kept W A (Or.inr fun e=>F (ojq e))
theorem zv4 {α β:Type} (f:β->α->β) (l:List α) (b:β) (k:Nat) (A:k<l.length):(l.take (k+1)).foldl f b=f ((l.take k).foldl f b) l[k]:=by rw [List.take_succ_eq_append_getElem A,List.foldl_append];rfl
theorem atIm {M:Nat->Prop} {w:World} {A:Option Addr} {len cap:Nat} {l:List Int} (h:SL 1 RI M w (.slice A len cap) l) (k:Nat) (E:k<l.length):
 ∃b off,A=some ⟨b,off,none⟩/\M b/\b<w.heap.size/\w.cell? ⟨b,off+k,none⟩=some (.i l[k]):=by
 obtain ⟨b,off,G,e,F,D,_,hc,rfl⟩:=h.at k E;exact ⟨b,off,e,F,D,by have:=hc 0 (by decide);simpa using this⟩
def yg (h:ar) (v:Int):Bool:=qd v 1 h.ae
theorem zv8 (h:ar) (v:Int):yg h v=dm h v:=by unfold yg qd dm;congr 1
def jv (l:List Int) (n:Int):Int:=idx (fun x=>decide (x=n)) l
theorem zwa (w:World) (M:Nat->Prop) (v:Value) (l:List Int) (J:SL 1 RI M w v l) (n:Int):
 Calls prog 47 #[v,.i n] w fun r w'=>r=.returned (.i (jv l n))/\w'=w:=by
 have L:=ag J;obtain ⟨N,X,rfl,-,G,-⟩:=J;unfold maxLen at G;go_enter func47,ntmps47;go_wp2_with fail;go_loopw [5] (fun i wr=>∃k:Nat,k<=l.length/\i=.i k/\wr=w/\Hid (∀x∈l.take k,decide (x=n)=false)) (fun i _=>l.length - (intOf i).toNat)
 case atStart=>exact ⟨0,n0q _,rfl,rfl,fun x V=>by cases V⟩
 case round=>
  obtain ⟨k,Z,rfl,rfl,F⟩:=hrel;by_cases A:k<l.length
  ·obtain ⟨W,off,rfl,O,Y⟩:=L.o.atI k A;by_cases E:l[k]=n
   ·have D:=ag (Ai A F.o (decide_eq_true E));have I:(l[k]==n)=true:=by simpa using E
    go_wp2_with fail;go_ret;exact ⟨by unfold jv;rw [D.o];rfl,rfl⟩
   have D:=ag (Ax A F.o (decide_eq_false E));have I:(l[k]==n)=false:=by simpa using E
   go_wp2_with fail;go_roundw
   case rel=>exact ⟨k+1,by omega,by go_num,by trivial,D.o⟩
   case measure=>simp [intOf];omega
  have D:Hid (jv l n= -1):=Aw (by have:=F.o;rwa [List.take_of_length_le (by omega)]at this);go_wp2_with fail;go_ret;exact ⟨by rw [D.o];rfl,rfl⟩
def mr (order news:List Int) (v:Int):Int:=if v=0\/jv order v<0 then v else wd news (jv order v)
def ug (d:bd) (gp order news:List Int) (loc i:Nat):Int:=if decide (3<=i)&&jp d.fields (bj gp loc) (i - 3) then mr order news (wd gp (loc+i:Nat)) else wd gp (loc+i:Nat)
def At (d:bd) (gp order news:List Int) (loc new:Nat):Nat->List Int->List Int
 | 0,ws=>ws
 | n+1,ws=>(At d gp order news loc new n ws).set (new+n) (ug d gp order news loc n)
theorem zwd (d:bd) (gp order news:List Int) (A new:Nat):∀(n:Nat) (ws:List Int),(At d gp order news A new n ws).length=ws.length
 | 0,_=>rfl
 | n+1,ws=>by unfold At;rw [List.length_set,zwd]

def toR (gp:List Int) (lo:Int) (order:List Int):Int:=order.foldl (fun lo a=>lo+(3+wd gp (a+1))) lo
def gq (gp:List Int):Int->List Int->List Int
 | _,[]=>[]
 | lo,a::l=>lo::gq gp (lo+(3+wd gp (a+1))) l
theorem zwh (gp:List Int):∀(l:List Int) (lo:Int),(gq gp lo l).length=l.length
 | [],_=>rfl
 | b::l,lo=>by show (gq gp _ l).length+1=_;rw [zwh gp l];rfl
def vw (d:bd) (gp order news:List Int) (ws:List Int) (loc new:Int):List Int:=At d gp order news loc.toNat new.toNat (3+(bj gp loc).len).toNat ws
theorem zwi (d:bd) (gp order news ws:List Int) (A new:Int):(vw d gp order news ws A new).length=ws.length:=zwd _ _ _ _ _ _ _ _
def vb (d:bd) (gp order news:List Int) (ts:List bk) (ws:List Int):List Int:=ts.foldl (fun ws t=>vw d gp order news ws t.loc t.loc) ws
def ld (d:bd) (gp order news:List Int) (l:List (Int×Int)) (ws:List Int):List Int:=l.foldl (fun ws p=>vw d gp order news ws p.1 p.2) ws
theorem zwl (d:bd) (gp order news:List Int):∀(ts:List bk) (ws:List Int),(vb d gp order news ts ws).length=ws.length
 | [],_=>rfl
 | t::ts,ws=>by show (vb d gp order news ts _).length=_;rw [zwl d gp order news ts,zwi]
theorem zwm (d:bd) (gp order news:List Int):∀(l:List (Int×Int)) (ws:List Int),(ld d gp order news l ws).length=ws.length
 | [],_=>rfl
 | p::l,ws=>by show (ld d gp order news l _).length=_;rw [zwm d gp order news l,zwi]
def ny (d:bd) (h:ar) (stay:List bk) (order:List Int) (lo:Int):ar:=
 { h with ab:=ld d h.ab order (gq h.ab lo order) (order.zip (gq h.ab lo order)) (vb d h.ab order (gq h.ab lo order) stay (List.replicate h.ab.length 0)),bo:=1,ba:=toR h.ab lo order,am:=[] }
def zn (h:ar) (order:List Int) (lo:Int) (rs:List Int):List Int:=rs.map (mr order (gq h.ab lo order))
end Go.Proofs.YtjdnmblggdobgaaGreat
