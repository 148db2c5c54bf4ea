import Derived.Test.YtjdnmblggdobgaaGreatJHyBHzA
import Derived.Test.YtjdnmblggdobgaaGreatJHyGHyJ
set_option maxHeartbeats 2000000
set_option maxRecDepth 100000
namespace Go.Proofs.YtjdnmblggdobgaaGreat
open Go.Maps Go.RowKit Tryz List Or World
variable {M:Nat->Prop} {w:World} {ao:Option Addr} {len b:Nat} {P:Int->Bool} {o:List Int} {v:Int} {d:ax} {h:ar} {ts:List bq}
def pg (P:Int->Bool) (o:List Int) (v:Int):List Int:=if P v&& !o.contains v then o++ [v] else o
def ld (P:Int->Bool) (next:Int->List Int) (from0:List Int) (v:Int):Prop:=∀Q:Int->Prop,(∀u,u∈from0->P u=true->Q u)->(∀u x,Q u->x∈next u->P x=true->Q x)->Q v
theorem ld.root {P:Int->Bool} {next:Int->List Int} {from0:List Int} {v:Int} (h:v∈from0) (g:P v=true):ld P next from0 v:=fun _ a _=>a v h g
theorem ld.step {P:Int->Bool} {next:Int->List Int} {from0:List Int} {u v:Int} (h:ld P next from0 u) (k:v∈next u) (g:P v=true):ld P next from0 v:=fun Q a b=>b u v (h Q a b) k g
theorem ld.ind {P:Int->Bool} {next:Int->List Int} {from0:List Int} {Q:Int->Prop} {v:Int} (h:ld P next from0 v) (a:∀v,v∈from0->P v=true->Q v) (b:∀u v,ld P next from0 u->v∈next u->P v=true->Q u->Q v):Q v:=(h (fun x=>ld P next from0 x/\Q x) (fun u p q=>⟨ld.root p q,a u p q⟩) (fun u x p q r=>⟨ld.step p.1 q r,b u x p.1 q r p.2⟩)).2
def wb (P:Int->Bool) (next:Int->List Int):Nat->Nat->List Int->List Int
 | 0,_,o=>o
 | f+1,i,o=>match o[i]? with
   | none=>o
   | some a=>wb P next f (i+1) ((next a).foldl (pg P) o)
theorem zu2 (h:o.Nodup):(pg P o v).Nodup:=by
 unfold pg;split
 ·rename_i hc;rw [Bool.and_eq_true,Bool.not_eq_true']at hc;refine nodup_append.2 ⟨h,by simp,?_⟩;intro a D b A e;rw [mem_singleton]at A;subst A;subst e;rw [contains_iff_mem.2 D]at hc;cases hc.2
 exact h
theorem zu3 {x:Int}:x∈pg P o v↔x∈o\/(x=v/\P v=true):=by
 unfold pg;cases hp:P v
 ·simp
 cases hc:o.contains v
 ·simp
 have A:=contains_iff_mem.1 hc;simp only [Bool.not_true,Bool.and_false,Bool.false_eq_true,if_false,and_true];exact ⟨inl,fun h=>h.elim id fun e=>e ▸ A⟩
theorem zu4 {P:Int->Bool} :∀(l o:List Int),o.Nodup->(l.foldl (pg P) o).Nodup
 | [],_,h=>h
 | v::l,o,h=>zu4 l (pg P o v) (zu2 h)
theorem C8 {P:Int->Bool} {x:Int} :∀(l o:List Int),x∈l.foldl (pg P) o↔x∈o\/(x∈l/\P x=true)
 | [],o=>by simp
 | v::l,o=>by
   rw [foldl_cons,C8 l,zu3,mem_cons];constructor
   ·rintro ((h | ⟨rfl,h⟩) | ⟨h1,A⟩)
    ·exact inl h
    ·exact inr ⟨inl rfl,h⟩
    exact inr ⟨inr h1,A⟩
   rintro (h | ⟨rfl | h1,A⟩)
   ·exact inl (inl h)
   ·exact inl (inr ⟨rfl,A⟩)
   exact inr ⟨h1,A⟩
theorem zu6 {P:Int->Bool} :∀(l o:List Int),∃e,l.foldl (pg P) o=o++e
 | [],o=>⟨[],(append_nil _).symm⟩
 | v::l,o=>by
   obtain ⟨e,A⟩:=zu6 (P:=P) l (pg P o v);rw [foldl_cons,A];unfold pg;split
   ·exact ⟨[v]++e,append_assoc ..⟩
   exact ⟨e,rfl⟩
theorem zu7:∀(l m:List Int),l.Nodup->(∀x∈l,x∈m)->l.length<=m.length
 | [],_,_,_=>n0q _
 | x::l,m,hn,hs=>by rw [nodup_cons]at hn;have A:=hs x (mem_cons_self ..);have E:=zu7 l (m.erase x) hn.2 fun y D=>(mem_erase_of_ne (fun e=>hn.1 (by rw [<-e];exact D))).2 (hs y (mem_cons_of_mem _ D));rw [length_erase_of_mem A]at E;have:0<m.length:=length_pos_of_mem A;rw [length_cons];omega
structure zg (P:Int->Bool) (next:Int->List Int) (from0 U:List Int) (i:Nat) (o:List Int):Prop where
 nd:o.Nodup
 le:i<=o.length
 sound:∀v∈o,ld P next from0 v
 roots:∀v∈from0,P v=true->v∈o
 done:∀j a,j<i->o[j]? =some a->∀v∈next a,P v=true->v∈o
theorem zu8 {next:Int->List Int} {A U:List Int}:zg P next A U 0 (A.foldl (pg P) []):=
 ⟨zu4 _ _ nodup_nil,n0q _,fun v D=>by
  rcases (C8 _ _).1 D with h | h
  ·cases h
  exact ld.root h.1 h.2,fun v D E=>(C8 _ _).2 (inr ⟨D,E⟩),fun j a F=>by omega⟩
theorem zg.next {next:Int->List Int} {A U:List Int} {i:Nat} {o:List Int} (b:zg P next A U i o) {a:Int} (G:o[i]? =some a):zg P next A U (i+1) ((next a).foldl (pg P) o):=by
 have hi:i<o.length:=(List.getElem?_eq_some_iff.1 G).1;obtain ⟨e,J⟩:=zu6 (P:=P) (next a) o;have D:∀j,j<=i->((next a).foldl (pg P) o)[j]? =o[j]? :=fun j L=>by rw [J,getElem?_append_left (by omega)]
 refine ⟨zu4 _ _ b.nd,by rw [J,length_append];omega,fun v E=>?_,fun v E F=>(C8 _ _).2 (inl (b.roots v E F)),fun j c L hc v E F=>?_⟩
 ·rcases (C8 _ _).1 E with h | h
  ·exact b.sound v h
  exact ld.step (b.sound a (mem_of_getElem? G)) h.1 h.2
 rw [D j (by omega)]at hc;by_cases I:j<i
 ·exact (C8 _ _).2 (inl (b.done j c I hc v E F))
 have:j=i:=by omega
 subst this;rw [G]at hc;have:=ojq hc;subst this;exact (C8 _ _).2 (inr ⟨E,F⟩)
theorem zg.all {next:Int->List Int} {A U:List Int} {o:List Int} (b:zg P next A U o.length o) (v:Int):v∈o↔ld P next A v:=by
 refine ⟨b.sound v,fun h=>?_⟩;apply ld.ind h
 ·intro _ h1 h2
  exact b.roots _ h1 h2
 intro _ _ _ h1 h2 ih
 obtain ⟨j,D,e⟩:=getElem_of_mem ih;exact b.done j _ D (by rw [getElem?_eq_getElem D,e]) _ h1 h2
theorem zu9 {P:Int->Bool} {next:Int->List Int} {A U:List Int} (D:∀v,ld P next A v->v∈U):∀(f i:Nat) (o:List Int),U.length<i+f->zg P next A U i o->zg P next A U (wb P next f i o).length (wb P next f i o)
 | 0,i,o,hf,b=>by have:=zu7 o U b.nd fun x E=>D x (b.sound x E);have:=b.le;omega
 | f+1,i,o,hf,b=>by
   rw [wb];cases ha:o[i]? with
   | none=>
     have:o.length<=i:=List.getElem?_eq_none_iff.1 ha;have e:i=o.length:=by have:=b.le;omega
     rw [e]at b;exact b
   | some a=>exact zu9 D f (i+1) _ (by omega) (b.next ha)
theorem zva {f:Int->Int} {l m:List Int} (D:l.Nodup) (E:m.Nodup) (h:∀x,x∈l↔x∈m) (h0:∀x∈l,0<=f x):(l.map f).sum=(m.map f).sum:=
 Int.le_antisymm (zuq l m D (fun x A=>(h x).1 A) fun x A=>h0 x ((h x).2 A)) (zuq m l E (fun x A=>(h x).2 A) h0)
def ev (fs:List (List bv)) (ws:List Int) (a:Int):List Int:=(refsOf fs (bp ws a)).map (wd ws)
def nz (v:Int):Bool:=v != 0
def de (d:ax) (h:ar) (rs:List Int):List Int:=wb nz (ev d.fields h.ab) (h.ab.length+1) 0 (rs.foldl (pg nz) [])
def ic (d:ax) (h:ar) (rs:List Int):Int:=((de d h rs).map fun a=>3+wd h.ab (a+1)).sum
theorem se (r:Right d h ts) {t:bq} (A:t∈ts):t=bp h.ab t.loc:=by
 by_cases D:t.loc<=h.ae
 ·exact (ze r A D).eq
 exact (Bw r A (by omega)).2.2.1
theorem zvb (r:Right d h ts) {rs:List Int} (F:∀v∈rs,cq ts v=true) {v:Int} (G:ld nz (ev d.fields h.ab) rs v):∃t∈ts,t.loc=v:=by
 have A:∀ {v:Int},nz v=true->v≠0:=fun {v} h e=>by subst e;cases h
 apply ld.ind G
 ·intro _ h1 h2
  exact Fy (F _ h1) (A h2)
 intro _ _ _ h1 h2 ih
 obtain ⟨t,E,rfl⟩:=ih;unfold ev at h1;obtain ⟨a,D,rfl⟩:=mem_map.1 h1;rw [<-se r E]at D;exact Fy (zuw r E D) (A h2)
theorem zvc (r:Right d h ts):(ts.map bq.loc).length<h.ab.length:=by
 rw [length_map];obtain ⟨I,G,E,F,rfl⟩:=Ab r.both;have z:=r.sized;have X:=z.ae;have Y:=z.old;have Z:=z.len;have z4:=z.bk;have z5:=z.be;have A:∀(l:List bq),(∀t∈l,0<=t.len)->(l.length:Int)<=(l.map fun t=>3+t.len).sum:=by
  intro l;induction l with
  | nil=>intro _;exact Int.le_refl _
  | cons q l ih=>
    intro h;have h1:=ih fun p J=>h p (mem_cons_of_mem _ J);have O:=h q (mem_cons_self ..);rw [map_cons,sum_cons,length_cons];omega
 have V:=zur _ 1 I (nlq _) (by omega) E;have W:=zur _ (h.ae+1) G (nlq _) (by omega) F;have L:=A I fun t D=>yb (td E t D).2.2.2.2;have N:=A G fun t D=>yb (td F t D).2.2.2.2;rw [length_append];omega
theorem zvd (r:Right d h ts) {rs:List Int} (D:∀v∈rs,cq ts v=true):(de d h rs).Nodup/\∀v,v∈de d h rs↔ld nz (ev d.fields h.ab) rs v:=by
 have A:∀v,ld nz (ev d.fields h.ab) rs v->v∈ts.map bq.loc:=fun v F=>by obtain ⟨t,E,e⟩:=zvb r D F;exact mem_map.2 ⟨t,E,e⟩
 have b:=zu9 A (h.ab.length+1) 0 _ (by have:=zvc r;omega) zu8;exact ⟨b.nd,b.all⟩
theorem zve (r:Right d h ts) {rs:List Int} (E:∀v∈rs,cq ts v=true) {l:List Int} (F:l.Nodup) (D:∀v,v∈l↔ld nz (ev d.fields h.ab) rs v):(l.map fun a=>3+wd h.ab (a+1)).sum=ic d h rs:=by
 obtain ⟨J,L⟩:=zvd r E;refine zva F J (fun x=>(D x).trans (L x).symm) fun x G=>?_;obtain ⟨t,A,rfl⟩:=zvb r E ((D x).1 G);have e:t.len=wd h.ab (t.loc+1):=congrArg bq.len (se r A);have:0<=t.len:=by
  by_cases I:t.loc<=h.ae
  ·exact (ze r A I).fit.lo
  exact (Bw r A (by omega)).2.2.2.1.lo
 omega
structure Bd (b:Nat) (w:World) (P:Nat) (vo:Value) (o:List Int):Prop where
 blk:w.heap[P]? =some (.cells #[vo] 22 (0,0))
 row:w.ownsRow b 3 1 vo o.length (b8 o)
 bP:b<=P
 ne:vo.ownBlock≠some P
theorem Bd.below {P:Nat} {w w':World} {D:Value} {o:List Int} (x:Bd b w P D o) (A:Bl w w'):Bd b w' P D o:=⟨(A.block _ (bz x.blk)).trans x.blk,km x.row A,x.bP,x.ne⟩
theorem Bd.bel {P L:Nat} {w w':World} {D A:Value} {o:List Int} (x:Bd b w P D o) (m:mq L P P P (.nl) D w A w') (F:b<=L):Below b w w':=
 ⟨m.os,m.tape,m.output,m.size,fun j E=>m.block j (by omega) (by have:=bz x.blk;have:=x.bP;omega) (by have:=x.bP;omega) (by have:=x.bP;omega) (by have:=x.bP;omega) (fun e=>by cases e) (fun e=>by have:=(x.row.lt j e).1;omega)⟩
theorem Bd.more {P:Nat} {w I w':World} {G:Value} {o:List Int} {v:Int} {D J:Nat} (x:Bd b w P G o) (E:w.grownBy I G.ownBlock) (W:I.ownsRow b 3 1 (.slice (some ⟨D,0,none⟩) (o.length+1) J) (o.length+1) (b8 o++ [.i v])) (N:G.ownBlock=some D\/w.heap.size<=D) (O:w'=I.setCell ⟨P,0,none⟩ (.slice (some ⟨D,0,none⟩) (o.length+1) J)):
 Bd b w' P (.slice (some ⟨D,0,none⟩) (o.length+1) J) (o++ [v])/\∀L,L<=w.heap.size->mq L P P P (.nl) G w (.slice (some ⟨D,0,none⟩) (o.length+1) J) w':=by
 have Z:=bz x.blk;have Y:I.heap[P]? =some (.cells #[G] 22 (0,0)):=(E.block P Z (fun e=>x.ne e.symm)).trans x.blk;have A:I.grownBy w' (some P):=O ▸ pi (grownBy.refl _ _) _ _ (inl rfl);have X:=E.size;have F:D≠P:=fun e=>by
  rcases N with q | q
  ·exact x.ne (by rw [q,e])
  omega
 refine ⟨⟨O ▸ s9 Y _,?_,x.bP,fun e=>F (ojq e)⟩,fun L hL=>⟨A.os.trans E.os,A.tape.trans E.tape,A.output.trans E.output,lt3 E.size A.size,fun j _ V a _ _ _ f=>(A.block j (by omega) (fun e=>a (ojq e))).trans (E.block j V (fun e=>f e.symm)),fun j e=>by
  have e:D=j:=ojq e;rcases N with q | q
  ·exact inl (by rw [q,e])
  exact inr (by omega)⟩⟩
 rw [length_append,Eu];exact ownsRow.kept W A (inr fun e=>F (ojq e))
theorem zvu {α β:Type} (f:β->α->β) (l:List α) (b:β) (k:Nat) (A:k<l.length):(l.take (k+1)).foldl f b=f ((l.take k).foldl f b) l[k]:=by rw [take_succ_eq_append_getElem A,foldl_append];rfl
theorem atIm {cap:Nat} {l:List Int} (h:SL 1 RI M w (.slice ao len cap) l) (k:Nat) (D:k<l.length):
 ∃b off,ao=some ⟨b,off,none⟩/\M b/\b<w.heap.size/\w.cell? ⟨b,off+k,none⟩=some (.i l[k]):=by
 obtain ⟨b,off,F,e,E,A,_,hc,rfl⟩:=h.at k D;exact ⟨b,off,e,E,A,by have:=hc 0 (by decide);simpa using this⟩
def yg (h:ar) (v:Int):Bool:=rh v 1 h.ae
theorem zvy (h:ar) (v:Int):yg h v=dw h v:=by unfold yg rh dw;congr 1
def mh (l:List Int) (n:Int):Int:=idx (fun x=>decide (x=n)) l
theorem zv0 (w:World) (M:Nat->Prop) (v:Value) (l:List Int) (J:SL 1 RI M w v l) (n:Int):
 Calls prog 47 #[v,.i n] w fun r w'=>r=.returned (.i (mh l n))/\w'=w:=by
 have L:=aj J;obtain ⟨N,cl,rfl,-,G,-⟩:=J;unfold maxLen at G;go_enter func47,ntmps47;go_wp2_with fail;go_loopw [5] (fun i wr=>∃k:Nat,k<=l.length/\i=.i k/\wr=w/\Hid (∀x∈l.take k,decide (x=n)=false)) (fun i _=>l.length - (intOf i).toNat)
 case atStart=>exact ⟨0,n0q _,rfl,rfl,fun x V=>by cases V⟩
 case round=>
  obtain ⟨k,Y,rfl,rfl,F⟩:=hrel;by_cases A:k<l.length
  ·obtain ⟨W,off,rfl,O,X⟩:=L.o.atI k A;by_cases E:l[k]=n
   ·have D:=aj (Fo A F.o (decide_eq_true E));have I:(l[k]==n)=true:=by simpa using E
    go_wp2_with fail;go_ret;exact ⟨by unfold mh;rw [D.o];rfl,rfl⟩
   have D:=aj (zck A F.o (decide_eq_false E));have I:(l[k]==n)=false:=by simpa using E
   go_wp2_with fail;go_roundw
   case rel=>exact ⟨k+1,by omega,by go_num,by trivial,D.o⟩
   case measure=>simp [intOf];omega
  have D:Hid (mh l n= -1):=zci (by have:=F.o;rwa [take_of_length_le (by omega)]at this);go_wp2_with fail;go_ret;exact ⟨by rw [D.o];rfl,rfl⟩
def nj (order news:List Int) (v:Int):Int:=if v=0\/mh order v<0 then v else wd news (mh order v)
def ve (d:ax) (gw order news:List Int) (loc i:Nat):Int:=if decide (3<=i)&&jw d.fields (bp gw loc) (i - 3) then nj order news (wd gw (loc+i:Nat)) else wd gw (loc+i:Nat)
def Br (d:ax) (gw order news:List Int) (loc new:Nat):Nat->List Int->List Int
 | 0,ws=>ws
 | n+1,ws=>(Br d gw order news loc new n ws).set (new+n) (ve d gw order news loc n)
theorem zv3 (d:ax) (gw order news:List Int) (A new:Nat):∀(n:Nat) (ws:List Int),(Br d gw order news A new n ws).length=ws.length
 | 0,_=>rfl
 | n+1,ws=>by unfold Br;rw [length_set,zv3]
def toR (gw:List Int) (lo:Int) (order:List Int):Int:=order.foldl (fun lo a=>lo+(3+wd gw (a+1))) lo
def ia (gw:List Int):Int->List Int->List Int
 | _,[]=>[]
 | lo,a::l=>lo::ia gw (lo+(3+wd gw (a+1))) l
theorem zv7 (gw:List Int):∀(l:List Int) (lo:Int),(ia gw lo l).length=l.length
 | [],_=>rfl
 | b::l,lo=>by show (ia gw _ l).length+1=_;rw [zv7 gw l];rfl
def xp (d:ax) (gw order news:List Int) (ws:List Int) (loc new:Int):List Int:=Br d gw order news loc.toNat new.toNat (3+(bp gw loc).len).toNat ws
theorem zv8 (d:ax) (gw order news ws:List Int) (A new:Int):(xp d gw order news ws A new).length=ws.length:=zv3 _ _ _ _ _ _ _ _
def xf (d:ax) (gw order news:List Int) (ts:List bq) (ws:List Int):List Int:=ts.foldl (fun ws t=>xp d gw order news ws t.loc t.loc) ws
def me (d:ax) (gw order news:List Int) (l:List (Int×Int)) (ws:List Int):List Int:=l.foldl (fun ws p=>xp d gw order news ws p.1 p.2) ws
theorem zwb (d:ax) (gw order news:List Int):∀(ts:List bq) (ws:List Int),(xf d gw order news ts ws).length=ws.length
 | [],_=>rfl
 | t::ts,ws=>by show (xf d gw order news ts _).length=_;rw [zwb d gw order news ts,zv8]
theorem zwc (d:ax) (gw order news:List Int):∀(l:List (Int×Int)) (ws:List Int),(me d gw order news l ws).length=ws.length
 | [],_=>rfl
 | p::l,ws=>by show (me d gw order news l _).length=_;rw [zwc d gw order news l,zv8]
def pc (d:ax) (h:ar) (stay:List bq) (order:List Int) (lo:Int):ar:=
 { h with ab:=me d h.ab order (ia h.ab lo order) (order.zip (ia h.ab lo order)) (xf d h.ab order (ia h.ab lo order) stay (replicate h.ab.length 0)),bk:=1,be:=toR h.ab lo order,ap:=[] }
def Ar (h:ar) (order:List Int) (lo:Int) (rs:List Int):List Int:=rs.map (nj order (ia h.ab lo order))
end Go.Proofs.YtjdnmblggdobgaaGreat
