import Derived.Test.YtjdnmblggdobgaaGreatJLErrLRf4
import Derived.Deep.RegionHeld3
set_option maxHeartbeats 1000000
namespace Go.Proofs.YtjdnmblggdobgaaGreat
open Go.RowKit Go.Maps Tryz
structure Gd (B:Nat) (w:World) (c:Nat) (vW vO kC kS kF kN kT:Value) (h:ar) (d:bd):Prop where
 lt:c<w.heap.size
 le:B<=w.heap.size
 c0:w.cell? ⟨c,0,none⟩=some vW
 c1:w.cell? ⟨c,1,none⟩=some (.i h.ae)
 c2:w.cell? ⟨c,2,none⟩=some (.i h.old)
 c3:w.cell? ⟨c,3,none⟩=some (.i h.bo)
 c4:w.cell? ⟨c,4,none⟩=some (.i h.ba)
 c5:w.cell? ⟨c,5,none⟩=some vO
 c6:w.cell? ⟨c,6,none⟩=some (.i h.next)
 c7:w.cell? ⟨c,7,none⟩=some kC
 c8:w.cell? ⟨c,8,none⟩=some kS
 c9:w.cell? ⟨c,9,none⟩=some kF
 c10:w.cell? ⟨c,10,none⟩=some kN
 c11:w.cell? ⟨c,11,none⟩=some kT
 sW:SL 1 RI (· <B) w vW h.ab
 sO:SL 1 RI (· <B) w vO h.am
 lk:mt (· <B) w kC kS kF kN kT d
theorem Gd.below {B:Nat} {w w':World} {c:Nat} {O N F J G I L:Value} {h:ar} {d:bd} (g:Gd B w c O N F J G I L h d) (D:Bl w w'):Gd B w' c O N F J G I L h d:=
 have A:∀j v,w.cell? ⟨c,j,none⟩=some v->w'.cell? ⟨c,j,none⟩=some v:=fun j _ e=>(D.cell (p:=⟨c,j,none⟩) g.lt).trans e;have E:=Kp.below (D.mono g.le)
 ⟨ll3 g.lt D.size,lt3 g.le D.size,A _ _ g.c0,A _ _ g.c1,A _ _ g.c2,A _ _ g.c3,A _ _ g.c4,A _ _ g.c5,A _ _ g.c6,A _ _ g.c7,A _ _ g.c8,A _ _ g.c9,A _ _ g.c10,A _ _ g.c11,g.sW.keptI E,g.sO.keptI E,g.lk.kept E⟩
def jb (n:Int):Bool:=decide (3<=n)&&decide (n<=2000)
theorem zew (w:World) (n:Int):Calls prog 48 #[.i n] w fun r w'=>r=.returned (.bool (jb n))/\w'=w:=by
 by_cases h1:3<=n
 ·by_cases D:n<=2000
  ·have A:Hid (jb n=true):=by show jb n=true;simp [jb,h1,D]
   go_enter func48,ntmps48;go_wp2_with fail;go_ret;exact ⟨by rw [A.o];rfl,rfl⟩
  have A:Hid (jb n=false):=by show jb n=false;simp [jb,D]
  go_enter func48,ntmps48;go_wp2_with fail;go_ret;exact ⟨by rw [A.o];rfl,rfl⟩
 have A:Hid (jb n=false):=by show jb n=false;simp [jb,h1]
 go_enter func48,ntmps48;go_wp2_with fail;go_ret;exact ⟨by rw [A.o];rfl,rfl⟩
theorem zex (w:World) (B c:Nat) (V O G L I J N:Value) (h:ar) (d:bd) (g:Gd B w c V O G L I J N h d) (A:Int) (hn:d.aj.length<=1000):
 Calls prog 98 #[.p c,.i A] w fun r w'=>r=.returned (.bool (dq d.aj.length A))/\w'=w:=by
 have Z:=g.lt;have X:=g.c7;obtain ⟨W,Y,rfl,-,F,-⟩:=g.lk.C;unfold maxLen at F;clear g;by_cases h1:1<=A
 ·by_cases E:A<3+d.aj.length
  ·have D:Hid (dq d.aj.length A=true):=by show dq _ _=true;simp [dq,h1,E]
   go_enter func98,ntmps98;go_wp2_with fail;go_ret;exact ⟨by rw [D.o];rfl,rfl⟩
  have D:Hid (dq d.aj.length A=false):=by show dq _ _=false;simp [dq,E]
  go_enter func98,ntmps98;go_wp2_with fail;go_ret;exact ⟨by rw [D.o];rfl,rfl⟩
 have D:Hid (dq d.aj.length A=false):=by show dq _ _=false;simp [dq,h1]
 go_enter func98,ntmps98;go_wp2_with fail;go_ret;exact ⟨by rw [D.o];rfl,rfl⟩
theorem zey (w:World) (B c:Nat) (vW vO Z kS kF kN kT:Value) (h:ar) (d:bd) (g:Gd B w c vW vO Z kS kF kN kT h d) (A len:Int) (ht:A<3+d.fields.length):
 Calls prog 99 #[.p c,.i A,.i len] w fun r w'=>r=.returned (.bool (cg d.fields A len))/\w'=w:=by
 have hl:=g.lt;have c9:=g.c9;have N:=ag g.lk.F;obtain ⟨aF,cF,rfl,-,X,-⟩:=g.lk.F;unfold maxLen at X;clear g;by_cases h1:3<=A
 ·obtain ⟨k,W⟩:∃k:Nat,A=3+k:=⟨(A - 3).toNat,by omega⟩;subst W;have J:k<d.fields.length:=by omega
  obtain ⟨bF,oF,aV,cV,rfl,V,e1,O⟩:=N.o.atSl k J;have I:gz d.fields (3+k)=d.fields[k]:=by unfold gz;rw [show ((3+(k:Int)) - 3).toNat=k by omega];simp [J]
  have G:Hid (cg d.fields (3+k) len=decide (len=d.fields[k].length)):=by show cg _ _ _=_;rw [cg,if_pos h1,I]
  have q1:(0:Int)<=k:=by omega
  have q2:(k:Int)<d.fields.length:=by omega
  have q3:3+(k:Int) - 3=k:=by omega
  have Y:d.fields[k].length<=9223372036854775807:=by obtain ⟨_,_,-,-,h,-⟩:=O;unfold maxLen at h;omega
  clear O I N;generalize d.fields[k].length=fl at*;by_cases E:len=fl
  ·have L:(len==(fl:Int))=true:=beq_iff_eq.2 E;have D:Hid (cg d.fields (3+k) len=true):=G.o.trans (decide_eq_true E);go_enter func99,ntmps99;go_wp2_with fail;go_ret;exact ⟨by rw [D.o];simp,rfl⟩
  have L:(len==(fl:Int))=false:=beq_eq_false_iff_ne.2 E;have D:Hid (cg d.fields (3+k) len=false):=G.o.trans (decide_eq_false E);go_enter func99,ntmps99;go_wp2_with fail;go_ret;exact ⟨by rw [D.o];simp,rfl⟩
 have G:Hid (cg d.fields A len=(decide (0<=len)&&decide (len<=500))):=by show cg _ _ _=_;rw [cg,if_neg h1]
 by_cases E:0<=len
 ·by_cases L:len<=500
  ·have D:Hid (cg d.fields A len=true):=G.o.trans (by simp [E,L]);go_enter func99,ntmps99;go_wp2_with fail;go_ret;exact ⟨by rw [D.o];rfl,rfl⟩
  have D:Hid (cg d.fields A len=false):=G.o.trans (by simp [L]);go_enter func99,ntmps99;go_wp2_with fail;go_ret;exact ⟨by rw [D.o];rfl,rfl⟩
 have D:Hid (cg d.fields A len=false):=G.o.trans (by simp [E]);go_enter func99,ntmps99;go_wp2_with fail;go_ret;exact ⟨by rw [D.o];rfl,rfl⟩
theorem zez (w:World) (B c:Nat) (L J D G E F I:Value) (h:ar) (d:bd) (g:Gd B w c L J D G E F I h d) (A:Int):
 Calls prog 177 #[.p c,.i A] w fun r w'=>r=.returned (.bool (decide (h.ae<A)))/\w'=w:=by
 have O:=g.lt;have N:=g.c1;clear g;go_enter func177,ntmps177;go_wp2_with fail;go_ret;exact ⟨rfl,rfl⟩
def dm (h:ar) (loc:Int):Bool:=decide (0<loc)&&decide (loc<=h.ae)
theorem ze0 (w:World) (B c:Nat) (N L E I F G J:Value) (h:ar) (d:bd) (g:Gd B w c N L E I F G J h d) (A:Int):
 Calls prog 153 #[.p c,.i A] w fun r w'=>r=.returned (.bool (dm h A))/\w'=w:=by
 have V:=g.lt;have O:=g.c1;clear g;by_cases h1:0<A
 ·have D:Hid (dm h A=decide (A<=h.ae)):=by show dm h A=_;simp [dm,h1]
  go_enter func153,ntmps153;go_wp2_with fail;go_ret;exact ⟨by rw [D.o];rfl,rfl⟩
 have D:Hid (dm h A=false):=by show dm h A=_;simp [dm,h1]
 go_enter func153,ntmps153;go_wp2_with fail;go_ret;exact ⟨by rw [D.o];rfl,rfl⟩
def nb (t:bk):Value:=.agg #[.i t.loc,.i t.tag,.i t.len,.i t.hash]
def small (n:Int):Prop:=-1000000000<=n/\n<=1000000000
theorem ze1 (w:World) (t:bk) (n:Int) (h1:small t.loc) (A:small n):
 Calls prog 68 #[nb t,.i n] w fun r w'=>r=.returned (.i (t.loc+3+n))/\Bl w w':=by
 unfold small at h1 A;obtain ⟨h1,D⟩:=h1;obtain ⟨A,E⟩:=A;unfold nb;go_enter func68,ntmps68;go_wp2_with fail;go_ret;exact ⟨rfl,(br _ _).alloc (nlq _) _⟩
theorem Ei (w:World) (t:bk) (h1:small t.loc) (G:small t.len):
 Calls prog 72 #[nb t] w fun r w'=>r=.returned (.i t.fin)/\Bl w w':=by
 have A:=ag (fun W=>ze1 W t t.len h1 G);have F:Hid (t.fin=t.loc+3+t.len):=rfl;unfold nb at*;go_enter func72,ntmps72;go_wp2_with fail;refine (A.o _).mono ?_;rintro r I ⟨rfl,D⟩;have E:=ag (((br w.heap.size w).alloc (nlq _) (.cells #[.i t.loc,.i t.tag,.i t.len,.i t.hash] 101)).trans (D.mono (by simp)));clear D A;go_wp2_with fail;go_ret;exact ⟨by rw [F.o];rfl,E.o⟩
def li (t:bk):DataW Unit:=.agg [.lit (.i t.loc),.lit (.i t.tag),.lit (.i t.len),.lit (.i t.hash)]
def xq (l:List Value):Option (DataW Unit×List MemPlace):=match l with
 | [.i a,.i b,.i c,.i e]=>some (li ⟨a,b,c,e⟩,[])
 | _=>none
def ko (v:Value):Option (DataW Unit×List MemPlace):=match v with
 | .agg cs=>xq cs.toList
 | _=>none
theorem zfd (t:bk):ko (nb t)=some (li t,[]):=rfl
theorem zfe {s t:bk} (h:li s=li t):s=t:=by cases s;cases t;simpa [li]using h
theorem zff {v:Value} {t:bk} {A:List MemPlace} (h:ko v=some (li t,A)):v=nb t:=by
 unfold ko at h;split at h
 ·rename_i cs;unfold xq at h;split at h
  ·rename_i hl;have h1:=congrArg Prod.fst (ojq h);rw [<-zfe h1];exact congrArg Value.agg (Array.toList_inj.1 hl)
  cases h
 cases h
theorem qc:Keyed prog 3:=int_keyed underlying3
theorem Ca (w:World):(zeroValue 101).run prog w=.ok (nb ⟨0,0,0,0⟩) w:=by kernel_rfl
def jm (n:Int):Lit:=.i n
theorem uv (n:Int):WideAt.IsKeyLit (jm n):=trivial
theorem Fi {m n:Int} (h:m≠n):jm m≠jm n:=fun e=>h (by injection e)
def j9 (ts:List bk) (n:Int):Option bk:=ts.foldl (fun acc t=>if t.loc=n then some t else acc) none
theorem zfh (ts:List bk) (t:bk) (n:Int):j9 (ts++ [t]) n=if t.loc=n then some t else j9 ts n:=by unfold j9;rw [List.foldl_append];rfl
structure PlD (ts:List bk) (D:DataW Unit):Prop where
 has:∀n,Maps.has D (jm n)=(j9 ts n).isSome
 at_:∀n t z,j9 ts n=some t->D.atKey (jm n) z=li t
 no:∀n z,j9 ts n=none->D.atKey (jm n) z=z
theorem zfi:PlD [] (.map []):=⟨fun _=>rfl,(fun n t z h=>by cases h),fun n z _=>rfl⟩
theorem zfj {ts:List bk} {D:DataW Unit} (h:PlD ts D) (F:Tidy D) (t:bk):PlD (ts++ [t]) (D.put (jm t.loc) (li t)):=by
 have E:=F.isMap;refine ⟨fun n=>?_,fun n s z A=>?_,fun n z A=>?_⟩
 ·rw [zfh];by_cases e:t.loc=n
  ·subst e;rw [has_put_same E (uv _),if_pos rfl];rfl
  rw [has_put_other (Fi (Ne.symm e)),if_neg e,h.has]
 ·rw [zfh]at A;by_cases e:t.loc=n
  ·subst e;rw [if_pos rfl]at A;rw [atKey_put_same E (uv _),ojq A]
  rw [if_neg e]at A;rw [atKey_put_other (Fi (Ne.symm e)),h.at_ n s z A]
 rw [zfh]at A;by_cases e:t.loc=n
 ·rw [if_pos e]at A;cases A
 rw [if_neg e]at A;rw [atKey_put_other (Fi (Ne.symm e)),h.no n z A]
def jt (w:World) (b:Nat) (ts:List bk):Prop:=∃D:DataW Unit,w.ownsMap prog 3 ko b ts.length D/\PlD ts D
theorem jt.lt {w:World} {b:Nat} {ts:List bk} (h:jt w b ts):b<w.heap.size:=by obtain ⟨D,h,_⟩:=h;exact h.lt
theorem jt.kept {w w':World} {b:Nat} {ts:List bk} (h:jt w b ts) {row:Option Nat} (F:w.grownBy w' row) (A:some b≠row):jt w' b ts:=by obtain ⟨D,h,E⟩:=h;exact ⟨D,h.kept F A,E⟩
theorem jt.below {B:Nat} {w w':World} {b:Nat} {ts:List bk} (h:jt w b ts) (G:Below B w w') (F:b<B):jt w' b ts:=by obtain ⟨D,⟨E,A,e,h⟩,I⟩:=h;exact ⟨D,⟨E,A,(G.block b F).trans e,h⟩,I⟩
end Go.Proofs.YtjdnmblggdobgaaGreat
