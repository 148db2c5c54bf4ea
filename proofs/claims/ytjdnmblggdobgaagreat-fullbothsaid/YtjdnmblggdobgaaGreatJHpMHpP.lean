import Derived.Test.YtjdnmblggdobgaaGreatJLErrLRf4
import Derived.Deep.RegionHeld3
set_option maxHeartbeats 1000000
namespace Go.Proofs.YtjdnmblggdobgaaGreat
open Go.Maps Go.RowKit Tryz List
variable (w:World) (B c:Nat) (V O G L I J N:Value) (ts:List bq) (t:bq) (n:Int) (vW vO Z kS kF kN kT:Value) (h:ar) (d:ax)
structure Gd (B:Nat) (w:World) (c:Nat) (vW vO kC kS kF kN kT:Value) (h:ar) (d:ax):Prop where
 lt:c<w.heap.size
 le:B<=w.heap.size
 c0:w.cell? ⟨c,0,none⟩=some vW
 c1:w.cell? ⟨c,1,none⟩=some (.i h.ae)
 c2:w.cell? ⟨c,2,none⟩=some (.i h.old)
 c3:w.cell? ⟨c,3,none⟩=some (.i h.bk)
 c4:w.cell? ⟨c,4,none⟩=some (.i h.be)
 c5:w.cell? ⟨c,5,none⟩=some vO
 c6:w.cell? ⟨c,6,none⟩=some (.i h.next)
 c7:w.cell? ⟨c,7,none⟩=some kC
 c8:w.cell? ⟨c,8,none⟩=some kS
 c9:w.cell? ⟨c,9,none⟩=some kF
 c10:w.cell? ⟨c,10,none⟩=some kN
 c11:w.cell? ⟨c,11,none⟩=some kT
 sW:SL 1 RI (· <B) w vW h.ab
 sO:SL 1 RI (· <B) w vO h.ap
 lk:nh (· <B) w kC kS kF kN kT d
theorem Gd.below {B:Nat} {w w':World} {c:Nat} {O N F J G I L:Value} {h:ar} {d:ax} (g:Gd B w c O N F J G I L h d) (D:Bl w w'):Gd B w' c O N F J G I L h d:=
 have A:∀j v,w.cell? ⟨c,j,none⟩=some v->w'.cell? ⟨c,j,none⟩=some v:=fun j _ e=>(D.cell (p:=⟨c,j,none⟩) g.lt).trans e;have E:=Kp.below (D.mono g.le)
 ⟨ll3 g.lt D.size,lt3 g.le D.size,A _ _ g.c0,A _ _ g.c1,A _ _ g.c2,A _ _ g.c3,A _ _ g.c4,A _ _ g.c5,A _ _ g.c6,A _ _ g.c7,A _ _ g.c8,A _ _ g.c9,A _ _ g.c10,A _ _ g.c11,g.sW.keptI E,g.sO.keptI E,g.lk.kept E⟩
def jd (n:Int):Bool:=decide (3<=n)&&decide (n<=2000)
theorem zen:Calls prog 48 #[.i n] w fun r w'=>r=.returned (.bool (jd n))/\w'=w:=by
 by_cases h1:3<=n
 ·by_cases D:n<=2000
  ·have A:Hid (jd n=true):=by show jd n=true;simp [jd,h1,D]
   go_enter func48,ntmps48
   go_wp21
   go_ret;exact ⟨by rw [A.o];rfl,rfl⟩
  have A:Hid (jd n=false):=by show jd n=false;simp [jd,D]
  go_enter func48,ntmps48
  go_wp21
  go_ret;exact ⟨by rw [A.o];rfl,rfl⟩
 have A:Hid (jd n=false):=by show jd n=false;simp [jd,h1]
 go_enter func48,ntmps48
 go_wp21
 go_ret;exact ⟨by rw [A.o];rfl,rfl⟩
theorem zeo (g:Gd B w c V O G L I J N h d) (A:Int) (hn:d.am.length<=1000):
 Calls prog 98 #[.p c,.i A] w fun r w'=>r=.returned (.bool (dx d.am.length A))/\w'=w:=by
 have Z:=g.lt;have X:=g.c7;obtain ⟨W,Y,rfl,-,F,-⟩:=g.lk.C;unfold maxLen at F;clear g;by_cases h1:1<=A
 ·by_cases E:A<3+d.am.length
  ·have D:Hid (dx d.am.length A=true):=by show dx _ _=true;simp [dx,h1,E]
   go_enter func98,ntmps98
   go_wp21
   go_ret;exact ⟨by rw [D.o];rfl,rfl⟩
  have D:Hid (dx d.am.length A=false):=by show dx _ _=false;simp [dx,E]
  go_enter func98,ntmps98
  go_wp21
  go_ret;exact ⟨by rw [D.o];rfl,rfl⟩
 have D:Hid (dx d.am.length A=false):=by show dx _ _=false;simp [dx,h1]
 go_enter func98,ntmps98
 go_wp21
 go_ret;exact ⟨by rw [D.o];rfl,rfl⟩
theorem zep (g:Gd B w c vW vO Z kS kF kN kT h d) (A len:Int) (ht:A<3+d.fields.length):
 Calls prog 99 #[.p c,.i A,.i len] w fun r w'=>r=.returned (.bool (da d.fields A len))/\w'=w:=by
 have hl:=g.lt;have c9:=g.c9;have N:=aj g.lk.F;obtain ⟨aF,cF,rfl,-,X,-⟩:=g.lk.F;unfold maxLen at X;clear g;by_cases h1:3<=A
 ·obtain ⟨k,W⟩:∃k:Nat,A=3+k:=⟨(A - 3).toNat,by omega⟩;subst W;have J:k<d.fields.length:=by omega
  obtain ⟨bF,oF,aV,cV,rfl,V,e1,O⟩:=N.o.atSl k J;have I:iu d.fields (3+k)=d.fields[k]:=by unfold iu;rw [show ((3+(k:Int)) - 3).toNat=k by omega];simp [J]
  have G:Hid (da d.fields (3+k) len=decide (len=d.fields[k].length)):=by show da _ _ _=_;rw [da,if_pos h1,I]
  have q1:(0:Int)<=k:=by omega
  have q2:(k:Int)<d.fields.length:=by omega
  have q3:3+(k:Int) - 3=k:=by omega
  have Y:d.fields[k].length<=9223372036854775807:=by obtain ⟨_,_,-,-,h,-⟩:=O;unfold maxLen at h;omega
  clear O I N;generalize d.fields[k].length=fl at*;by_cases E:len=fl
  ·have L:(len==(fl:Int))=true:=beq_iff_eq.2 E;have D:Hid (da d.fields (3+k) len=true):=G.o.trans (decide_eq_true E);go_enter func99,ntmps99
   go_wp21
   go_ret;exact ⟨by rw [D.o];simp,rfl⟩
  have L:(len==(fl:Int))=false:=beq_eq_false_iff_ne.2 E;have D:Hid (da d.fields (3+k) len=false):=G.o.trans (decide_eq_false E);go_enter func99,ntmps99
  go_wp21
  go_ret;exact ⟨by rw [D.o];simp,rfl⟩
 have G:Hid (da d.fields A len=(decide (0<=len)&&decide (len<=500))):=by show da _ _ _=_;rw [da,if_neg h1]
 by_cases E:0<=len
 ·by_cases L:len<=500
  ·have D:Hid (da d.fields A len=true):=G.o.trans (by simp [E,L]);go_enter func99,ntmps99
   go_wp21
   go_ret;exact ⟨by rw [D.o];rfl,rfl⟩
  have D:Hid (da d.fields A len=false):=G.o.trans (by simp [L]);go_enter func99,ntmps99
  go_wp21
  go_ret;exact ⟨by rw [D.o];rfl,rfl⟩
 have D:Hid (da d.fields A len=false):=G.o.trans (by simp [E]);go_enter func99,ntmps99
 go_wp21
 go_ret;exact ⟨by rw [D.o];rfl,rfl⟩
theorem zeq (D G E F I:Value) (h:ar) (d:ax) (g:Gd B w c L J D G E F I h d) (A:Int):
 Calls prog 177 #[.p c,.i A] w fun r w'=>r=.returned (.bool (decide (h.ae<A)))/\w'=w:=by
 have O:=g.lt;have N:=g.c1;clear g;go_enter func177,ntmps177
 go_wp21
 go_ret;exact ⟨rfl,rfl⟩
def dw (h:ar) (loc:Int):Bool:=decide (0<loc)&&decide (loc<=h.ae)
theorem zer (L E I F G J:Value) (h:ar) (d:ax) (g:Gd B w c N L E I F G J h d) (A:Int):
 Calls prog 153 #[.p c,.i A] w fun r w'=>r=.returned (.bool (dw h A))/\w'=w:=by
 have V:=g.lt;have O:=g.c1;clear g;by_cases h1:0<A
 ·have D:Hid (dw h A=decide (A<=h.ae)):=by show dw h A=_;simp [dw,h1]
  go_enter func153,ntmps153
  go_wp21
  go_ret;exact ⟨by rw [D.o];rfl,rfl⟩
 have D:Hid (dw h A=false):=by show dw h A=_;simp [dw,h1]
 go_enter func153,ntmps153
 go_wp21
 go_ret;exact ⟨by rw [D.o];rfl,rfl⟩
def nw (t:bq):Value:=.agg #[.i t.loc,.i t.tag,.i t.len,.i t.hash]
def small (n:Int):Prop:=-1000000000<=n/\n<=1000000000
theorem zes (h1:small t.loc) (A:small n):
 Calls prog 68 #[nw t,.i n] w fun r w'=>r=.returned (.i (t.loc+3+n))/\Bl w w':=by
 unfold small at h1 A;obtain ⟨h1,D⟩:=h1;obtain ⟨A,E⟩:=A;unfold nw;go_enter func68,ntmps68
 go_wp21
 go_ret;exact ⟨rfl,(br _ _).alloc (nlq _) _⟩
theorem Er (h1:small t.loc) (G:small t.len):
 Calls prog 72 #[nw t] w fun r w'=>r=.returned (.i t.fin)/\Bl w w':=by
 have A:=aj (fun W=>zes W t t.len h1 G);have F:Hid (t.fin=t.loc+3+t.len):=rfl;unfold nw at*;go_enter func72,ntmps72
 go_wp21
 refine (A.o _).mono ?_;rintro r I ⟨rfl,D⟩;have E:=aj (((br w.heap.size w).alloc (nlq _) (.cells #[.i t.loc,.i t.tag,.i t.len,.i t.hash] 101)).trans (D.mono (by simp)));clear D A
 go_wp21
 go_ret;exact ⟨by rw [F.o];rfl,E.o⟩
def mg (t:bq):DataW Unit:=.agg [.lit (.i t.loc),.lit (.i t.tag),.lit (.i t.len),.lit (.i t.hash)]
def yy (l:List Value):Option (DataW Unit×List MemPlace):=match l with
 | [.i a,.i b,.i c,.i e]=>some (mg ⟨a,b,c,e⟩,[])
 | _=>none
def ll (v:Value):Option (DataW Unit×List MemPlace):=match v with
 | .agg cs=>yy cs.toList
 | _=>none
theorem ze4:ll (nw t)=some (mg t,[]):=rfl
theorem ze5 {s t:bq} (h:mg s=mg t):s=t:=by cases s;cases t;simpa [mg]using h
theorem ze6 {v:Value} {t:bq} {A:List MemPlace} (h:ll v=some (mg t,A)):v=nw t:=by
 unfold ll at h;split at h
 ·rename_i cs;unfold yy at h;split at h
  ·rename_i hl;have h1:=congrArg Prod.fst (ojq h);rw [<-ze5 h1];exact congrArg Value.agg (Array.toList_inj.1 hl)
  cases h
 cases h
theorem qq:Keyed prog 3:=int_keyed underlying3
theorem Ct:(zeroValue 101).run prog w=.ok (nw ⟨0,0,0,0⟩) w:=by kernel_rfl
def jt (n:Int):Lit:=.i n
theorem wo:WideAt.IsKeyLit (jt n):=trivial
theorem Fp {m n:Int} (h:m≠n):jt m≠jt n:=fun e=>h (by injection e)
def mw (ts:List bq) (n:Int):Option bq:=ts.foldl (fun acc t=>if t.loc=n then some t else acc) none
theorem ze8:mw (ts++ [t]) n=if t.loc=n then some t else mw ts n:=by unfold mw;rw [foldl_append];rfl
structure PlD (ts:List bq) (D:DataW Unit):Prop where
 has:∀n,Maps.has D (jt n)=(mw ts n).isSome
 at_:∀n t z,mw ts n=some t->D.atKey (jt n) z=mg t
 no:∀n z,mw ts n=none->D.atKey (jt n) z=z
theorem ze9:PlD [] (.map []):=⟨fun _=>rfl,(fun n t z h=>by cases h),fun n z _=>rfl⟩
theorem zfa {ts:List bq} {D:DataW Unit} (h:PlD ts D) (F:Tidy D) (t:bq):PlD (ts++ [t]) (D.put (jt t.loc) (mg t)):=by
 have E:=F.isMap;refine ⟨fun n=>?_,fun n s z A=>?_,fun n z A=>?_⟩
 ·rw [ze8];by_cases e:t.loc=n
  ·subst e;rw [has_put_same E (wo _),if_pos rfl];rfl
  rw [has_put_other (Fp (Ne.symm e)),if_neg e,h.has]
 ·rw [ze8]at A;by_cases e:t.loc=n
  ·subst e;rw [if_pos rfl]at A;rw [atKey_put_same E (wo _),ojq A]
  rw [if_neg e]at A;rw [atKey_put_other (Fp (Ne.symm e)),h.at_ n s z A]
 rw [ze8]at A;by_cases e:t.loc=n
 ·rw [if_pos e]at A;cases A
 rw [if_neg e]at A;rw [atKey_put_other (Fp (Ne.symm e)),h.no n z A]
def kc (w:World) (b:Nat) (ts:List bq):Prop:=∃D:DataW Unit,w.ownsMap prog 3 ll b ts.length D/\PlD ts D
theorem kc.lt {w:World} {b:Nat} {ts:List bq} (h:kc w b ts):b<w.heap.size:=by obtain ⟨D,h,_⟩:=h;exact h.lt
theorem kc.kept {w w':World} {b:Nat} {ts:List bq} (h:kc w b ts) {row:Option Nat} (F:w.grownBy w' row) (A:some b≠row):kc w' b ts:=by obtain ⟨D,h,E⟩:=h;exact ⟨D,h.kept F A,E⟩
theorem kc.below {B:Nat} {w w':World} {b:Nat} {ts:List bq} (h:kc w b ts) (G:Below B w w') (F:b<B):kc w' b ts:=by obtain ⟨D,⟨E,A,e,h⟩,I⟩:=h;exact ⟨D,⟨E,A,(G.block b F).trans e,h⟩,I⟩
end Go.Proofs.YtjdnmblggdobgaaGreat
