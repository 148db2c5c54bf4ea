import Derived.Test.YtjdnmblggdobgaaGreatJLErrLRf4
import Derived.Test.YtjdnmblggdobgaaGreatJChkClassCatch
import Derived.Test.YtjdnmblggdobgaaGreatJTk2Dies
import Derived.Deep.RegionHeld3
import Derived.Maps.OwnSet
set_option maxHeartbeats 1000000
namespace Go.Proofs.YtjdnmblggdobgaaGreat
open Go.RowKit Go.Maps
structure Gd (B:Nat) (w:World) (c:Nat) (vW vO kC kS kF kN kT:Value) (h:bb) (d:bd):Prop where
 lt:c<w.heap.size
 le:B<=w.heap.size
 c0:w.cell? ⟨c,0,none⟩=some vW
 c1:w.cell? ⟨c,1,none⟩=some (.int .i64 h.ag)
 c2:w.cell? ⟨c,2,none⟩=some (.int .i64 h.old)
 c3:w.cell? ⟨c,3,none⟩=some (.int .i64 h.be)
 c4:w.cell? ⟨c,4,none⟩=some (.int .i64 h.ar)
 c5:w.cell? ⟨c,5,none⟩=some vO
 c6:w.cell? ⟨c,6,none⟩=some (.int .i64 h.next)
 c7:w.cell? ⟨c,7,none⟩=some kC
 c8:w.cell? ⟨c,8,none⟩=some kS
 c9:w.cell? ⟨c,9,none⟩=some kF
 c10:w.cell? ⟨c,10,none⟩=some kN
 c11:w.cell? ⟨c,11,none⟩=some kT
 sW:SL 1 RI (· <B) w vW h.ab
 sO:SL 1 RI (· <B) w vO h.am
 lk:j9 (· <B) w kC kS kF kN kT d
theorem Gd.below {B:Nat} {w w':World} {c:Nat} {N L E I F G J:Value} {h:bb} {d:bd} (g:Gd B w c N L E I F G J h d) (A:Below w.heap.size w w'):Gd B w' c N L E I F G J h d:=
 have up:∀j v,w.cell? ⟨c,j,none⟩=some v->w'.cell? ⟨c,j,none⟩=some v:=fun j _ e=>(A.cell (p:=⟨c,j,none⟩) g.lt).trans e;have D:=Kp.below (A.mono g.le)
 ⟨ll3 g.lt A.size,lt3 g.le A.size,up _ _ g.c0,up _ _ g.c1,up _ _ g.c2,up _ _ g.c3,up _ _ g.c4,up _ _ g.c5,up _ _ g.c6,up _ _ g.c7,up _ _ g.c8,up _ _ g.c9,up _ _ g.c10,up _ _ g.c11,g.sW.keptI D,g.sO.keptI D,g.lk.kept D⟩
def ie (n:Int):Bool:=decide (3<=n)&&decide (n<=2000)
theorem zew (w:World) (n:Int):Calls Tryz.prog 48 #[.int .i64 n] w fun r w'=>r=.returned (.bool (ie n))/\w'=w:=by
 by_cases h1:3<=n
 ·by_cases D:n<=2000
  ·have A:Hid (ie n=true):=by show ie n=true;simp [ie,h1,D]
   go_enter Tryz.func48,Tryz.ntmps48;go_wp2_with fail;go_ret;exact ⟨by rw [A.o];rfl,rfl⟩
  have A:Hid (ie n=false):=by show ie n=false;simp [ie,D]
  go_enter Tryz.func48,Tryz.ntmps48;go_wp2_with fail;go_ret;exact ⟨by rw [A.o];rfl,rfl⟩
 have A:Hid (ie n=false):=by show ie n=false;simp [ie,h1]
 go_enter Tryz.func48,Tryz.ntmps48;go_wp2_with fail;go_ret;exact ⟨by rw [A.o];rfl,rfl⟩
theorem zex (w:World) (B c:Nat) (V O G L I J N:Value) (h:bb) (d:bd) (g:Gd B w c V O G L I J N h d) (A:Int) (hn:d.aj.length<=1000):
 Calls Tryz.prog 98 #[.pointer (some ⟨c,0,none⟩),.int .i64 A] w fun r w'=>r=.returned (.bool (dw d.aj.length A))/\w'=w:=by
 have Z:=g.lt;have X:=g.c7;obtain ⟨W,Y,rfl,-,F,-⟩:=g.lk.C;unfold maxLen at F;clear g;by_cases h1:1<=A
 ·by_cases E:A<3+d.aj.length
  ·have D:Hid (dw d.aj.length A=true):=by show dw _ _=true;simp [dw,h1,E]
   go_enter Tryz.func98,Tryz.ntmps98;go_wp2_with fail;go_ret;exact ⟨by rw [D.o];rfl,rfl⟩
  have D:Hid (dw d.aj.length A=false):=by show dw _ _=false;simp [dw,E]
  go_enter Tryz.func98,Tryz.ntmps98;go_wp2_with fail;go_ret;exact ⟨by rw [D.o];rfl,rfl⟩
 have D:Hid (dw d.aj.length A=false):=by show dw _ _=false;simp [dw,h1]
 go_enter Tryz.func98,Tryz.ntmps98;go_wp2_with fail;go_ret;exact ⟨by rw [D.o];rfl,rfl⟩
theorem zey (w:World) (B c:Nat) (vW vO Z kS kF kN kT:Value) (h:bb) (d:bd) (g:Gd B w c vW vO Z kS kF kN kT h d) (A len:Int) (ht:A<3+d.fields.length):
 Calls Tryz.prog 99 #[.pointer (some ⟨c,0,none⟩),.int .i64 A,.int .i64 len] w fun r w'=>r=.returned (.bool (cq d.fields A len))/\w'=w:=by
 have hl:=g.lt;have c9:=g.c9;have N:=ae g.lk.F;obtain ⟨aF,cF,rfl,-,X,-⟩:=g.lk.F;unfold maxLen at X;clear g;by_cases h1:3<=A
 ·obtain ⟨k,W⟩:∃k:Nat,A=3+k:=⟨(A - 3).toNat,by omega⟩;subst W;have J:k<d.fields.length:=by omega
  obtain ⟨bF,oF,aV,cV,rfl,V,e1,O⟩:=N.o.atSl k J;have I:gr d.fields (3+k)=d.fields[k]:=by unfold gr;rw [show ((3+(k:Int)) - 3).toNat=k by omega];simp [J]
  have G:Hid (cq d.fields (3+k) len=decide (len=d.fields[k].length)):=by show cq _ _ _=_;rw [cq,if_pos h1,I]
  have q1:(0:Int)<=k:=by omega
  have q2:(k:Int)<d.fields.length:=by omega
  have q3:3+(k:Int) - 3=k:=by omega
  have Y:d.fields[k].length<=9223372036854775807:=by obtain ⟨_,_,-,-,h,-⟩:=O;unfold maxLen at h;omega
  clear O I N;generalize d.fields[k].length=fl at*;by_cases E:len=fl
  ·have L:(len==(fl:Int))=true:=beq_iff_eq.2 E;have D:Hid (cq d.fields (3+k) len=true):=G.o.trans (decide_eq_true E);go_enter Tryz.func99,Tryz.ntmps99;go_wp2_with fail;go_ret;exact ⟨by rw [D.o];simp,rfl⟩
  have L:(len==(fl:Int))=false:=beq_eq_false_iff_ne.2 E;have D:Hid (cq d.fields (3+k) len=false):=G.o.trans (decide_eq_false E);go_enter Tryz.func99,Tryz.ntmps99;go_wp2_with fail;go_ret;exact ⟨by rw [D.o];simp,rfl⟩
 have G:Hid (cq d.fields A len=(decide (0<=len)&&decide (len<=500))):=by show cq _ _ _=_;rw [cq,if_neg h1]
 by_cases E:0<=len
 ·by_cases L:len<=500
  ·have D:Hid (cq d.fields A len=true):=G.o.trans (by simp [E,L]);go_enter Tryz.func99,Tryz.ntmps99;go_wp2_with fail;go_ret;exact ⟨by rw [D.o];rfl,rfl⟩
  have D:Hid (cq d.fields A len=false):=G.o.trans (by simp [L]);go_enter Tryz.func99,Tryz.ntmps99;go_wp2_with fail;go_ret;exact ⟨by rw [D.o];rfl,rfl⟩
 have D:Hid (cq d.fields A len=false):=G.o.trans (by simp [E]);go_enter Tryz.func99,Tryz.ntmps99;go_wp2_with fail;go_ret;exact ⟨by rw [D.o];rfl,rfl⟩
theorem zez (w:World) (B c:Nat) (L J D G E F I:Value) (h:bb) (d:bd) (g:Gd B w c L J D G E F I h d) (A:Int):
 Calls Tryz.prog 177 #[.pointer (some ⟨c,0,none⟩),.int .i64 A] w fun r w'=>r=.returned (.bool (decide (h.ag<A)))/\w'=w:=by
 have O:=g.lt;have N:=g.c1;clear g;go_enter Tryz.func177,Tryz.ntmps177;go_wp2_with fail;go_ret;exact ⟨rfl,rfl⟩
def dp (h:bb) (loc:Int):Bool:=decide (0<loc)&&decide (loc<=h.ag)
theorem ze0 (w:World) (B c:Nat) (N L E I F G J:Value) (h:bb) (d:bd) (g:Gd B w c N L E I F G J h d) (A:Int):
 Calls Tryz.prog 153 #[.pointer (some ⟨c,0,none⟩),.int .i64 A] w fun r w'=>r=.returned (.bool (dp h A))/\w'=w:=by
 have V:=g.lt;have O:=g.c1;clear g;by_cases h1:0<A
 ·have D:Hid (dp h A=decide (A<=h.ag)):=by show dp h A=_;simp [dp,h1]
  go_enter Tryz.func153,Tryz.ntmps153;go_wp2_with fail;go_ret;exact ⟨by rw [D.o];rfl,rfl⟩
 have D:Hid (dp h A=false):=by show dp h A=_;simp [dp,h1]
 go_enter Tryz.func153,Tryz.ntmps153;go_wp2_with fail;go_ret;exact ⟨by rw [D.o];rfl,rfl⟩
def thV (t:bp):Value:=.agg #[.int .i64 t.loc,.int .i64 t.tag,.int .i64 t.len,.int .i64 t.hash]
def small (n:Int):Prop:=-1000000000<=n/\n<=1000000000
theorem ze1 (w:World) (t:bp) (n:Int) (h1:small t.loc) (A:small n):
 Calls Tryz.prog 68 #[thV t,.int .i64 n] w fun r w'=>r=.returned (.int .i64 (t.loc+3+n))/\Below w.heap.size w w':=by
 unfold small at h1 A;obtain ⟨h1,D⟩:=h1;obtain ⟨A,E⟩:=A;unfold thV;go_enter Tryz.func68,Tryz.ntmps68;go_wp2_with fail;go_ret;exact ⟨rfl,(br _ _).alloc (nlq _) _⟩
theorem ze2 (w:World) (t:bp) (h1:small t.loc) (G:small t.len):
 Calls Tryz.prog 72 #[thV t] w fun r w'=>r=.returned (.int .i64 t.fin)/\Below w.heap.size w w':=by
 have A:=ae (fun W=>ze1 W t t.len h1 G);have F:Hid (t.fin=t.loc+3+t.len):=rfl;unfold thV at*;go_enter Tryz.func72,Tryz.ntmps72;go_wp2_with fail;refine (A.o _).mono ?_;rintro r I ⟨rfl,D⟩;have E:=ae (((br w.heap.size w).alloc (nlq _) (.cells #[.int .i64 t.loc,.int .i64 t.tag,.int .i64 t.len,.int .i64 t.hash] 101)).trans (D.mono (by simp)));clear D A;go_wp2_with fail;go_ret;exact ⟨by rw [F.o];rfl,E.o⟩
def ma (t:bp):DataW Unit:=.agg [.lit (.int .i64 t.loc),.lit (.int .i64 t.tag),.lit (.int .i64 t.len),.lit (.int .i64 t.hash)]
def thElemL (l:List Value):Option (DataW Unit×List MemPlace):=match l with
 | [.int .i64 a,.int .i64 b,.int .i64 c,.int .i64 e]=>some (ma ⟨a,b,c,e⟩,[])
 | _=>none
def mt (v:Value):Option (DataW Unit×List MemPlace):=match v with
 | .agg cs=>thElemL cs.toList
 | _=>none
theorem zfd (t:bp):mt (thV t)=some (ma t,[]):=rfl
theorem zfe {s t:bp} (h:ma s=ma t):s=t:=by cases s;cases t;simpa [ma]using h
theorem zff {v:Value} {t:bp} {A:List MemPlace} (h:mt v=some (ma t,A)):v=thV t:=by
 unfold mt at h;split at h
 ·rename_i cs;unfold thElemL at h;split at h
  ·rename_i hl;have h1:=congrArg Prod.fst (ojq h);rw [<-zfe h1];exact congrArg Value.agg (Array.toList_inj.1 hl)
  cases h
 cases h
theorem law3:Keyed Tryz.prog 3:=int_keyed Tryz.underlying3
theorem zeroTh (w:World):(zeroValue 101).run Tryz.prog w=.ok (thV ⟨0,0,0,0⟩) w:=by kernel_rfl
def ky (n:Int):Lit:=.int .i64 n
theorem isIKey (n:Int):WideAt.IsKeyLit (ky n):=trivial
theorem zfg {m n:Int} (h:m≠n):ky m≠ky n:=fun e=>h (by injection e)
def km (ts:List bp) (n:Int):Option bp:=ts.foldl (fun acc t=>if t.loc=n then some t else acc) none
theorem zfh (ts:List bp) (t:bp) (n:Int):km (ts++ [t]) n=if t.loc=n then some t else km ts n:=by unfold km;rw [List.foldl_append];rfl
structure PlD (ts:List bp) (D:DataW Unit):Prop where
 has:∀n,Maps.has D (ky n)=(km ts n).isSome
 at_:∀n t z,km ts n=some t->D.atKey (ky n) z=ma t
 no:∀n z,km ts n=none->D.atKey (ky n) z=z
theorem zfi:PlD [] (.map []):=⟨fun _=>rfl,(fun n t z h=>by cases h),fun n z _=>rfl⟩
theorem zfj {ts:List bp} {D:DataW Unit} (h:PlD ts D) (F:Tidy D) (t:bp):PlD (ts++ [t]) (D.put (ky t.loc) (ma t)):=by
 have E:=F.isMap;refine ⟨fun n=>?_,fun n s z A=>?_,fun n z A=>?_⟩
 ·rw [zfh];by_cases e:t.loc=n
  ·subst e;rw [has_put_same E (isIKey _),if_pos rfl];rfl
  rw [has_put_other (zfg (Ne.symm e)),if_neg e,h.has]
 ·rw [zfh]at A;by_cases e:t.loc=n
  ·subst e;rw [if_pos rfl]at A;rw [atKey_put_same E (isIKey _),ojq A]
  rw [if_neg e]at A;rw [atKey_put_other (zfg (Ne.symm e)),h.at_ n s z A]
 rw [zfh]at A;by_cases e:t.loc=n
 ·rw [if_pos e]at A;cases A
 rw [if_neg e]at A;rw [atKey_put_other (zfg (Ne.symm e)),h.no n z A]
def PlMap (w:World) (b:Nat) (ts:List bp):Prop:=∃D:DataW Unit,w.ownsMap Tryz.prog 3 mt b ts.length D/\PlD ts D
theorem PlMap.lt {w:World} {b:Nat} {ts:List bp} (h:PlMap w b ts):b<w.heap.size:=by obtain ⟨D,h,_⟩:=h;exact h.lt
theorem PlMap.kept {w w':World} {b:Nat} {ts:List bp} (h:PlMap w b ts) {row:Option Nat} (F:w.grownBy w' row) (A:some b≠row):PlMap w' b ts:=by obtain ⟨D,h,E⟩:=h;exact ⟨D,h.kept F A,E⟩
theorem PlMap.below {B:Nat} {w w':World} {b:Nat} {ts:List bp} (h:PlMap w b ts) (G:Below B w w') (F:b<B):PlMap w' b ts:=by obtain ⟨D,⟨E,A,e,h⟩,I⟩:=h;exact ⟨D,⟨E,A,(G.block b F).trans e,h⟩,I⟩
end Go.Proofs.YtjdnmblggdobgaaGreat
