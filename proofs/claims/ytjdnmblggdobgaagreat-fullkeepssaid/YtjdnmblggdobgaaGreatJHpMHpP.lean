import Derived.Test.YtjdnmblggdobgaaGreatJLErrLRf4
import Derived.Test.YtjdnmblggdobgaaGreatJChkClassCatch
import Derived.Test.YtjdnmblggdobgaaGreatJTk2Dies
import Derived.Deep.RegionHeld3
import Derived.Maps.OwnSet
set_option maxHeartbeats 1000000
namespace Go.Proofs.YtjdnmblggdobgaaGreat
open Go.RowKit Go.Maps
structure Gd (B:Nat) (w:World) (c:Nat) (vW vO kC kS kF kN kT:Value) (h:bd) (d:be):Prop where
 lt:c<w.heap.size
 le:B<=w.heap.size
 c0:w.cell? ⟨c,0,none⟩=some vW
 c1:w.cell? ⟨c,1,none⟩=some (.int .i64 h.ae)
 c2:w.cell? ⟨c,2,none⟩=some (.int .i64 h.old)
 c3:w.cell? ⟨c,3,none⟩=some (.int .i64 h.bg)
 c4:w.cell? ⟨c,4,none⟩=some (.int .i64 h.bk)
 c5:w.cell? ⟨c,5,none⟩=some vO
 c6:w.cell? ⟨c,6,none⟩=some (.int .i64 h.next)
 c7:w.cell? ⟨c,7,none⟩=some kC
 c8:w.cell? ⟨c,8,none⟩=some kS
 c9:w.cell? ⟨c,9,none⟩=some kF
 c10:w.cell? ⟨c,10,none⟩=some kN
 c11:w.cell? ⟨c,11,none⟩=some kT
 sW:SL 1 RI (· <B) w vW h.ab
 sO:SL 1 RI (· <B) w vO h.ap
 lk:ma (· <B) w kC kS kF kN kT d
theorem Gd.below {B:Nat} {w w':World} {c:Nat} {N L E I F G J:Value} {h:bd} {d:be} (g:Gd B w c N L E I F G J h d) (A:Below w.heap.size w w'):Gd B w' c N L E I F G J h d:=
 have u:∀j v,w.cell? ⟨c,j,none⟩=some v->w'.cell? ⟨c,j,none⟩=some v:=fun j _ e=>(A.cell (p:=⟨c,j,none⟩) g.lt).trans e;have D:=Kp.below (A.mono g.le)
 ⟨ll3 g.lt A.size,lt3 g.le A.size,u _ _ g.c0,u _ _ g.c1,u _ _ g.c2,u _ _ g.c3,u _ _ g.c4,u _ _ g.c5,u _ _ g.c6,u _ _ g.c7,u _ _ g.c8,u _ _ g.c9,u _ _ g.c10,u _ _ g.c11,g.sW.keptI D,g.sO.keptI D,g.lk.kept D⟩
def ij (n:Int):Bool:=decide (3<=n)&&decide (n<=2000)
theorem zew (w:World) (n:Int):Calls Tryz.prog 48 #[.int .i64 n] w fun r w'=>r=.returned (.bool (ij n))/\w'=w:=by
 by_cases h1:3<=n
 ·by_cases A:n<=2000
  ·have u:Hid (ij n=true):=by show ij n=true;simp [ij,h1,A]
   go_enter Tryz.func48,Tryz.ntmps48;go_wp2_with fail;go_ret;exact ⟨by rw [u.o];rfl,rfl⟩
  have u:Hid (ij n=false):=by show ij n=false;simp [ij,A]
  go_enter Tryz.func48,Tryz.ntmps48;go_wp2_with fail;go_ret;exact ⟨by rw [u.o];rfl,rfl⟩
 have u:Hid (ij n=false):=by show ij n=false;simp [ij,h1]
 go_enter Tryz.func48,Tryz.ntmps48;go_wp2_with fail;go_ret;exact ⟨by rw [u.o];rfl,rfl⟩
theorem zex (w:World) (B c:Nat) (O N F J G I L:Value) (h:bd) (d:be) (g:Gd B w c O N F J G I L h d) (u:Int) (Z:d.aj.length<=1000):
 Calls Tryz.prog 98 #[.pointer (some ⟨c,0,none⟩),.int .i64 u] w fun r w'=>r=.returned (.bool (eo d.aj.length u))/\w'=w:=by
 have Y:=g.lt;have W:=g.c7;obtain ⟨V,X,rfl,-,E,-⟩:=g.lk.C;unfold maxLen at E;clear g;by_cases h1:1<=u
 ·by_cases D:u<3+d.aj.length
  ·have A:Hid (eo d.aj.length u=true):=by show eo _ _=true;simp [eo,h1,D]
   go_enter Tryz.func98,Tryz.ntmps98;go_wp2_with fail;go_ret;exact ⟨by rw [A.o];rfl,rfl⟩
  have A:Hid (eo d.aj.length u=false):=by show eo _ _=false;simp [eo,D]
  go_enter Tryz.func98,Tryz.ntmps98;go_wp2_with fail;go_ret;exact ⟨by rw [A.o];rfl,rfl⟩
 have A:Hid (eo d.aj.length u=false):=by show eo _ _=false;simp [eo,h1]
 go_enter Tryz.func98,Tryz.ntmps98;go_wp2_with fail;go_ret;exact ⟨by rw [A.o];rfl,rfl⟩
theorem zey (w:World) (B c:Nat) (vW vO Y kS Z kN kT:Value) (h:bd) (d:be) (g:Gd B w c vW vO Y kS Z kN kT h d) (u len:Int) (ht:u<3+d.fields.length):
 Calls Tryz.prog 99 #[.pointer (some ⟨c,0,none⟩),.int .i64 u,.int .i64 len] w fun r w'=>r=.returned (.bool (dh d.fields u len))/\w'=w:=by
 have hl:=g.lt;have c9:=g.c9;have L:=ag g.lk.F;obtain ⟨aF,cF,rfl,-,W,-⟩:=g.lk.F;unfold maxLen at W;clear g;by_cases h1:3<=u
 ·obtain ⟨k,V⟩:∃k:Nat,u=3+k:=⟨(u - 3).toNat,by omega⟩;subst V;have I:k<d.fields.length:=by omega
  obtain ⟨bF,oF,aV,cV,rfl,O,e1,N⟩:=L.o.atSl k I;have G:gw d.fields (3+k)=d.fields[k]:=by unfold gw;rw [show ((3+(k:Int)) - 3).toNat=k by omega];simp [I]
  have E:Hid (dh d.fields (3+k) len=decide (len=d.fields[k].length)):=by show dh _ _ _=_;rw [dh,if_pos h1,G]
  have q1:(0:Int)<=k:=by omega
  have q2:(k:Int)<d.fields.length:=by omega
  have q3:3+(k:Int) - 3=k:=by omega
  have X:d.fields[k].length<=9223372036854775807:=by obtain ⟨_,_,-,-,h,-⟩:=N;unfold maxLen at h;omega
  clear N G L;generalize d.fields[k].length=fl at*;by_cases D:len=fl
  ·have J:(len==(fl:Int))=true:=beq_iff_eq.2 D;have A:Hid (dh d.fields (3+k) len=true):=E.o.trans (decide_eq_true D);go_enter Tryz.func99,Tryz.ntmps99;go_wp2_with fail;go_ret;exact ⟨by rw [A.o];simp,rfl⟩
  have J:(len==(fl:Int))=false:=beq_eq_false_iff_ne.2 D;have A:Hid (dh d.fields (3+k) len=false):=E.o.trans (decide_eq_false D);go_enter Tryz.func99,Tryz.ntmps99;go_wp2_with fail;go_ret;exact ⟨by rw [A.o];simp,rfl⟩
 have E:Hid (dh d.fields u len=(decide (0<=len)&&decide (len<=500))):=by show dh _ _ _=_;rw [dh,if_neg h1]
 by_cases D:0<=len
 ·by_cases J:len<=500
  ·have A:Hid (dh d.fields u len=true):=E.o.trans (by simp [D,J]);go_enter Tryz.func99,Tryz.ntmps99;go_wp2_with fail;go_ret;exact ⟨by rw [A.o];rfl,rfl⟩
  have A:Hid (dh d.fields u len=false):=E.o.trans (by simp [J]);go_enter Tryz.func99,Tryz.ntmps99;go_wp2_with fail;go_ret;exact ⟨by rw [A.o];rfl,rfl⟩
 have A:Hid (dh d.fields u len=false):=E.o.trans (by simp [D]);go_enter Tryz.func99,Tryz.ntmps99;go_wp2_with fail;go_ret;exact ⟨by rw [A.o];rfl,rfl⟩
theorem zez (w:World) (B c:Nat) (J I A F D E G:Value) (h:bd) (d:be) (g:Gd B w c J I A F D E G h d) (u:Int):
 Calls Tryz.prog 177 #[.pointer (some ⟨c,0,none⟩),.int .i64 u] w fun r w'=>r=.returned (.bool (decide (h.ae<u)))/\w'=w:=by
 have N:=g.lt;have L:=g.c1;clear g;go_enter Tryz.func177,Tryz.ntmps177;go_wp2_with fail;go_ret;exact ⟨rfl,rfl⟩
def kq (h:bd) (loc:Int):Bool:=decide (0<loc)&&decide (loc<=h.ae)
theorem ze0 (w:World) (B c:Nat) (L J D G E F I:Value) (h:bd) (d:be) (g:Gd B w c L J D G E F I h d) (u:Int):
 Calls Tryz.prog 153 #[.pointer (some ⟨c,0,none⟩),.int .i64 u] w fun r w'=>r=.returned (.bool (kq h u))/\w'=w:=by
 have O:=g.lt;have N:=g.c1;clear g;by_cases h1:0<u
 ·have A:Hid (kq h u=decide (u<=h.ae)):=by show kq h u=_;simp [kq,h1]
  go_enter Tryz.func153,Tryz.ntmps153;go_wp2_with fail;go_ret;exact ⟨by rw [A.o];rfl,rfl⟩
 have A:Hid (kq h u=false):=by show kq h u=_;simp [kq,h1]
 go_enter Tryz.func153,Tryz.ntmps153;go_wp2_with fail;go_ret;exact ⟨by rw [A.o];rfl,rfl⟩
def mx (t:bp):Value:=.agg #[.int .i64 t.loc,.int .i64 t.tag,.int .i64 t.len,.int .i64 t.hash]
def small (n:Int):Prop:=-1000000000<=n/\n<=1000000000
theorem ze1 (w:World) (t:bp) (n:Int) (h1:small t.loc) (u:small n):
 Calls Tryz.prog 68 #[mx t,.int .i64 n] w fun r w'=>r=.returned (.int .i64 (t.loc+3+n))/\Below w.heap.size w w':=by
 unfold small at h1 u;obtain ⟨h1,A⟩:=h1;obtain ⟨u,D⟩:=u;unfold mx;go_enter Tryz.func68,Tryz.ntmps68;go_wp2_with fail;go_ret;exact ⟨rfl,(br _ _).alloc (nlq _) _⟩
theorem ze2 (w:World) (t:bp) (h1:small t.loc) (F:small t.len):
 Calls Tryz.prog 72 #[mx t] w fun r w'=>r=.returned (.int .i64 t.fin)/\Below w.heap.size w w':=by
 have u:=ag (fun W=>ze1 W t t.len h1 F);have E:Hid (t.fin=t.loc+3+t.len):=rfl;unfold mx at*;go_enter Tryz.func72,Tryz.ntmps72;go_wp2_with fail;refine (u.o _).mono ?_;rintro r G ⟨rfl,A⟩;have D:=ag (((br w.heap.size w).alloc (nlq _) (.cells #[.int .i64 t.loc,.int .i64 t.tag,.int .i64 t.len,.int .i64 t.hash] 101)).trans (A.mono (by simp)));clear A u;go_wp2_with fail;go_ret;exact ⟨by rw [E.o];rfl,D.o⟩
def jy (t:bp):DataW Unit:=.agg [.lit (.int .i64 t.loc),.lit (.int .i64 t.tag),.lit (.int .i64 t.len),.lit (.int .i64 t.hash)]
def thElemL (l:List Value):Option (DataW Unit×List MemPlace):=match l with
 | [.int .i64 a,.int .i64 b,.int .i64 c,.int .i64 e]=>some (jy ⟨a,b,c,e⟩,[])
 | _=>none
def jt (v:Value):Option (DataW Unit×List MemPlace):=match v with
 | .agg cs=>thElemL cs.toList
 | _=>none
theorem zfd (t:bp):jt (mx t)=some (jy t,[]):=rfl
theorem zfe {s t:bp} (h:jy s=jy t):s=t:=by cases s;cases t;simpa [jy]using h
theorem zff {v:Value} {t:bp} {u:List MemPlace} (h:jt v=some (jy t,u)):v=mx t:=by
 unfold jt at h;split at h
 ·rename_i cs;unfold thElemL at h;split at h
  ·rename_i hl;have h1:=congrArg Prod.fst (ojq h);rw [<-zfe h1];exact congrArg Value.agg (Array.toList_inj.1 hl)
  cases h
 cases h
theorem law3:Keyed Tryz.prog 3:=int_keyed Tryz.underlying3
theorem zeroTh (w:World):(zeroValue 101).run Tryz.prog w=.ok (mx ⟨0,0,0,0⟩) w:=by kernel_rfl
def jc (n:Int):Lit:=.int .i64 n
theorem isIKey (n:Int):WideAt.IsKeyLit (jc n):=trivial
theorem zfg {m n:Int} (h:m≠n):jc m≠jc n:=fun e=>h (by injection e)
def km (ts:List bp) (n:Int):Option bp:=ts.foldl (fun acc t=>if t.loc=n then some t else acc) none
theorem zfh (ts:List bp) (t:bp) (n:Int):km (ts++ [t]) n=if t.loc=n then some t else km ts n:=by unfold km;rw [List.foldl_append];rfl
structure PlD (ts:List bp) (D:DataW Unit):Prop where
 has:∀n,Maps.has D (jc n)=(km ts n).isSome
 at_:∀n t z,km ts n=some t->D.atKey (jc n) z=jy t
 no:∀n z,km ts n=none->D.atKey (jc n) z=z
theorem zfi:PlD [] (.map []):=⟨fun _=>rfl,(fun n t z h=>by cases h),fun n z _=>rfl⟩
theorem zfj {ts:List bp} {D:DataW Unit} (h:PlD ts D) (E:Tidy D) (t:bp):PlD (ts++ [t]) (D.put (jc t.loc) (jy t)):=by
 have A:=E.isMap;refine ⟨fun n=>?_,fun n s z u=>?_,fun n z u=>?_⟩
 ·rw [zfh];by_cases e:t.loc=n
  ·subst e;rw [has_put_same A (isIKey _),if_pos rfl];rfl
  rw [has_put_other (zfg (Ne.symm e)),if_neg e,h.has]
 ·rw [zfh]at u;by_cases e:t.loc=n
  ·subst e;rw [if_pos rfl]at u;rw [atKey_put_same A (isIKey _),ojq u]
  rw [if_neg e]at u;rw [atKey_put_other (zfg (Ne.symm e)),h.at_ n s z u]
 rw [zfh]at u;by_cases e:t.loc=n
 ·rw [if_pos e]at u;cases u
 rw [if_neg e]at u;rw [atKey_put_other (zfg (Ne.symm e)),h.no n z u]
def ja (w:World) (b:Nat) (ts:List bp):Prop:=∃D:DataW Unit,w.ownsMap Tryz.prog 3 jt b ts.length D/\PlD ts D
theorem ja.lt {w:World} {b:Nat} {ts:List bp} (h:ja w b ts):b<w.heap.size:=by obtain ⟨D,h,_⟩:=h;exact h.lt
theorem ja.kept {w w':World} {b:Nat} {ts:List bp} (h:ja w b ts) {row:Option Nat} (E:w.grownBy w' row) (u:some b≠row):ja w' b ts:=by obtain ⟨D,h,A⟩:=h;exact ⟨D,h.kept E u,A⟩
theorem ja.below {B:Nat} {w w':World} {b:Nat} {ts:List bp} (h:ja w b ts) (F:Below B w w') (E:b<B):ja w' b ts:=by obtain ⟨D,⟨A,u,e,h⟩,G⟩:=h;exact ⟨D,⟨A,u,(F.block b E).trans e,h⟩,G⟩
end Go.Proofs.YtjdnmblggdobgaaGreat
