import Derived.Test.YtjdnmblggdobgaaGreatJLErrLRf4
import Derived.Test.YtjdnmblggdobgaaGreatJChkClassCatch
import Derived.Test.YtjdnmblggdobgaaGreatJTk2Dies
import Derived.Deep.RegionHeld3
import Derived.Maps.OwnSet
set_option maxHeartbeats 1000000
namespace Go.Proofs.YtjdnmblggdobgaaGreat
open Go.RowKit Go.Maps
structure Gd (B:Nat) (w:World) (c:Nat) (vW vO kC kS kF kN kT:Value) (h:HeapD) (d:LinkD):Prop where
 lt:c<w.heap.size
 le:B<=w.heap.size
 c0:w.cell? ⟨c,0,none⟩=some vW
 c1:w.cell? ⟨c,1,none⟩=some (.int .i64 h.young)
 c2:w.cell? ⟨c,2,none⟩=some (.int .i64 h.old)
 c3:w.cell? ⟨c,3,none⟩=some (.int .i64 h.ytop)
 c4:w.cell? ⟨c,4,none⟩=some (.int .i64 h.otop)
 c5:w.cell? ⟨c,5,none⟩=some vO
 c6:w.cell? ⟨c,6,none⟩=some (.int .i64 h.next)
 c7:w.cell? ⟨c,7,none⟩=some kC
 c8:w.cell? ⟨c,8,none⟩=some kS
 c9:w.cell? ⟨c,9,none⟩=some kF
 c10:w.cell? ⟨c,10,none⟩=some kN
 c11:w.cell? ⟨c,11,none⟩=some kT
 sW:SL 1 RI (· <B) w vW h.words
 sO:SL 1 RI (· <B) w vO h.noted
 lk:RLk (· <B) w kC kS kF kN kT d
theorem Gd.below {B:Nat} {w w':World} {c:Nat} {vW vO kC kS kF kN kT:Value} {h:HeapD} {d:LinkD} (g:Gd B w c vW vO kC kS kF kN kT h d) (hb:Below w.heap.size w w'):Gd B w' c vW vO kC kS kF kN kT h d:=
 have up:∀j v,w.cell? ⟨c,j,none⟩=some v->w'.cell? ⟨c,j,none⟩=some v:=fun j _ e=>(hb.cell (p:=⟨c,j,none⟩) g.lt).trans e
 have hk:=Kp.below (hb.mono g.le)
 ⟨Nat.lt_of_lt_of_le g.lt hb.size,Nat.le_trans g.le hb.size,up _ _ g.c0,up _ _ g.c1,up _ _ g.c2,up _ _ g.c3,up _ _ g.c4,up _ _ g.c5,up _ _ g.c6,up _ _ g.c7,up _ _ g.c8,up _ _ g.c9,up _ _ g.c10,up _ _ g.c11,g.sW.keptI hk,g.sO.keptI hk,g.lk.kept hk⟩
def partB (n:Int):Bool:=decide (3<=n)&&decide (n<=2000)
theorem zew (w:World) (n:Int):Calls Tryz.prog 48 #[.int .i64 n] w fun r w'=>r=.returned (.bool (partB n))/\w'=w:=by
 by_cases h1:3<=n
 ·
  by_cases h2:n<=2000
  ·
   have HR:Hid (partB n=true):=by show partB n=true;simp [partB,h1,h2]
   go_enter Tryz.func48,Tryz.ntmps48
   go_wp2_with fail
   go_ret
   exact ⟨by rw [HR.out];rfl,rfl⟩
  have HR:Hid (partB n=false):=by show partB n=false;simp [partB,h2]
  go_enter Tryz.func48,Tryz.ntmps48
  go_wp2_with fail
  go_ret
  exact ⟨by rw [HR.out];rfl,rfl⟩
 have HR:Hid (partB n=false):=by show partB n=false;simp [partB,h1]
 go_enter Tryz.func48,Tryz.ntmps48
 go_wp2_with fail
 go_ret
 exact ⟨by rw [HR.out];rfl,rfl⟩
theorem zex (w:World) (B c:Nat) (vW vO kC kS kF kN kT:Value) (h:HeapD) (d:LinkD) (g:Gd B w c vW vO kC kS kF kN kT h d) (tag:Int) (hn:d.classes.length<=1000):
 Calls Tryz.prog 98 #[.pointer (some ⟨c,0,none⟩),.int .i64 tag] w fun r w'=>r=.returned (.bool (isTagB d.classes.length tag))/\w'=w:=by
 have hl:=g.lt
 have c7:=g.c7
 obtain ⟨aC,cC,rfl,-,hm,-⟩:=g.lk.C
 unfold maxLen at hm
 clear g
 by_cases h1:1<=tag
 ·
  by_cases h2:tag<3+d.classes.length
  ·
   have HR:Hid (isTagB d.classes.length tag=true):=by show isTagB _ _=true;simp [isTagB,h1,h2]
   go_enter Tryz.func98,Tryz.ntmps98
   go_wp2_with fail
   go_ret
   exact ⟨by rw [HR.out];rfl,rfl⟩
  have HR:Hid (isTagB d.classes.length tag=false):=by show isTagB _ _=false;simp [isTagB,h2]
  go_enter Tryz.func98,Tryz.ntmps98
  go_wp2_with fail
  go_ret
  exact ⟨by rw [HR.out];rfl,rfl⟩
 have HR:Hid (isTagB d.classes.length tag=false):=by show isTagB _ _=false;simp [isTagB,h1]
 go_enter Tryz.func98,Tryz.ntmps98
 go_wp2_with fail
 go_ret
 exact ⟨by rw [HR.out];rfl,rfl⟩
theorem zey (w:World) (B c:Nat) (vW vO kC kS kF kN kT:Value) (h:HeapD) (d:LinkD) (g:Gd B w c vW vO kC kS kF kN kT h d) (tag len:Int) (ht:tag<3+d.fields.length):
 Calls Tryz.prog 99 #[.pointer (some ⟨c,0,none⟩),.int .i64 tag,.int .i64 len] w fun r w'=>r=.returned (.bool (mayHaveB d.fields tag len))/\w'=w:=by
 have hl:=g.lt
 have c9:=g.c9
 have HF:=mk0 g.lk.F
 obtain ⟨aF,cF,rfl,-,hm,-⟩:=g.lk.F
 unfold maxLen at hm
 clear g
 by_cases h1:3<=tag
 ·
  obtain ⟨k,hk⟩:∃k:Nat,tag=3+k:=⟨(tag - 3).toNat,by omega⟩
  subst hk
  have hkl:k<d.fields.length:=by omega
  obtain ⟨bF,oF,aV,cV,rfl,hbF,e1,sV⟩:=HF.out.atSl k hkl
  have hfa:fieldsAt d.fields (3+k)=d.fields[k]:=by
   unfold fieldsAt
   rw [show ((3+(k:Int)) - 3).toNat=k by omega]
   simp [hkl]
  have HM:Hid (mayHaveB d.fields (3+k) len=decide (len=d.fields[k].length)):=by show mayHaveB _ _ _=_;rw [mayHaveB,if_pos h1,hfa]
  have q1:(0:Int)<=k:=by omega
  have q2:(k:Int)<d.fields.length:=by omega
  have q3:3+(k:Int) - 3=k:=by omega
  have hmv:d.fields[k].length<=9223372036854775807:=by obtain ⟨_,_,-,-,h,-⟩:=sV;unfold maxLen at h;omega
  clear sV hfa HF
  generalize d.fields[k].length=fl at*
  by_cases h2:len=fl
  ·
   have h3:(len==(fl:Int))=true:=beq_iff_eq.2 h2
   have HR:Hid (mayHaveB d.fields (3+k) len=true):=HM.out.trans (decide_eq_true h2)
   go_enter Tryz.func99,Tryz.ntmps99
   go_wp2_with fail
   go_ret
   exact ⟨by rw [HR.out];simp,rfl⟩
  have h3:(len==(fl:Int))=false:=beq_eq_false_iff_ne.2 h2
  have HR:Hid (mayHaveB d.fields (3+k) len=false):=HM.out.trans (decide_eq_false h2)
  go_enter Tryz.func99,Tryz.ntmps99
  go_wp2_with fail
  go_ret
  exact ⟨by rw [HR.out];simp,rfl⟩
 have HM:Hid (mayHaveB d.fields tag len=(decide (0<=len)&&decide (len<=500))):=by show mayHaveB _ _ _=_;rw [mayHaveB,if_neg h1]
 by_cases h2:0<=len
 ·
  by_cases h3:len<=500
  ·
   have HR:Hid (mayHaveB d.fields tag len=true):=HM.out.trans (by simp [h2,h3])
   go_enter Tryz.func99,Tryz.ntmps99
   go_wp2_with fail
   go_ret
   exact ⟨by rw [HR.out];rfl,rfl⟩
  have HR:Hid (mayHaveB d.fields tag len=false):=HM.out.trans (by simp [h3])
  go_enter Tryz.func99,Tryz.ntmps99
  go_wp2_with fail
  go_ret
  exact ⟨by rw [HR.out];rfl,rfl⟩
 have HR:Hid (mayHaveB d.fields tag len=false):=HM.out.trans (by simp [h2])
 go_enter Tryz.func99,Tryz.ntmps99
 go_wp2_with fail
 go_ret
 exact ⟨by rw [HR.out];rfl,rfl⟩
theorem zez (w:World) (B c:Nat) (vW vO kC kS kF kN kT:Value) (h:HeapD) (d:LinkD) (g:Gd B w c vW vO kC kS kF kN kT h d) (loc:Int):
 Calls Tryz.prog 177 #[.pointer (some ⟨c,0,none⟩),.int .i64 loc] w fun r w'=>r=.returned (.bool (decide (h.young<loc)))/\w'=w:=by
 have hl:=g.lt
 have c1:=g.c1
 clear g
 go_enter Tryz.func177,Tryz.ntmps177
 go_wp2_with fail
 go_ret
 exact ⟨rfl,rfl⟩
def youngB (h:HeapD) (loc:Int):Bool:=decide (0<loc)&&decide (loc<=h.young)
theorem ze0 (w:World) (B c:Nat) (vW vO kC kS kF kN kT:Value) (h:HeapD) (d:LinkD) (g:Gd B w c vW vO kC kS kF kN kT h d) (loc:Int):
 Calls Tryz.prog 153 #[.pointer (some ⟨c,0,none⟩),.int .i64 loc] w fun r w'=>r=.returned (.bool (youngB h loc))/\w'=w:=by
 have hl:=g.lt
 have c1:=g.c1
 clear g
 by_cases h1:0<loc
 ·
  have HR:Hid (youngB h loc=decide (loc<=h.young)):=by show youngB h loc=_;simp [youngB,h1]
  go_enter Tryz.func153,Tryz.ntmps153
  go_wp2_with fail
  go_ret
  exact ⟨by rw [HR.out];rfl,rfl⟩
 have HR:Hid (youngB h loc=false):=by show youngB h loc=_;simp [youngB,h1]
 go_enter Tryz.func153,Tryz.ntmps153
 go_wp2_with fail
 go_ret
 exact ⟨by rw [HR.out];rfl,rfl⟩
def thV (t:ThD):Value:=.agg #[.int .i64 t.loc,.int .i64 t.tag,.int .i64 t.len,.int .i64 t.hash]
def small (n:Int):Prop:=-1000000000<=n/\n<=1000000000
theorem ze1 (w:World) (t:ThD) (n:Int) (h1:small t.loc) (h2:small n):
 Calls Tryz.prog 68 #[thV t,.int .i64 n] w fun r w'=>r=.returned (.int .i64 (t.loc+3+n))/\Below w.heap.size w w':=by
 unfold small at h1 h2
 obtain ⟨h1,h1'⟩:=h1
 obtain ⟨h2,h2'⟩:=h2
 unfold thV
 go_enter Tryz.func68,Tryz.ntmps68
 go_wp2_with fail
 go_ret
 exact ⟨rfl,(Below.refl _ _).alloc (Nat.le_refl _) _⟩
theorem ze2 (w:World) (t:ThD) (h1:small t.loc) (h2:small t.len):
 Calls Tryz.prog 72 #[thV t] w fun r w'=>r=.returned (.int .i64 t.fin)/\Below w.heap.size w w':=by
 have HW:=mk0 (fun W=>ze1 W t t.len h1 h2)
 have HF:Hid (t.fin=t.loc+3+t.len):=rfl
 unfold thV at*
 go_enter Tryz.func72,Tryz.ntmps72
 go_wp2_with fail
 refine (HW.out _).mono ?_
 rintro r w2 ⟨rfl,hb⟩
 have HB:=mk0 (((Below.refl w.heap.size w).alloc (Nat.le_refl _) (.cells #[.int .i64 t.loc,.int .i64 t.tag,.int .i64 t.len,.int .i64 t.hash] 101)).trans (hb.mono (by simp)))
 clear hb HW
 go_wp2_with fail
 go_ret
 exact ⟨by rw [HF.out];rfl,HB.out⟩
def thDat (t:ThD):DataW Unit:=.agg [.lit (.int .i64 t.loc),.lit (.int .i64 t.tag),.lit (.int .i64 t.len),.lit (.int .i64 t.hash)]
def thElemL (l:List Value):Option (DataW Unit×List MemPlace):=match l with
 | [.int .i64 a,.int .i64 b,.int .i64 c,.int .i64 e]=>some (thDat ⟨a,b,c,e⟩,[])
 | _=>none
def thElem (v:Value):Option (DataW Unit×List MemPlace):=match v with
 | .agg cs=>thElemL cs.toList
 | _=>none
theorem zfd (t:ThD):thElem (thV t)=some (thDat t,[]):=rfl
theorem zfe {s t:ThD} (h:thDat s=thDat t):s=t:=by
 cases s
 cases t
 simpa [thDat]using h
theorem zff {v:Value} {t:ThD} {ps:List MemPlace} (h:thElem v=some (thDat t,ps)):v=thV t:=by
 unfold thElem at h
 split at h
 ·
  rename_i cs
  unfold thElemL at h
  split at h
  ·
   rename_i hl
   have h1:=congrArg Prod.fst (Option.some.inj h)
   rw [<-zfe h1]
   exact congrArg Value.agg (Array.toList_inj.1 hl)
  cases h
 cases h
theorem law3:Keyed Tryz.prog 3:=int_keyed Tryz.underlying3
theorem zeroTh (w:World):(zeroValue 101).run Tryz.prog w=.ok (thV ⟨0,0,0,0⟩) w:=by kernel_rfl
def ikey (n:Int):Lit:=.int .i64 n
theorem isIKey (n:Int):WideAt.IsKeyLit (ikey n):=trivial
theorem zfg {m n:Int} (h:m≠n):ikey m≠ikey n:=fun e=>h (by injection e)
def plAt (ts:List ThD) (n:Int):Option ThD:=ts.foldl (fun acc t=>if t.loc=n then some t else acc) none
theorem zfh (ts:List ThD) (t:ThD) (n:Int):plAt (ts++ [t]) n=if t.loc=n then some t else plAt ts n:=by
 unfold plAt
 rw [List.foldl_append]
 rfl
structure PlD (ts:List ThD) (D:DataW Unit):Prop where
 has:∀n,Maps.has D (ikey n)=(plAt ts n).isSome
 at_:∀n t z,plAt ts n=some t->D.atKey (ikey n) z=thDat t
 no:∀n z,plAt ts n=none->D.atKey (ikey n) z=z
theorem zfi:PlD [] (.map []):=⟨fun _=>rfl,(fun n t z h=>by cases h),fun n z _=>rfl⟩
theorem zfj {ts:List ThD} {D:DataW Unit} (h:PlD ts D) (ht:Tidy D) (t:ThD):PlD (ts++ [t]) (D.put (ikey t.loc) (thDat t)):=by
 have hm:=ht.isMap
 refine ⟨fun n=>?_,fun n s z hn=>?_,fun n z hn=>?_⟩
 ·
  rw [zfh]
  by_cases e:t.loc=n
  ·
   subst e
   rw [has_put_same hm (isIKey _),if_pos rfl]
   rfl
  rw [has_put_other (zfg (Ne.symm e)),if_neg e,h.has]
 ·
  rw [zfh]at hn
  by_cases e:t.loc=n
  ·
   subst e
   rw [if_pos rfl]at hn
   rw [atKey_put_same hm (isIKey _),Option.some.inj hn]
  rw [if_neg e]at hn
  rw [atKey_put_other (zfg (Ne.symm e)),h.at_ n s z hn]
 rw [zfh]at hn
 by_cases e:t.loc=n
 ·
  rw [if_pos e]at hn
  cases hn
 rw [if_neg e]at hn
 rw [atKey_put_other (zfg (Ne.symm e)),h.no n z hn]
def PlMap (w:World) (b:Nat) (ts:List ThD):Prop:=∃D:DataW Unit,w.ownsMap Tryz.prog 3 thElem b ts.length D/\PlD ts D
theorem PlMap.lt {w:World} {b:Nat} {ts:List ThD} (h:PlMap w b ts):b<w.heap.size:=by
 obtain ⟨D,h,_⟩:=h
 exact h.lt
theorem PlMap.kept {w w':World} {b:Nat} {ts:List ThD} (h:PlMap w b ts) {row:Option Nat} (hg:w.grownBy w' row) (hne:some b≠row):PlMap w' b ts:=by
 obtain ⟨D,h,hd⟩:=h
 exact ⟨D,h.kept hg hne,hd⟩
theorem PlMap.below {B:Nat} {w w':World} {b:Nat} {ts:List ThD} (h:PlMap w b ts) (hb:Below B w w') (hB:b<B):PlMap w' b ts:=by
 obtain ⟨D,⟨es,clock,e,h⟩,hd⟩:=h
 exact ⟨D,⟨es,clock,(hb.block b hB).trans e,h⟩,hd⟩
end Go.Proofs.YtjdnmblggdobgaaGreat
