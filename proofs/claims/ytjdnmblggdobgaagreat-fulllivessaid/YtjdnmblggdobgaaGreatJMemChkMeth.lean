import Derived.Test.YtjdnmblggdobgaaGreatJPlainFine
import Derived.Test.YtjdnmblggdobgaaGreatChecked
import Derived.WalkKit
import Derived.WalkLawsBesides
import Derived.WalkSpells
import Derived.BigQuiet
import Derived.Deep.QuietTactic
import Derived.Defers
import Derived.Recover
import Derived.Deep.LoopGhost
set_option maxHeartbeats 2000000
namespace Go.Proofs.YtjdnmblggdobgaaGreat
open Go.RowKit
theorem mk0 {p:Prop} (h:p):Hid p:=h
def SL {α:Type} (n:Nat) (R:(Nat->Prop)->World->List Value->α->Prop) (M:Nat->Prop) (w:World) (v:Value) (l:List α):Prop:=
 ∃ao cap,v=.slice ao l.length cap/\l.length<=cap/\l.length<=maxLen/\∀k (hk:k<l.length),∃b off cs,ao=some ⟨b,off,none⟩/\M b/\b<w.heap.size/\cs.length=n/\(∀j,j<n->w.cell? ⟨b,off+k*n+j,none⟩=cs[j]?)/\R M w cs l[k]
def RK (_:Nat->Prop) (_:World) (cs:List Value) (k:KindD):Prop:=cs= [.int .i64 k.kind,.string k.cls]/\k.cls.size<=maxLen
def RF (_:Nat->Prop) (_:World) (cs:List Value) (f:FieldD):Prop:=cs= [.string f.name,.int .i64 f.kind.kind,.string f.kind.cls]/\f.name.size<=maxLen/\f.kind.cls.size<=maxLen
def RH (_:Nat->Prop) (_:World) (cs:List Value) (h:HandD):Prop:=cs= [.int .i64 h.frm,.int .i64 h.upto,.int .i64 h.loc,.string h.cls]/\h.cls.size<=maxLen
def RM (M:Nat->Prop) (w:World) (cs:List Value) (m:MethD):Prop:=
 ∃va vh,cs= [.string m.name,.bool m.static,va,.int .i64 m.ret.kind,.string m.ret.cls,.int .i64 m.stack,.int .i64 m.locals,.string m.code,vh]/\SL 2 RK M w va m.args/\SL 4 RH M w vh m.hands/\
  m.name.size<=maxLen/\m.ret.cls.size<=maxLen/\m.code.size<=maxLen
def RC (M:Nat->Prop) (w:World) (cs:List Value) (c:ClassD):Prop:=
 ∃vf vm,cs= [.string c.name,.string c.super,vf,vm]/\SL 3 RF M w vf c.fields/\SL 9 RM M w vm c.meths/\c.name.size<=maxLen/\c.super.size<=maxLen
structure Kp (M:Nat->Prop) (w w':World):Prop where
 size:w.heap.size<=w'.heap.size
 block:∀b,M b->b<w.heap.size->w'.heap[b]? =w.heap[b]?
theorem Kp.below {B:Nat} {w w':World} (h:Below B w w'):Kp (· <B) w w':=⟨h.size,fun b hb _=>h.block b hb⟩
theorem SL.kept {α:Type} {n:Nat} {R:(Nat->Prop)->World->List Value->α->Prop} {M:Nat->Prop} {w w':World} {v:Value} {l:List α} (h:SL n R M w v l) (hk:Kp M w w')
 (hR:∀cs x,R M w cs x->R M w' cs x):SL n R M w' v l:=by
 obtain ⟨ao,cap,rfl,h1,h2,h3⟩:=h
 refine ⟨ao,cap,rfl,h1,h2,fun k hk'=>?_⟩
 obtain ⟨b,off,cs,e,hM,hb,hn,hc,hr⟩:=h3 k hk'
 exact ⟨b,off,cs,e,hM,Nat.lt_of_lt_of_le hb hk.size,hn,fun j hj=>(World.cell?_of_block (a:=⟨b,_,none⟩) (hk.block b hM hb)).trans (hc j hj),hR _ _ hr⟩
theorem SL.mono {α:Type} {n:Nat} {R:(Nat->Prop)->World->List Value->α->Prop} {M M':Nat->Prop} {w:World} {v:Value} {l:List α} (h:SL n R M w v l) (hM:∀b,M b->M' b)
 (hR:∀cs x,R M w cs x->R M' w cs x):SL n R M' w v l:=by
 obtain ⟨ao,cap,rfl,h1,h2,h3⟩:=h
 refine ⟨ao,cap,rfl,h1,h2,fun k hk'=>?_⟩
 obtain ⟨b,off,cs,e,hMb,hb,hn,hc,hr⟩:=h3 k hk'
 exact ⟨b,off,cs,e,hM b hMb,hb,hn,hc,hR _ _ hr⟩
theorem SL.keptK {M:Nat->Prop} {w w':World} {v:Value} {l:List KindD} (h:SL 2 RK M w v l) (hk:Kp M w w'):SL 2 RK M w' v l:=h.kept hk fun _ _ h=>h
theorem SL.keptF {M:Nat->Prop} {w w':World} {v:Value} {l:List FieldD} (h:SL 3 RF M w v l) (hk:Kp M w w'):SL 3 RF M w' v l:=h.kept hk fun _ _ h=>h
theorem SL.keptH {M:Nat->Prop} {w w':World} {v:Value} {l:List HandD} (h:SL 4 RH M w v l) (hk:Kp M w w'):SL 4 RH M w' v l:=h.kept hk fun _ _ h=>h
theorem RM.kept {M:Nat->Prop} {w w':World} {cs:List Value} {m:MethD} (h:RM M w cs m) (hk:Kp M w w'):RM M w' cs m:=by
 obtain ⟨va,vh,e,ha,hh,r⟩:=h
 exact ⟨va,vh,e,ha.keptK hk,hh.keptH hk,r⟩
theorem SL.keptM {M:Nat->Prop} {w w':World} {v:Value} {l:List MethD} (h:SL 9 RM M w v l) (hk:Kp M w w'):SL 9 RM M w' v l:=h.kept hk fun _ _ h=>h.kept hk
theorem RC.kept {M:Nat->Prop} {w w':World} {cs:List Value} {c:ClassD} (h:RC M w cs c) (hk:Kp M w w'):RC M w' cs c:=by
 obtain ⟨va,vh,e,ha,hh,r⟩:=h
 exact ⟨va,vh,e,ha.keptF hk,hh.keptM hk,r⟩
theorem SL.keptC {M:Nat->Prop} {w w':World} {v:Value} {l:List ClassD} (h:SL 4 RC M w v l) (hk:Kp M w w'):SL 4 RC M w' v l:=h.kept hk fun _ _ h=>h.kept hk
theorem SL.monoK {M M':Nat->Prop} {w:World} {v:Value} {l:List KindD} (h:SL 2 RK M w v l) (hM:∀b,M b->M' b):SL 2 RK M' w v l:=h.mono hM fun _ _ h=>h
theorem SL.monoF {M M':Nat->Prop} {w:World} {v:Value} {l:List FieldD} (h:SL 3 RF M w v l) (hM:∀b,M b->M' b):SL 3 RF M' w v l:=h.mono hM fun _ _ h=>h
theorem SL.monoH {M M':Nat->Prop} {w:World} {v:Value} {l:List HandD} (h:SL 4 RH M w v l) (hM:∀b,M b->M' b):SL 4 RH M' w v l:=h.mono hM fun _ _ h=>h
theorem RM.mono {M M':Nat->Prop} {w:World} {cs:List Value} {m:MethD} (h:RM M w cs m) (hM:∀b,M b->M' b):RM M' w cs m:=by
 obtain ⟨va,vh,e,ha,hh,r⟩:=h
 exact ⟨va,vh,e,ha.monoK hM,hh.monoH hM,r⟩
theorem SL.monoM {M M':Nat->Prop} {w:World} {v:Value} {l:List MethD} (h:SL 9 RM M w v l) (hM:∀b,M b->M' b):SL 9 RM M' w v l:=h.mono hM fun _ _ h=>h.mono hM
theorem RC.mono {M M':Nat->Prop} {w:World} {cs:List Value} {c:ClassD} (h:RC M w cs c) (hM:∀b,M b->M' b):RC M' w cs c:=by
 obtain ⟨va,vh,e,ha,hh,r⟩:=h
 exact ⟨va,vh,e,ha.monoF hM,hh.monoM hM,r⟩
theorem SL.monoC {M M':Nat->Prop} {w:World} {v:Value} {l:List ClassD} (h:SL 4 RC M w v l) (hM:∀b,M b->M' b):SL 4 RC M' w v l:=h.mono hM fun _ _ h=>h.mono hM
theorem za8 {w W:World} {b:Nat} (h:w.grownBy W (some b)) (a:Addr) (u:Value) (ha:a.block=b\/w.heap.size<=a.block):w.grownBy (W.setCell a u) (some b):=
 ⟨h.os,h.tape,h.output,by simpa [World.setCell]using h.size,fun k hk hne=>by
  rw [Below.heap_setCell _ _ _ _ (by intro e;subst e;rcases ha with ha | ha;· exact hne (by rw [ha])
                                     ·
                                      omega)]
  exact h.block k hk hne⟩
theorem za9 {w W:World} {b:Nat} (h:w.grownBy W (some b)) (o:Obj):w.grownBy (W.alloc o) (some b):=
 ⟨h.os,h.tape,h.output,Nat.le_trans h.size (by simp),fun k hk hne=>by
  rw [Below.heap_alloc _ _ _ (Nat.lt_of_lt_of_le hk h.size)]
  exact h.block k hk hne⟩
theorem zbh {w w':World} {B:Nat} {e size n:Nat} {v:Value} {xs:List Value} (h:w.ownsRow B e size v n xs) (hb:Below w.heap.size w w'):w'.ownsRow B e size v n xs:=
 h.kept (row:=none) ⟨hb.os,hb.tape,hb.output,hb.size,fun k hk _=>hb.block k hk⟩ (by cases v.ownBlock<;>simp)
theorem bg0 {w W w':World} {b:Nat} (h:Below w.heap.size w W) (hg:W.grownBy w' (some b)) (hb:w.heap.size<=b):Below w.heap.size w w':=
 h.grown hg h.size (fun k e=>by cases e;exact hb)
theorem zbi {w:World} {B B' e size n:Nat} {v:Value} {xs:List Value} (h:w.ownsRow B e size v n xs) (hB:B'<=B):w.ownsRow B' e size v n xs:=by
 refine ⟨h.1,?_⟩
 rcases h.2 with h | ⟨g,cap,cur,h1,h2,h3⟩
 ·
  exact Or.inl h
 exact Or.inr ⟨g,cap,cur,h1,Nat.le_trans hB h2,h3⟩
abbrev wrongV (e p:Int):PanicEntry:={ v:=.iface 164 (.agg #[.int .i64 e,.int .i64 p]),recovered:=false }
def DemOut (b:Bool) (e p:Int) (r:Ending):Prop:=(b=false/\r=.panicked [wrongV e p])\/(b=true/\r=.returned (.tuple #[]))
def ChkOut (e:Int) (r:Ending):Prop:=(e≠0/\r=.panicked [wrongV e 0])\/(e=0/\r=.returned (.tuple #[]))
theorem zbj (w:World) (b:Bool) (e p:Int):
 Calls Tryz.prog 138 #[.bool b,.int .i64 e,.int .i64 p] w fun r w'=>w'=w/\DemOut b e p r:=by
 cases b
 ·
  go_enter Tryz.func138,Tryz.ntmps138
  go_wp2
  exact ⟨rfl,rfl,Or.inl ⟨rfl,rfl⟩⟩
 go_enter Tryz.func138,Tryz.ntmps138
 go_wp2
 go_end0
 exact ⟨rfl,Or.inr ⟨rfl,rfl⟩⟩
theorem dm0 (w:World) (b:Bool) (e:Int):
 Calls Tryz.prog 82 #[.bool b,.int .i64 e] w fun r w'=>w'=w/\DemOut b e 0 r:=by
 go_enter Tryz.func82,Tryz.ntmps82
 go_wp2_with fail
 refine (zbj _ _ _ _).mono ?_
 rintro r w1 ⟨rfl,⟨rfl,rfl⟩ | ⟨rfl,rfl⟩⟩
 ·
  exact ⟨rfl,rfl,Or.inl ⟨rfl,rfl⟩⟩
 go_wp2
 go_end0
 exact ⟨rfl,Or.inr ⟨rfl,rfl⟩⟩
theorem zbk (w:World) (n:Nat):
 Calls Tryz.prog 311 #[.int .u8 n] w fun r w'=>r=.returned (.bool (nameByte n))/\w'=w:=by
 have HN:Hid (nameByte n=nameByte n):=rfl
 rcases (by omega:n<48\/(48<=n/\n<=57)\/(57<n/\n<65)\/(65<=n/\n<=90)\/(90<n/\n<97/\n≠95)\/n=95\/(97<=n/\n<=122)\/122<n)with h | h | h | h | h | h | h | h
 ·
  have hv:nameByte n=false:=by simp [nameByte];omega
  have a1:¬(97:Int)<=n:=by omega
  have a2:¬(65:Int)<=n:=by omega
  have a3:¬(48:Int)<=n:=by omega
  have a4:((n:Int)==95)=false:=by simp;omega
  rw [hv]
  clear hv HN h
  go_enter Tryz.func311,Tryz.ntmps311
  go_wp2
  go_ret
  exact ⟨rfl,rfl⟩
 ·
  have hv:nameByte n=true:=by simp [nameByte];omega
  have a1:¬(97:Int)<=n:=by omega
  have a2:¬(65:Int)<=n:=by omega
  have a3:(48:Int)<=n:=by omega
  have a4:(n:Int)<=57:=by omega
  rw [hv]
  clear hv HN h
  go_enter Tryz.func311,Tryz.ntmps311
  go_wp2
  go_ret
  exact ⟨rfl,rfl⟩
 ·
  have hv:nameByte n=false:=by simp [nameByte];omega
  have a1:¬(97:Int)<=n:=by omega
  have a2:¬(65:Int)<=n:=by omega
  have a3:(48:Int)<=n:=by omega
  have a4:¬(n:Int)<=57:=by omega
  have a5:((n:Int)==95)=false:=by simp;omega
  rw [hv]
  clear hv HN h
  go_enter Tryz.func311,Tryz.ntmps311
  go_wp2
  go_ret
  exact ⟨rfl,rfl⟩
 ·
  have hv:nameByte n=true:=by simp [nameByte];omega
  have a1:¬(97:Int)<=n:=by omega
  have a2:(65:Int)<=n:=by omega
  have a3:(n:Int)<=90:=by omega
  rw [hv]
  clear hv HN h
  go_enter Tryz.func311,Tryz.ntmps311
  go_wp2
  go_ret
  exact ⟨rfl,rfl⟩
 ·
  have hv:nameByte n=false:=by simp [nameByte];omega
  have a1:¬(97:Int)<=n:=by omega
  have a2:(65:Int)<=n:=by omega
  have a3:¬(n:Int)<=90:=by omega
  have a4:(48:Int)<=n:=by omega
  have a5:¬(n:Int)<=57:=by omega
  have a6:((n:Int)==95)=false:=by simp;omega
  rw [hv]
  clear hv HN h
  go_enter Tryz.func311,Tryz.ntmps311
  go_wp2
  go_ret
  exact ⟨rfl,rfl⟩
 ·
  subst h
  go_enter Tryz.func311,Tryz.ntmps311
  go_wp2
  go_ret
  exact ⟨rfl,rfl⟩
 ·
  have hv:nameByte n=true:=by simp [nameByte];omega
  have a1:(97:Int)<=n:=by omega
  have a2:(n:Int)<=122:=by omega
  rw [hv]
  clear hv HN h
  go_enter Tryz.func311,Tryz.ntmps311
  go_wp2
  go_ret
  exact ⟨rfl,rfl⟩
 have hv:nameByte n=false:=by simp [nameByte];omega
 have a1:(97:Int)<=n:=by omega
 have a2:¬(n:Int)<=122:=by omega
 have a3:(65:Int)<=n:=by omega
 have a4:¬(n:Int)<=90:=by omega
 have a5:(48:Int)<=n:=by omega
 have a6:¬(n:Int)<=57:=by omega
 have a7:((n:Int)==95)=false:=by simp;omega
 rw [hv]
 clear hv HN h
 go_enter Tryz.func311,Tryz.ntmps311
 go_wp2
 go_ret
 exact ⟨rfl,rfl⟩
theorem zbl (w:World) (s:ByteArray) (_hs:s.size<=maxLen):
 Calls Tryz.prog 281 #[.string s] w fun r w'=>r=.returned (.bool (isNameB s))/\w'=w:=by
 by_cases h0:s.size<1
 ·
  have HV:Hid (isNameB s=false):=by show isNameB s=false;simp [isNameB];omega
  have a1:(s.size:Int)<1:=by omega
  clear h0
  go_enter Tryz.func281,Tryz.ntmps281
  go_wp2
  go_ret
  exact ⟨by rw [HV.out];rfl,rfl⟩
 by_cases h1:20<s.size
 ·
  have HV:Hid (isNameB s=false):=by show isNameB s=false;simp [isNameB];omega
  have a1:¬(s.size:Int)<1:=by omega
  have a2:(20:Int)<s.size:=by omega
  clear h0 h1
  go_enter Tryz.func281,Tryz.ntmps281
  go_wp2
  go_ret
  exact ⟨by rw [HV.out];rfl,rfl⟩
 have a1:¬(s.size:Int)<1:=by omega
 have a2:¬(20:Int)<s.size:=by omega
 have HV:Hid (isNameB s=nameAll s):=by show isNameB s=nameAll s;simp [isNameB];omega
 go_enter Tryz.func281,Tryz.ntmps281
 go_wp2
 go_loop [14] (fun i=>∃k:Nat,k<=s.size/\i=.int .i64 k/\∀j,j<k->nameByte (bt s j)=true) (fun i=>s.size - (intOf i).toNat)
 case atStart=>exact ⟨0,Nat.zero_le _,rfl,fun j hj=>by omega⟩
 case round=>
  obtain ⟨k,hk,rfl,HK⟩:=hrel
  by_cases hlt:k<s.size
  ·
   have eb:(s[k].toNat)=bt s k:=(bt_eq s k hlt).symm
   go_wp2_with fail
   refine (zbk _ _).mono ?_
   rintro r w1 ⟨rfl,rfl⟩
   cases hb:nameByte (bt s k)
   ·
    have HN:Hid (nameAll s=false):=zan hlt hb
    go_wp2
    go_ret
    exact ⟨by rw [HV.out,HN.out];rfl,rfl⟩
   go_wp2
   go_round
   case rel=>exact ⟨k+1,by omega,by go_num,fun j hj=>if hjk:j=k then hjk ▸ hb else HK j (by omega)⟩
   case measure=>simp [intOf];omega
  have HN:Hid (nameAll s=true):=zao fun i hi=>HK i (by omega)
  go_wp2
  go_ret
  exact ⟨by rw [HV.out,HN.out];rfl,rfl⟩
theorem size0 (s:ByteArray):s.toList.isEmpty=decide (s.size=0):=by
 rw [ByteArray.toList_eq]
 obtain ⟨⟨l⟩⟩:=s
 cases l<;>rfl
theorem zbm (w:World) (n m:Int):
 Calls Tryz.prog 313 #[.int .i64 n,.int .i64 m] w fun r w'=>r=.returned (.bool (win n m))/\w'=w:=by
 by_cases h0:0<=n
 ·
  by_cases h1:n<=m
  ·
   go_enter Tryz.func313,Tryz.ntmps313
   go_wp2
   go_ret
   simp [win,h0,h1]
  go_enter Tryz.func313,Tryz.ntmps313
  go_wp2
  go_ret
  simp [win,h1]
 go_enter Tryz.func313,Tryz.ntmps313
 go_wp2
 go_ret
 simp [win];omega
theorem zbn (w:World) (n:Int):
 Calls Tryz.prog 312 #[.int .i64 n] w fun r w'=>r=.returned (.bool (hasCls n))/\w'=w:=by
 by_cases h0:n=3
 ·
  subst h0
  go_enter Tryz.func312,Tryz.ntmps312
  go_wp2
  go_ret
  exact ⟨rfl,rfl⟩
 have HH:Hid (hasCls n=decide (n=4)):=by show hasCls n=_;simp [hasCls,h0]
 have hb:(n==3)=false:=by simp [h0]
 clear h0
 go_enter Tryz.func312,Tryz.ntmps312
 go_wp2
 go_ret
 exact ⟨by rw [HH.out];rfl,rfl⟩
theorem zbo (w:World) (k:KindD) (hs:k.cls.size<=maxLen):
 Calls Tryz.prog 282 #[.agg #[.int .i64 k.kind,.string k.cls]] w fun r w'=>r=.returned (.bool (rightB k))/\Below w.heap.size w w':=by
 obtain ⟨n,s⟩:=k
 dsimp only at*
 have hb:=fun o=>(Below.refl w.heap.size w).alloc (Nat.le_refl _) o
 have HR:Hid (rightB ⟨n,s⟩=if hasCls n=true then isNameB s else (decide (n=1)||decide (n=2))&&decide (s.size=0)):=rfl
 go_enter Tryz.func282,Tryz.ntmps282
 go_wp2_with fail
 refine (zbn _ _).mono ?_
 rintro r w1 ⟨rfl,rfl⟩
 cases hc:hasCls n
 ·
  have HC:=mk0 hc
  clear hc
  have e0:=size0 s
  by_cases h1:n=1
  ·
   subst h1
   go_wp2
   go_ret
   refine ⟨by rw [HR.out,HC.out];simp,hb _⟩
  have b1:(n==1)=false:=by simp [h1]
  by_cases h2:n=2
  ·
   subst h2
   go_wp2
   go_ret
   refine ⟨by rw [HR.out,HC.out];simp,hb _⟩
  have b2:(n==2)=false:=by simp [h2]
  have HD:Hid ((decide (n=1)||decide (n=2))=false):=by show _=_;simp [h1,h2]
  clear h1 h2
  go_wp2
  go_ret
  refine ⟨by rw [HR.out,HC.out,HD.out];simp,hb _⟩
 have HC:=mk0 hc
 clear hc
 go_wp2_with fail
 refine (zbl _ _ hs).mono ?_
 rintro r w1 ⟨rfl,rfl⟩
 go_wp2
 go_ret
 refine ⟨by rw [HR.out,HC.out];simp,hb _⟩
theorem zbp (w:World) (k:KindD) (hs:k.cls.size<=maxLen):
 Calls Tryz.prog 314 #[.agg #[.int .i64 k.kind,.string k.cls]] w fun r w'=>r=.returned (.bool (returnedB k))/\Below w.heap.size w w':=by
 obtain ⟨n,s⟩:=k
 dsimp only at*
 have hb:=(Below.refl w.heap.size w).alloc (Nat.le_refl _) (.cells #[.int .i64 n,.string s] 123)
 have HR:Hid (returnedB ⟨n,s⟩=(rightB ⟨n,s⟩||(decide (n=0)&&decide (s.size=0)))):=rfl
 go_enter Tryz.func314,Tryz.ntmps314
 go_wp2_with fail
 refine (zbo _ ⟨n,s⟩ hs).mono ?_
 rintro r w1 ⟨rfl,hb1⟩
 have c0:w1.cell? ⟨w.heap.size,0,none⟩=some (.int .i64 n):=(hb1.cell (p:=⟨w.heap.size,0,none⟩) (by simp)).trans (by simp [go_sem])
 have c1:w1.cell? ⟨w.heap.size,1,none⟩=some (.string s):=(hb1.cell (p:=⟨w.heap.size,1,none⟩) (by simp)).trans (by simp [go_sem])
 have hb2:Below w.heap.size w w1:=hb.trans (hb1.mono (by simp))
 clear hb hb1
 generalize rightB ⟨n,s⟩=rb at*
 have e0:=size0 s
 cases rb
 ·
  by_cases h1:n=0
  ·
   subst h1
   go_wp2
   go_ret
   refine ⟨by rw [HR.out];simp,hb2⟩
  have b1:(n==0)=false:=by simp [h1]
  have HD:Hid (decide (n=0)=false):=by show _=_;simp [h1]
  clear h1
  go_wp2
  go_ret
  refine ⟨by rw [HR.out,HD.out];simp,hb2⟩
 go_wp2
 go_ret
 refine ⟨by rw [HR.out];simp,hb2⟩
theorem zbq {c e:Int} (h:c=e) (he:e≠0):ChkOut c (.panicked [wrongV e 0]):=Or.inl ⟨by rw [h];exact he,by rw [h]⟩
theorem zbr {c:Int} (h:c=0):ChkOut c (.returned (.tuple #[])):=Or.inr ⟨h,rfl⟩
theorem zbs (w:World) (h:HandD) (hs:h.cls.size<=maxLen):
 Calls Tryz.prog 315 #[.agg #[.int .i64 h.frm,.int .i64 h.upto,.int .i64 h.loc,.string h.cls]] w fun r w'=>ChkOut (checkHand h) r/\Below w.heap.size w w':=by
 obtain ⟨a,b,c,s⟩:=h
 dsimp only at*
 have hB:=(Below.refl w.heap.size w).alloc (Nat.le_refl _) (.cells #[.int .i64 a,.int .i64 b,.int .i64 c,.string s] 248)
 have HX:Hid (checkHand ⟨a,b,c,s⟩=dem (isNameB s) 1 (dem (win a 200) 3 (dem (win b 200) 3 (dem (win c 200) 3 0)))):=rfl
 go_enter Tryz.func315,Tryz.ntmps315
 go_wp2_with fail
 refine (zbl _ _ hs).mono ?_
 rintro r w1 ⟨rfl,rfl⟩
 go_wp2_with fail
 refine (dm0 _ _ _).mono ?_
 rintro r w1 ⟨rfl,⟨hb,rfl⟩ | ⟨hb,rfl⟩⟩
 ·
  exact ⟨rfl,zbq (by rw [HX.out,hb,zaq]) (by decide),hB⟩
 have HX1:=mk0 (HX.out.trans (by rw [hb,zap]))
 clear hb HX
 go_wp2_with fail
 refine (zbm _ _ _).mono ?_
 rintro r w1 ⟨rfl,rfl⟩
 go_wp2_with fail
 refine (dm0 _ _ _).mono ?_
 rintro r w1 ⟨rfl,⟨hb,rfl⟩ | ⟨hb,rfl⟩⟩
 ·
  exact ⟨rfl,zbq (by rw [HX1.out,hb,zaq]) (by decide),hB⟩
 have HX2:=mk0 (HX1.out.trans (by rw [hb,zap]))
 clear hb HX1
 go_wp2_with fail
 refine (zbm _ _ _).mono ?_
 rintro r w1 ⟨rfl,rfl⟩
 go_wp2_with fail
 refine (dm0 _ _ _).mono ?_
 rintro r w1 ⟨rfl,⟨hb,rfl⟩ | ⟨hb,rfl⟩⟩
 ·
  exact ⟨rfl,zbq (by rw [HX2.out,hb,zaq]) (by decide),hB⟩
 have HX3:=mk0 (HX2.out.trans (by rw [hb,zap]))
 clear hb HX2
 go_wp2_with fail
 refine (zbm _ _ _).mono ?_
 rintro r w1 ⟨rfl,rfl⟩
 go_wp2_with fail
 refine (dm0 _ _ _).mono ?_
 rintro r w1 ⟨rfl,⟨hb,rfl⟩ | ⟨hb,rfl⟩⟩
 ·
  exact ⟨rfl,zbq (by rw [HX3.out,hb,zaq]) (by decide),hB⟩
 have HX4:=mk0 (HX3.out.trans (by rw [hb,zap]))
 clear hb HX3
 go_wp2
 go_end0
 exact ⟨zbr HX4.out,hB⟩
theorem SL.at {α:Type} {n:Nat} {R:(Nat->Prop)->World->List Value->α->Prop} {M:Nat->Prop} {w:World} {ao:Option Addr} {len cap:Nat} {l:List α} (h:SL n R M w (.slice ao len cap) l) (k:Nat) (hk:k<l.length):
 ∃b off cs,ao=some ⟨b,off,none⟩/\M b/\b<w.heap.size/\cs.length=n/\(∀j,j<n->w.cell? ⟨b,off+k*n+j,none⟩=cs[j]?)/\R M w cs l[k]:=by
 obtain ⟨ao',cap',e,_,_,h3⟩:=h
 cases e
 exact h3 k hk
theorem SL.atK {M:Nat->Prop} {w:World} {ao:Option Addr} {len cap:Nat} {l:List KindD} (h:SL 2 RK M w (.slice ao len cap) l) (k:Nat) (hk:k<l.length):
 ∃b off,ao=some ⟨b,off,none⟩/\b<w.heap.size/\w.cell? ⟨b,off+k*2,none⟩=some (.int .i64 l[k].kind)/\w.cell? ⟨b,off+k*2+1,none⟩=some (.string l[k].cls)/\l[k].cls.size<=maxLen:=by
 obtain ⟨b,off,cs,e,_,hb,_,hc,rfl,hs⟩:=h.at k hk
 exact ⟨b,off,e,hb,hc 0 (by omega),hc 1 (by omega),hs⟩
theorem SL.atF {M:Nat->Prop} {w:World} {ao:Option Addr} {len cap:Nat} {l:List FieldD} (h:SL 3 RF M w (.slice ao len cap) l) (k:Nat) (hk:k<l.length):
 ∃b off,ao=some ⟨b,off,none⟩/\b<w.heap.size/\w.cell? ⟨b,off+k*3,none⟩=some (.string l[k].name)/\w.cell? ⟨b,off+k*3+1,none⟩=some (.int .i64 l[k].kind.kind)/\w.cell? ⟨b,off+k*3+2,none⟩=some (.string l[k].kind.cls)/\l[k].name.size<=maxLen/\l[k].kind.cls.size<=maxLen:=by
 obtain ⟨b,off,cs,e,_,hb,_,hc,rfl,hs⟩:=h.at k hk
 exact ⟨b,off,e,hb,hc 0 (by omega),hc 1 (by omega),hc 2 (by omega),hs⟩
theorem SL.atH {M:Nat->Prop} {w:World} {ao:Option Addr} {len cap:Nat} {l:List HandD} (h:SL 4 RH M w (.slice ao len cap) l) (k:Nat) (hk:k<l.length):
 ∃b off,ao=some ⟨b,off,none⟩/\b<w.heap.size/\w.cell? ⟨b,off+k*4,none⟩=some (.int .i64 l[k].frm)/\w.cell? ⟨b,off+k*4+1,none⟩=some (.int .i64 l[k].upto)/\w.cell? ⟨b,off+k*4+2,none⟩=some (.int .i64 l[k].loc)/\w.cell? ⟨b,off+k*4+3,none⟩=some (.string l[k].cls)/\l[k].cls.size<=maxLen:=by
 obtain ⟨b,off,cs,e,_,hb,_,hc,rfl,hs⟩:=h.at k hk
 exact ⟨b,off,e,hb,hc 0 (by omega),hc 1 (by omega),hc 2 (by omega),hc 3 (by omega),hs⟩
theorem SL.atM {M:Nat->Prop} {w:World} {ao:Option Addr} {len cap:Nat} {l:List MethD} (h:SL 9 RM M w (.slice ao len cap) l) (k:Nat) (hk:k<l.length):
 ∃b off va vh,ao=some ⟨b,off,none⟩/\b<w.heap.size/\w.cell? ⟨b,off+k*9,none⟩=some (.string l[k].name)/\w.cell? ⟨b,off+k*9+1,none⟩=some (.bool l[k].static)/\w.cell? ⟨b,off+k*9+2,none⟩=some va/\
  w.cell? ⟨b,off+k*9+3,none⟩=some (.int .i64 l[k].ret.kind)/\w.cell? ⟨b,off+k*9+4,none⟩=some (.string l[k].ret.cls)/\w.cell? ⟨b,off+k*9+5,none⟩=some (.int .i64 l[k].stack)/\w.cell? ⟨b,off+k*9+6,none⟩=some (.int .i64 l[k].locals)/\
  w.cell? ⟨b,off+k*9+7,none⟩=some (.string l[k].code)/\w.cell? ⟨b,off+k*9+8,none⟩=some vh/\SL 2 RK M w va l[k].args/\SL 4 RH M w vh l[k].hands/\l[k].name.size<=maxLen/\l[k].ret.cls.size<=maxLen/\l[k].code.size<=maxLen:=by
 obtain ⟨b,off,cs,e,_,hb,_,hc,va,vh,rfl,hs⟩:=h.at k hk
 exact ⟨b,off,va,vh,e,hb,hc 0 (by omega),hc 1 (by omega),hc 2 (by omega),hc 3 (by omega),hc 4 (by omega),hc 5 (by omega),hc 6 (by omega),hc 7 (by omega),hc 8 (by omega),hs⟩
theorem SL.atC {M:Nat->Prop} {w:World} {ao:Option Addr} {len cap:Nat} {l:List ClassD} (h:SL 4 RC M w (.slice ao len cap) l) (k:Nat) (hk:k<l.length):
 ∃b off vf vm,ao=some ⟨b,off,none⟩/\b<w.heap.size/\w.cell? ⟨b,off+k*4,none⟩=some (.string l[k].name)/\w.cell? ⟨b,off+k*4+1,none⟩=some (.string l[k].super)/\w.cell? ⟨b,off+k*4+2,none⟩=some vf/\
  w.cell? ⟨b,off+k*4+3,none⟩=some vm/\SL 3 RF M w vf l[k].fields/\SL 9 RM M w vm l[k].meths/\l[k].name.size<=maxLen/\l[k].super.size<=maxLen:=by
 obtain ⟨b,off,cs,e,_,hb,_,hc,va,vh,rfl,hs⟩:=h.at k hk
 exact ⟨b,off,va,vh,e,hb,hc 0 (by omega),hc 1 (by omega),hc 2 (by omega),hc 3 (by omega),hs⟩
theorem zbt {k:KindD} (h:rightB k=false):checkArg k=7:=by rw [checkArg,h,zaq]
theorem zbu {k:KindD} (h:rightB k=true):checkArg k=0:=by rw [checkArg,h,zap]
theorem zbv {r:Int} :thenE 0 r=r:=rfl
theorem zbw {e r:Int} (h:e≠0):thenE e r=e:=by rw [thenE,if_neg h]
theorem zbx (w:World) (B:Nat) (m:MethD) (va vh:Value) (ha:SL 2 RK (· <B) w va m.args) (hh:SL 4 RH (· <B) w vh m.hands) (hB:B<=w.heap.size) (hs1:m.name.size<=maxLen) (hs2:m.ret.cls.size<=maxLen):
 Calls Tryz.prog 283 #[.agg #[.string m.name,.bool m.static,va,.int .i64 m.ret.kind,.string m.ret.cls,.int .i64 m.stack,.int .i64 m.locals,.string m.code,vh]] w fun r w'=>ChkOut (checkMeth m) r/\Below w.heap.size w w':=by
 obtain ⟨name,static,args,⟨rk,rc⟩,stack,locals,code,hands⟩:=m
 dsimp only at*
 have HA:=mk0 ha
 have HH:=mk0 hh
 obtain ⟨ao,ca,rfl,hca,hla,_⟩:=ha
 obtain ⟨ho,ch,rfl,hch,hlh,_⟩:=hh
 unfold maxLen at hla hlh
 have HX0:Hid (checkMeth ⟨name,static,args,⟨rk,rc⟩,stack,locals,code,hands⟩=dem (isNameB name) 1 (dem (decide (args.length<=4)) 2 (dem (decide (code.size<=200)) 2 (dem (decide (hands.length<=4)) 2 (dem (win stack 10) 3 (dem (win locals 10) 3 (thenE (allE checkArg args) (dem (returnedB ⟨rk,rc⟩) 7 (allE checkHand hands))))))))):=rfl
 generalize checkMeth ⟨name,static,args,⟨rk,rc⟩,stack,locals,code,hands⟩=X at*
 go_enter Tryz.func283,Tryz.ntmps283
 go_wp2_with fail
 generalize hW:w.alloc (.cells #[.string name,.bool static,.slice ao args.length ca,.int .i64 rk,.string rc,.int .i64 stack,.int .i64 locals,.string code,.slice ho hands.length ch] 159)=W0
 have hz:W0.heap.size=w.heap.size+1:=by rw [<-hW];simp
 have hB0:Below w.heap.size w W0:=by rw [<-hW];exact (Below.refl w.heap.size w).alloc (Nat.le_refl _) _
 have c0:W0.cell? ⟨w.heap.size,0,none⟩=some (.string name):=by rw [<-hW];simp [go_sem]
 have c1:W0.cell? ⟨w.heap.size,1,none⟩=some (.bool static):=by rw [<-hW];simp [go_sem]
 have c2:W0.cell? ⟨w.heap.size,2,none⟩=some (.slice ao args.length ca):=by rw [<-hW];simp [go_sem]
 have c3:W0.cell? ⟨w.heap.size,3,none⟩=some (.int .i64 rk):=by rw [<-hW];simp [go_sem]
 have c4:W0.cell? ⟨w.heap.size,4,none⟩=some (.string rc):=by rw [<-hW];simp [go_sem]
 have c5:W0.cell? ⟨w.heap.size,5,none⟩=some (.int .i64 stack):=by rw [<-hW];simp [go_sem]
 have c6:W0.cell? ⟨w.heap.size,6,none⟩=some (.int .i64 locals):=by rw [<-hW];simp [go_sem]
 have c7:W0.cell? ⟨w.heap.size,7,none⟩=some (.string code):=by rw [<-hW];simp [go_sem]
 have c8:W0.cell? ⟨w.heap.size,8,none⟩=some (.slice ho hands.length ch):=by rw [<-hW];simp [go_sem]
 clear hW
 refine (zbl _ _ hs1).mono ?_
 rintro r w1 ⟨rfl,rfl⟩
 go_wp2_with fail
 refine (dm0 _ _ _).mono ?_
 rintro r w1 ⟨rfl,⟨hb,rfl⟩ | ⟨hb,rfl⟩⟩
 ·
  exact ⟨rfl,zbq (by rw [HX0.out,hb,zaq]) (by decide),hB0⟩
 have HX1:=mk0 (HX0.out.trans (by rw [hb,zap]))
 clear hb HX0
 by_cases hq:args.length<=4
 rotate_left
 ·
  have hq':¬(args.length:Int)<=4:=by omega
  go_wp2_with fail
  refine (dm0 _ _ _).mono ?_
  rintro r w1 ⟨rfl,⟨hb,rfl⟩ | ⟨hb,rfl⟩⟩
  ·
   exact ⟨rfl,zbq (by rw [HX1.out,decide_eq_false hq,zaq]) (by decide),hB0⟩
  exact absurd hb (by first | (simp;done) | (simp;omega))
 have hq2:(args.length:Int)<=4:=by omega
 have HX2:=mk0 (HX1.out.trans (by rw [decide_eq_true hq,zap]))
 clear hq HX1
 go_wp2_with fail
 refine (dm0 _ _ _).mono ?_
 rintro r w1 ⟨rfl,⟨hb,rfl⟩ | ⟨hb,rfl⟩⟩
 ·
  exact absurd hb (by simp)
 clear hb
 by_cases hq:code.size<=200
 rotate_left
 ·
  have hq':¬(code.size:Int)<=200:=by omega
  go_wp2_with fail
  refine (dm0 _ _ _).mono ?_
  rintro r w1 ⟨rfl,⟨hb,rfl⟩ | ⟨hb,rfl⟩⟩
  ·
   exact ⟨rfl,zbq (by rw [HX2.out,decide_eq_false hq,zaq]) (by decide),hB0⟩
  exact absurd hb (by first | (simp;done) | (simp;omega))
 have hq3:(code.size:Int)<=200:=by omega
 have HX3:=mk0 (HX2.out.trans (by rw [decide_eq_true hq,zap]))
 clear hq HX2
 go_wp2_with fail
 refine (dm0 _ _ _).mono ?_
 rintro r w1 ⟨rfl,⟨hb,rfl⟩ | ⟨hb,rfl⟩⟩
 ·
  exact absurd hb (by simp)
 clear hb
 by_cases hq:hands.length<=4
 rotate_left
 ·
  have hq':¬(hands.length:Int)<=4:=by omega
  go_wp2_with fail
  refine (dm0 _ _ _).mono ?_
  rintro r w1 ⟨rfl,⟨hb,rfl⟩ | ⟨hb,rfl⟩⟩
  ·
   exact ⟨rfl,zbq (by rw [HX3.out,decide_eq_false hq,zaq]) (by decide),hB0⟩
  exact absurd hb (by first | (simp;done) | (simp;omega))
 have hq4:(hands.length:Int)<=4:=by omega
 have HX4:=mk0 (HX3.out.trans (by rw [decide_eq_true hq,zap]))
 clear hq HX3
 go_wp2_with fail
 refine (dm0 _ _ _).mono ?_
 rintro r w1 ⟨rfl,⟨hb,rfl⟩ | ⟨hb,rfl⟩⟩
 ·
  exact absurd hb (by simp)
 clear hb
 go_wp2_with fail
 refine (zbm _ _ _).mono ?_
 rintro r w1 ⟨rfl,rfl⟩
 go_wp2_with fail
 refine (dm0 _ _ _).mono ?_
 rintro r w1 ⟨rfl,⟨hb,rfl⟩ | ⟨hb,rfl⟩⟩
 ·
  exact ⟨rfl,zbq (by rw [HX4.out,hb,zaq]) (by decide),hB0⟩
 have HX5:=mk0 (HX4.out.trans (by rw [hb,zap]))
 clear hb HX4
 go_wp2_with fail
 refine (zbm _ _ _).mono ?_
 rintro r w1 ⟨rfl,rfl⟩
 go_wp2_with fail
 refine (dm0 _ _ _).mono ?_
 rintro r w1 ⟨rfl,⟨hb,rfl⟩ | ⟨hb,rfl⟩⟩
 ·
  exact ⟨rfl,zbq (by rw [HX5.out,hb,zaq]) (by decide),hB0⟩
 have HX6:=mk0 (HX5.out.trans (by rw [hb,zap]))
 clear hb HX5
 go_wp2_with fail
 go_loopw [36] (fun i wr=>∃k:Nat,k<=args.length/\i=.int .i64 k/\Hid (allE checkArg (args.drop k)=allE checkArg args)/\Below (w.heap.size+1) w1 wr) (fun i _=>args.length - (intOf i).toNat)
 case atStart=>exact ⟨0,Nat.zero_le _,rfl,rfl,Below.refl _ _⟩
 case round=>
  obtain ⟨k,hk,rfl,HP,hBr⟩:=hrel
  have hsz:w.heap.size+1<=wr.heap.size:=by have:=hBr.size;omega
  by_cases hlt:k<args.length
  ·
   obtain ⟨b,off,rfl,hbl,e0,e1,es⟩:=(HA.out.keptK (Kp.below ((hB0.trans (hBr.mono (by omega))).mono hB))).atK k hlt
   have hBa:=hBr.alloc hsz (.cells #[.int .i64 args[k].kind,.string args[k].cls] 123)
   go_wp2_with fail
   refine (zbo _ args[k] es).mono ?_
   rintro r w2 ⟨rfl,hb2⟩
   have hBs:=hBa.trans (hb2.mono (by simp;omega))
   clear hb2 hBa e0 e1
   go_wp2_with fail
   refine (dm0 _ _ _).mono ?_
   rintro r w3 ⟨rfl,⟨hb,rfl⟩ | ⟨hb,rfl⟩⟩
   ·
    refine ⟨rfl,zbq (e:=7) ?_ (by decide),hB0.trans (hBs.mono (by omega))⟩
    rw [HX6.out,<-HP.out,zar hlt (by rw [zbt hb];decide),zbt hb,zbw (by decide)]
   have HB:=mk0 (zbu hb)
   clear hb
   go_wp2_with fail
   go_roundw
   case rel=>exact ⟨k+1,by omega,by go_num,(zas hlt HB.out).symm.trans HP.out,hBs⟩
   case measure=>simp [intOf];omega
  have HX7:=mk0 (HX6.out.trans (by rw [<-HP.out,zat hlt,zbv]))
  have d3:=(hBr.cell (p:=⟨w.heap.size,3,none⟩) (by simp)).trans c3
  have d4:=(hBr.cell (p:=⟨w.heap.size,4,none⟩) (by simp)).trans c4
  clear HP HX6
  go_wp2_with fail
  refine (zbp _ ⟨rk,rc⟩ hs2).mono ?_
  rintro r w2 ⟨rfl,hb2⟩
  have hBs:=hBr.trans (hb2.mono (by omega))
  clear hb2 hBr d3 d4
  go_wp2_with fail
  refine (dm0 _ _ _).mono ?_
  rintro r w3 ⟨rfl,⟨hb,rfl⟩ | ⟨hb,rfl⟩⟩
  ·
   exact ⟨rfl,zbq (by rw [HX7.out,hb,zaq]) (by decide),hB0.trans (hBs.mono (by omega))⟩
  have HX8:=mk0 (HX7.out.trans (by rw [hb,zap]))
  clear hb HX7
  have d8:=(hBs.cell (p:=⟨w.heap.size,8,none⟩) (by simp)).trans c8
  go_wp2_with fail
  go_loopw [51] (fun i wr=>∃k:Nat,k<=hands.length/\i=.int .i64 k/\Hid (allE checkHand (hands.drop k)=allE checkHand hands)/\Below (w.heap.size+1) w1 wr) (fun i _=>hands.length - (intOf i).toNat)
  case atStart=>exact ⟨0,Nat.zero_le _,rfl,rfl,hBs⟩
  case round=>
   obtain ⟨k,hk,rfl,HP,hBr⟩:=hrel
   have hsz:w.heap.size+1<=wr.heap.size:=by have:=hBr.size;omega
   by_cases hlt:k<hands.length
   ·
    obtain ⟨b,off,rfl,hbl,e0,e1,e2,e3,es⟩:=(HH.out.keptH (Kp.below ((hB0.trans (hBr.mono (by omega))).mono hB))).atH k hlt
    have hBa:=hBr.alloc hsz (.cells #[.int .i64 hands[k].frm,.int .i64 hands[k].upto,.int .i64 hands[k].loc,.string hands[k].cls] 248)
    go_wp2_with fail
    refine (zbs _ hands[k] es).mono ?_
    rintro r w2 ⟨hr,hb2⟩
    have hBs:=hBa.trans (hb2.mono (by simp;omega))
    clear hb2 hBa e0 e1 e2 e3
    rcases hr with ⟨hc,rfl⟩ | ⟨hc,rfl⟩
    ·
     refine ⟨rfl,zbq ?_ hc,hB0.trans (hBs.mono (by omega))⟩
     rw [HX8.out,<-HP.out,zar hlt hc]
    have HB:=mk0 hc
    clear hc
    go_wp2_with fail
    go_roundw
    case rel=>exact ⟨k+1,by omega,by go_num,(zas hlt HB.out).symm.trans HP.out,hBs⟩
    case measure=>simp [intOf];omega
   go_wp2_with fail
   go_end0
   exact ⟨zbr (by rw [HX8.out,<-HP.out,zat hlt]),hB0.trans (hBr.mono (by omega))⟩
end Go.Proofs.YtjdnmblggdobgaaGreat
