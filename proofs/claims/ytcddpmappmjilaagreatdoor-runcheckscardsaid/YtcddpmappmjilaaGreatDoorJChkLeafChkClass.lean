import Derived.Test.YtcddpmappmjilaaGreatDoorJPlainMem
namespace Go.Proofs.YtcddpmappmjilaaGreatDoor
open Go.RowKit
abbrev wrongV (e p:Int):PanicEntry:={ v:=.iface 87 (.agg #[.int .i64 e,.int .i64 p]),recovered:=false }
def DemOut (b:Bool) (e p:Int) (r:Ending):Prop:=(b=false/\r=.panicked [wrongV e p])\/(b=true/\r=.returned (.tuple #[]))
def ChkOut (e:Int) (r:Ending):Prop:=(e≠0/\r=.panicked [wrongV e 0])\/(e=0/\r=.returned (.tuple #[]))
theorem demandAt_any (w:World) (b:Bool) (e p:Int):
 Calls Tryz.prog 42 #[.bool b,.int .i64 e,.int .i64 p] w fun r w'=>w'=w/\DemOut b e p r:=by
 cases b
 ·
  go_enter Tryz.func42,Tryz.ntmps42
  go_wp2
  exact ⟨rfl,rfl,Or.inl ⟨rfl,rfl⟩⟩
 go_enter Tryz.func42,Tryz.ntmps42
 go_wp2
 go_end0
 exact ⟨rfl,Or.inr ⟨rfl,rfl⟩⟩
theorem demand_any (w:World) (b:Bool) (e:Int):
 Calls Tryz.prog 25 #[.bool b,.int .i64 e] w fun r w'=>w'=w/\DemOut b e 0 r:=by
 go_enter Tryz.func25,Tryz.ntmps25
 go_wp2_with fail
 refine (demandAt_any _ _ _ _).mono ?_
 rintro r w1 ⟨rfl,⟨rfl,rfl⟩ | ⟨rfl,rfl⟩⟩
 ·
  exact ⟨rfl,rfl,Or.inl ⟨rfl,rfl⟩⟩
 go_wp2
 go_end0
 exact ⟨rfl,Or.inr ⟨rfl,rfl⟩⟩
set_option maxHeartbeats 1000000 in
theorem isNameByte_any (w:World) (n:Nat):
 Calls Tryz.prog 290 #[.int .u8 n] w fun r w'=>r=.returned (.bool (nameByte n))/\w'=w:=by
 have HN:Hid (nameByte n=nameByte n):=rfl
 rcases (by omega:n<48\/(48<=n/\n<=57)\/(57<n/\n<65)\/(65<=n/\n<=90)\/(90<n/\n<97/\n≠95)\/n=95\/(97<=n/\n<=122)\/122<n)with h | h | h | h | h | h | h | h
 ·
  have hv:nameByte n=false:=by simp [nameByte];omega
  have a1:¬(97:Int)<=n:=by omega
  have a2:¬(65:Int)<=n:=by omega
  have a3:¬(48:Int)<=n:=by omega
  have a4:((n:Int)==95)=false:=by simp;omega
  rw [hv]
  clear hv HN h
  go_enter Tryz.func290,Tryz.ntmps290
  go_wp2
  go_ret
  exact ⟨rfl,rfl⟩
 ·
  have hv:nameByte n=true:=by simp [nameByte];omega
  have a1:¬(97:Int)<=n:=by omega
  have a2:¬(65:Int)<=n:=by omega
  have a3:(48:Int)<=n:=by omega
  have a4:(n:Int)<=57:=by omega
  rw [hv]
  clear hv HN h
  go_enter Tryz.func290,Tryz.ntmps290
  go_wp2
  go_ret
  exact ⟨rfl,rfl⟩
 ·
  have hv:nameByte n=false:=by simp [nameByte];omega
  have a1:¬(97:Int)<=n:=by omega
  have a2:¬(65:Int)<=n:=by omega
  have a3:(48:Int)<=n:=by omega
  have a4:¬(n:Int)<=57:=by omega
  have a5:((n:Int)==95)=false:=by simp;omega
  rw [hv]
  clear hv HN h
  go_enter Tryz.func290,Tryz.ntmps290
  go_wp2
  go_ret
  exact ⟨rfl,rfl⟩
 ·
  have hv:nameByte n=true:=by simp [nameByte];omega
  have a1:¬(97:Int)<=n:=by omega
  have a2:(65:Int)<=n:=by omega
  have a3:(n:Int)<=90:=by omega
  rw [hv]
  clear hv HN h
  go_enter Tryz.func290,Tryz.ntmps290
  go_wp2
  go_ret
  exact ⟨rfl,rfl⟩
 ·
  have hv:nameByte n=false:=by simp [nameByte];omega
  have a1:¬(97:Int)<=n:=by omega
  have a2:(65:Int)<=n:=by omega
  have a3:¬(n:Int)<=90:=by omega
  have a4:(48:Int)<=n:=by omega
  have a5:¬(n:Int)<=57:=by omega
  have a6:((n:Int)==95)=false:=by simp;omega
  rw [hv]
  clear hv HN h
  go_enter Tryz.func290,Tryz.ntmps290
  go_wp2
  go_ret
  exact ⟨rfl,rfl⟩
 ·
  subst h
  go_enter Tryz.func290,Tryz.ntmps290
  go_wp2
  go_ret
  exact ⟨rfl,rfl⟩
 ·
  have hv:nameByte n=true:=by simp [nameByte];omega
  have a1:(97:Int)<=n:=by omega
  have a2:(n:Int)<=122:=by omega
  rw [hv]
  clear hv HN h
  go_enter Tryz.func290,Tryz.ntmps290
  go_wp2
  go_ret
  exact ⟨rfl,rfl⟩
 have hv:nameByte n=false:=by simp [nameByte];omega
 have a1:(97:Int)<=n:=by omega
 have a2:¬(n:Int)<=122:=by omega
 have a3:(65:Int)<=n:=by omega
 have a4:¬(n:Int)<=90:=by omega
 have a5:(48:Int)<=n:=by omega
 have a6:¬(n:Int)<=57:=by omega
 have a7:((n:Int)==95)=false:=by simp;omega
 rw [hv]
 clear hv HN h
 go_enter Tryz.func290,Tryz.ntmps290
 go_wp2
 go_ret
 exact ⟨rfl,rfl⟩
set_option maxHeartbeats 400000 in
theorem isName_any (w:World) (s:ByteArray) (_hs:s.size<=maxLen):
 Calls Tryz.prog 215 #[.string s] w fun r w'=>r=.returned (.bool (isNameB s))/\w'=w:=by
 by_cases h0:s.size<1
 ·
  have HV:Hid (isNameB s=false):=by show isNameB s=false;simp [isNameB];omega
  have a1:(s.size:Int)<1:=by omega
  clear h0
  go_enter Tryz.func215,Tryz.ntmps215
  go_wp2
  go_ret
  exact ⟨by rw [HV.out];rfl,rfl⟩
 by_cases h1:20<s.size
 ·
  have HV:Hid (isNameB s=false):=by show isNameB s=false;simp [isNameB];omega
  have a1:¬(s.size:Int)<1:=by omega
  have a2:(20:Int)<s.size:=by omega
  clear h0 h1
  go_enter Tryz.func215,Tryz.ntmps215
  go_wp2
  go_ret
  exact ⟨by rw [HV.out];rfl,rfl⟩
 have a1:¬(s.size:Int)<1:=by omega
 have a2:¬(20:Int)<s.size:=by omega
 have HV:Hid (isNameB s=nameAll s):=by show isNameB s=nameAll s;simp [isNameB];omega
 go_enter Tryz.func215,Tryz.ntmps215
 go_wp2
 go_loop [14] (fun i=>∃k:Nat,k<=s.size/\i=.int .i64 k/\∀j,j<k->nameByte (bt s j)=true) (fun i=>s.size - (intOf i).toNat)
 case atStart=>exact ⟨0,Nat.zero_le _,rfl,fun j hj=>by omega⟩
 case round=>
  obtain ⟨k,hk,rfl,HK⟩:=hrel
  by_cases hlt:k<s.size
  ·
   have eb:(s[k].toNat)=bt s k:=(bt_eq s k hlt).symm
   go_wp2_with fail
   refine (isNameByte_any _ _).mono ?_
   rintro r w1 ⟨rfl,rfl⟩
   cases hb:nameByte (bt s k)
   ·
    have HN:Hid (nameAll s=false):=nameAll_no hlt hb
    go_wp2
    go_ret
    exact ⟨by rw [HV.out,HN.out];rfl,rfl⟩
   go_wp2
   go_round
   case rel=>exact ⟨k+1,by omega,by go_num,fun j hj=>if hjk:j=k then hjk ▸ hb else HK j (by omega)⟩
   case measure=>simp [intOf];omega
  have HN:Hid (nameAll s=true):=nameAll_ok fun i hi=>HK i (by omega)
  go_wp2
  go_ret
  exact ⟨by rw [HV.out,HN.out];rfl,rfl⟩
end Go.Proofs.YtcddpmappmjilaaGreatDoor
namespace Go.Proofs.YtcddpmappmjilaaGreatDoor
open Go.RowKit
theorem size0 (s:ByteArray):s.toList.isEmpty=decide (s.size=0):=by
 rw [ByteArray.toList_eq]
 obtain ⟨⟨l⟩⟩:=s
 cases l<;>rfl
theorem within_any (w:World) (n m:Int):
 Calls Tryz.prog 292 #[.int .i64 n,.int .i64 m] w fun r w'=>r=.returned (.bool (win n m))/\w'=w:=by
 by_cases h0:0<=n
 ·
  by_cases h1:n<=m
  ·
   go_enter Tryz.func292,Tryz.ntmps292
   go_wp2
   go_ret
   simp [win,h0,h1]
  go_enter Tryz.func292,Tryz.ntmps292
  go_wp2
  go_ret
  simp [win,h1]
 go_enter Tryz.func292,Tryz.ntmps292
 go_wp2
 go_ret
 simp [win];omega
theorem hasClass_any (w:World) (n:Int):
 Calls Tryz.prog 291 #[.int .i64 n] w fun r w'=>r=.returned (.bool (hasCls n))/\w'=w:=by
 by_cases h0:n=3
 ·
  subst h0
  go_enter Tryz.func291,Tryz.ntmps291
  go_wp2
  go_ret
  exact ⟨rfl,rfl⟩
 have HH:Hid (hasCls n=decide (n=4)):=by show hasCls n=_;simp [hasCls,h0]
 have hb:(n==3)=false:=by simp [h0]
 clear h0
 go_enter Tryz.func291,Tryz.ntmps291
 go_wp2
 go_ret
 exact ⟨by rw [HH.out];rfl,rfl⟩
set_option maxHeartbeats 400000 in
theorem isRight_any (w:World) (k:KindD) (hs:k.cls.size<=maxLen):
 Calls Tryz.prog 216 #[.agg #[.int .i64 k.kind,.string k.cls]] w fun r w'=>r=.returned (.bool (rightB k))/\Below w.heap.size w w':=by
 obtain ⟨n,s⟩:=k
 dsimp only at*
 have hb:=fun o=>(Below.refl w.heap.size w).alloc (Nat.le_refl _) o
 have HR:Hid (rightB ⟨n,s⟩=if hasCls n=true then isNameB s else (decide (n=1)||decide (n=2))&&decide (s.size=0)):=rfl
 go_enter Tryz.func216,Tryz.ntmps216
 go_wp2_with fail
 refine (hasClass_any _ _).mono ?_
 rintro r w1 ⟨rfl,rfl⟩
 cases hc:hasCls n
 ·
  have HC:=mkHid hc
  clear hc
  have e0:=size0 s
  by_cases h1:n=1
  ·
   subst h1
   go_wp2
   go_ret
   refine ⟨by rw [HR.out,HC.out];simp,hb _⟩
  have b1:(n==1)=false:=by simp [h1]
  by_cases h2:n=2
  ·
   subst h2
   go_wp2
   go_ret
   refine ⟨by rw [HR.out,HC.out];simp,hb _⟩
  have b2:(n==2)=false:=by simp [h2]
  have HD:Hid ((decide (n=1)||decide (n=2))=false):=by show _=_;simp [h1,h2]
  clear h1 h2
  go_wp2
  go_ret
  refine ⟨by rw [HR.out,HC.out,HD.out];simp,hb _⟩
 have HC:=mkHid hc
 clear hc
 go_wp2_with fail
 refine (isName_any _ _ hs).mono ?_
 rintro r w1 ⟨rfl,rfl⟩
 go_wp2
 go_ret
 refine ⟨by rw [HR.out,HC.out];simp,hb _⟩
set_option maxHeartbeats 400000 in
theorem isReturned_any (w:World) (k:KindD) (hs:k.cls.size<=maxLen):
 Calls Tryz.prog 293 #[.agg #[.int .i64 k.kind,.string k.cls]] w fun r w'=>r=.returned (.bool (returnedB k))/\Below w.heap.size w w':=by
 obtain ⟨n,s⟩:=k
 dsimp only at*
 have hb:=(Below.refl w.heap.size w).alloc (Nat.le_refl _) (.cells #[.int .i64 n,.string s] 80)
 have HR:Hid (returnedB ⟨n,s⟩=(rightB ⟨n,s⟩||(decide (n=0)&&decide (s.size=0)))):=rfl
 go_enter Tryz.func293,Tryz.ntmps293
 go_wp2_with fail
 refine (isRight_any _ ⟨n,s⟩ hs).mono ?_
 rintro r w1 ⟨rfl,hb1⟩
 have c0:w1.cell? ⟨w.heap.size,0,none⟩=some (.int .i64 n):=(hb1.cell (p:=⟨w.heap.size,0,none⟩) (by simp)).trans (by simp [go_sem])
 have c1:w1.cell? ⟨w.heap.size,1,none⟩=some (.string s):=(hb1.cell (p:=⟨w.heap.size,1,none⟩) (by simp)).trans (by simp [go_sem])
 have hb2:Below w.heap.size w w1:=hb.trans (hb1.mono (by simp))
 clear hb hb1
 generalize rightB ⟨n,s⟩=rb at*
 have e0:=size0 s
 cases rb
 ·
  by_cases h1:n=0
  ·
   subst h1
   go_wp2
   go_ret
   refine ⟨by rw [HR.out];simp,hb2⟩
  have b1:(n==0)=false:=by simp [h1]
  have HD:Hid (decide (n=0)=false):=by show _=_;simp [h1]
  clear h1
  go_wp2
  go_ret
  refine ⟨by rw [HR.out,HD.out];simp,hb2⟩
 go_wp2
 go_ret
 refine ⟨by rw [HR.out];simp,hb2⟩
end Go.Proofs.YtcddpmappmjilaaGreatDoor
namespace Go.Proofs.YtcddpmappmjilaaGreatDoor
open Go.RowKit
theorem chk_no {c e:Int} (h:c=e) (he:e≠0):ChkOut c (.panicked [wrongV e 0]):=Or.inl ⟨by rw [h];exact he,by rw [h]⟩
theorem chk_ok {c:Int} (h:c=0):ChkOut c (.returned (.tuple #[])):=Or.inr ⟨h,rfl⟩
set_option maxHeartbeats 400000 in
theorem checkHandler_any (w:World) (h:HandD) (hs:h.cls.size<=maxLen):
 Calls Tryz.prog 294 #[.agg #[.int .i64 h.frm,.int .i64 h.upto,.int .i64 h.loc,.string h.cls]] w fun r w'=>ChkOut (checkHand h) r/\Below w.heap.size w w':=by
 obtain ⟨a,b,c,s⟩:=h
 dsimp only at*
 have hB:=(Below.refl w.heap.size w).alloc (Nat.le_refl _) (.cells #[.int .i64 a,.int .i64 b,.int .i64 c,.string s] 98)
 have HX:Hid (checkHand ⟨a,b,c,s⟩=dem (isNameB s) 1 (dem (win a 200) 3 (dem (win b 200) 3 (dem (win c 200) 3 0)))):=rfl
 go_enter Tryz.func294,Tryz.ntmps294
 go_wp2_with fail
 refine (isName_any _ _ hs).mono ?_
 rintro r w1 ⟨rfl,rfl⟩
 go_wp2_with fail
 refine (demand_any _ _ _).mono ?_
 rintro r w1 ⟨rfl,⟨hb,rfl⟩ | ⟨hb,rfl⟩⟩
 ·
  exact ⟨rfl,chk_no (by rw [HX.out,hb,dem_false]) (by decide),hB⟩
 have HX1:=mkHid (HX.out.trans (by rw [hb,dem_true]))
 clear hb HX
 go_wp2_with fail
 refine (within_any _ _ _).mono ?_
 rintro r w1 ⟨rfl,rfl⟩
 go_wp2_with fail
 refine (demand_any _ _ _).mono ?_
 rintro r w1 ⟨rfl,⟨hb,rfl⟩ | ⟨hb,rfl⟩⟩
 ·
  exact ⟨rfl,chk_no (by rw [HX1.out,hb,dem_false]) (by decide),hB⟩
 have HX2:=mkHid (HX1.out.trans (by rw [hb,dem_true]))
 clear hb HX1
 go_wp2_with fail
 refine (within_any _ _ _).mono ?_
 rintro r w1 ⟨rfl,rfl⟩
 go_wp2_with fail
 refine (demand_any _ _ _).mono ?_
 rintro r w1 ⟨rfl,⟨hb,rfl⟩ | ⟨hb,rfl⟩⟩
 ·
  exact ⟨rfl,chk_no (by rw [HX2.out,hb,dem_false]) (by decide),hB⟩
 have HX3:=mkHid (HX2.out.trans (by rw [hb,dem_true]))
 clear hb HX2
 go_wp2_with fail
 refine (within_any _ _ _).mono ?_
 rintro r w1 ⟨rfl,rfl⟩
 go_wp2_with fail
 refine (demand_any _ _ _).mono ?_
 rintro r w1 ⟨rfl,⟨hb,rfl⟩ | ⟨hb,rfl⟩⟩
 ·
  exact ⟨rfl,chk_no (by rw [HX3.out,hb,dem_false]) (by decide),hB⟩
 have HX4:=mkHid (HX3.out.trans (by rw [hb,dem_true]))
 clear hb HX3
 go_wp2
 go_end0
 exact ⟨chk_ok HX4.out,hB⟩
end Go.Proofs.YtcddpmappmjilaaGreatDoor
namespace Go.Proofs.YtcddpmappmjilaaGreatDoor
open Go.RowKit
theorem SL.at {α:Type} {n:Nat} {R:(Nat->Prop)->World->List Value->α->Prop} {M:Nat->Prop} {w:World} {ao:Option Addr} {len cap:Nat} {l:List α} (h:SL n R M w (.slice ao len cap) l) (k:Nat) (hk:k<l.length):
 ∃b off cs,ao=some ⟨b,off,none⟩/\M b/\b<w.heap.size/\cs.length=n/\(∀j,j<n->w.cell? ⟨b,off+k*n+j,none⟩=cs[j]?)/\R M w cs l[k]:=by
 obtain ⟨ao',cap',e,_,_,h3⟩:=h
 cases e
 exact h3 k hk
theorem SL.atK {M:Nat->Prop} {w:World} {ao:Option Addr} {len cap:Nat} {l:List KindD} (h:SL 2 RK M w (.slice ao len cap) l) (k:Nat) (hk:k<l.length):
 ∃b off,ao=some ⟨b,off,none⟩/\b<w.heap.size/\w.cell? ⟨b,off+k*2,none⟩=some (.int .i64 l[k].kind)/\w.cell? ⟨b,off+k*2+1,none⟩=some (.string l[k].cls)/\l[k].cls.size<=maxLen:=by
 obtain ⟨b,off,cs,e,_,hb,_,hc,rfl,hs⟩:=h.at k hk
 exact ⟨b,off,e,hb,hc 0 (by omega),hc 1 (by omega),hs⟩
theorem SL.atF {M:Nat->Prop} {w:World} {ao:Option Addr} {len cap:Nat} {l:List FieldD} (h:SL 3 RF M w (.slice ao len cap) l) (k:Nat) (hk:k<l.length):
 ∃b off,ao=some ⟨b,off,none⟩/\b<w.heap.size/\w.cell? ⟨b,off+k*3,none⟩=some (.string l[k].name)/\w.cell? ⟨b,off+k*3+1,none⟩=some (.int .i64 l[k].kind.kind)/\w.cell? ⟨b,off+k*3+2,none⟩=some (.string l[k].kind.cls)/\l[k].name.size<=maxLen/\l[k].kind.cls.size<=maxLen:=by
 obtain ⟨b,off,cs,e,_,hb,_,hc,rfl,hs⟩:=h.at k hk
 exact ⟨b,off,e,hb,hc 0 (by omega),hc 1 (by omega),hc 2 (by omega),hs⟩
theorem SL.atH {M:Nat->Prop} {w:World} {ao:Option Addr} {len cap:Nat} {l:List HandD} (h:SL 4 RH M w (.slice ao len cap) l) (k:Nat) (hk:k<l.length):
 ∃b off,ao=some ⟨b,off,none⟩/\b<w.heap.size/\w.cell? ⟨b,off+k*4,none⟩=some (.int .i64 l[k].frm)/\w.cell? ⟨b,off+k*4+1,none⟩=some (.int .i64 l[k].upto)/\w.cell? ⟨b,off+k*4+2,none⟩=some (.int .i64 l[k].loc)/\w.cell? ⟨b,off+k*4+3,none⟩=some (.string l[k].cls)/\l[k].cls.size<=maxLen:=by
 obtain ⟨b,off,cs,e,_,hb,_,hc,rfl,hs⟩:=h.at k hk
 exact ⟨b,off,e,hb,hc 0 (by omega),hc 1 (by omega),hc 2 (by omega),hc 3 (by omega),hs⟩
theorem SL.atM {M:Nat->Prop} {w:World} {ao:Option Addr} {len cap:Nat} {l:List MethD} (h:SL 9 RM M w (.slice ao len cap) l) (k:Nat) (hk:k<l.length):
 ∃b off va vh,ao=some ⟨b,off,none⟩/\b<w.heap.size/\w.cell? ⟨b,off+k*9,none⟩=some (.string l[k].name)/\w.cell? ⟨b,off+k*9+1,none⟩=some (.bool l[k].static)/\w.cell? ⟨b,off+k*9+2,none⟩=some va/\
  w.cell? ⟨b,off+k*9+3,none⟩=some (.int .i64 l[k].ret.kind)/\w.cell? ⟨b,off+k*9+4,none⟩=some (.string l[k].ret.cls)/\w.cell? ⟨b,off+k*9+5,none⟩=some (.int .i64 l[k].stack)/\w.cell? ⟨b,off+k*9+6,none⟩=some (.int .i64 l[k].locals)/\
  w.cell? ⟨b,off+k*9+7,none⟩=some (.string l[k].code)/\w.cell? ⟨b,off+k*9+8,none⟩=some vh/\SL 2 RK M w va l[k].args/\SL 4 RH M w vh l[k].hands/\l[k].name.size<=maxLen/\l[k].ret.cls.size<=maxLen/\l[k].code.size<=maxLen:=by
 obtain ⟨b,off,cs,e,_,hb,_,hc,va,vh,rfl,hs⟩:=h.at k hk
 exact ⟨b,off,va,vh,e,hb,hc 0 (by omega),hc 1 (by omega),hc 2 (by omega),hc 3 (by omega),hc 4 (by omega),hc 5 (by omega),hc 6 (by omega),hc 7 (by omega),hc 8 (by omega),hs⟩
theorem SL.atC {M:Nat->Prop} {w:World} {ao:Option Addr} {len cap:Nat} {l:List ClassD} (h:SL 4 RC M w (.slice ao len cap) l) (k:Nat) (hk:k<l.length):
 ∃b off vf vm,ao=some ⟨b,off,none⟩/\b<w.heap.size/\w.cell? ⟨b,off+k*4,none⟩=some (.string l[k].name)/\w.cell? ⟨b,off+k*4+1,none⟩=some (.string l[k].super)/\w.cell? ⟨b,off+k*4+2,none⟩=some vf/\
  w.cell? ⟨b,off+k*4+3,none⟩=some vm/\SL 3 RF M w vf l[k].fields/\SL 9 RM M w vm l[k].meths/\l[k].name.size<=maxLen/\l[k].super.size<=maxLen:=by
 obtain ⟨b,off,cs,e,_,hb,_,hc,va,vh,rfl,hs⟩:=h.at k hk
 exact ⟨b,off,va,vh,e,hb,hc 0 (by omega),hc 1 (by omega),hc 2 (by omega),hc 3 (by omega),hs⟩
theorem chk_arg_no {k:KindD} (h:rightB k=false):checkArg k=7:=by rw [checkArg,h,dem_false]
theorem chk_arg_ok {k:KindD} (h:rightB k=true):checkArg k=0:=by rw [checkArg,h,dem_true]
theorem thenE_0 {r:Int} :thenE 0 r=r:=rfl
theorem thenE_e {e r:Int} (h:e≠0):thenE e r=e:=by rw [thenE,if_neg h]
set_option maxHeartbeats 2000000 in
theorem checkMethod_any (w:World) (B:Nat) (m:MethD) (va vh:Value) (ha:SL 2 RK (· <B) w va m.args) (hh:SL 4 RH (· <B) w vh m.hands) (hB:B<=w.heap.size) (hs1:m.name.size<=maxLen) (hs2:m.ret.cls.size<=maxLen):
 Calls Tryz.prog 217 #[.agg #[.string m.name,.bool m.static,va,.int .i64 m.ret.kind,.string m.ret.cls,.int .i64 m.stack,.int .i64 m.locals,.string m.code,vh]] w fun r w'=>ChkOut (checkMeth m) r/\Below w.heap.size w w':=by
 obtain ⟨name,static,args,⟨rk,rc⟩,stack,locals,code,hands⟩:=m
 dsimp only at*
 have HA:=mkHid ha
 have HH:=mkHid hh
 obtain ⟨ao,ca,rfl,hca,hla,_⟩:=ha
 obtain ⟨ho,ch,rfl,hch,hlh,_⟩:=hh
 unfold maxLen at hla hlh
 have HX0:Hid (checkMeth ⟨name,static,args,⟨rk,rc⟩,stack,locals,code,hands⟩=dem (isNameB name) 1 (dem (decide (args.length<=4)) 2 (dem (decide (code.size<=200)) 2 (dem (decide (hands.length<=4)) 2 (dem (win stack 10) 3 (dem (win locals 10) 3 (thenE (allE checkArg args) (dem (returnedB ⟨rk,rc⟩) 7 (allE checkHand hands))))))))):=rfl
 generalize checkMeth ⟨name,static,args,⟨rk,rc⟩,stack,locals,code,hands⟩=X at*
 go_enter Tryz.func217,Tryz.ntmps217
 go_wp2_with fail
 generalize hW:w.alloc (.cells #[.string name,.bool static,.slice ao args.length ca,.int .i64 rk,.string rc,.int .i64 stack,.int .i64 locals,.string code,.slice ho hands.length ch] 83)=W0
 have hz:W0.heap.size=w.heap.size+1:=by rw [<-hW];simp
 have hB0:Below w.heap.size w W0:=by rw [<-hW];exact (Below.refl w.heap.size w).alloc (Nat.le_refl _) _
 have c0:W0.cell? ⟨w.heap.size,0,none⟩=some (.string name):=by rw [<-hW];simp [go_sem]
 have c1:W0.cell? ⟨w.heap.size,1,none⟩=some (.bool static):=by rw [<-hW];simp [go_sem]
 have c2:W0.cell? ⟨w.heap.size,2,none⟩=some (.slice ao args.length ca):=by rw [<-hW];simp [go_sem]
 have c3:W0.cell? ⟨w.heap.size,3,none⟩=some (.int .i64 rk):=by rw [<-hW];simp [go_sem]
 have c4:W0.cell? ⟨w.heap.size,4,none⟩=some (.string rc):=by rw [<-hW];simp [go_sem]
 have c5:W0.cell? ⟨w.heap.size,5,none⟩=some (.int .i64 stack):=by rw [<-hW];simp [go_sem]
 have c6:W0.cell? ⟨w.heap.size,6,none⟩=some (.int .i64 locals):=by rw [<-hW];simp [go_sem]
 have c7:W0.cell? ⟨w.heap.size,7,none⟩=some (.string code):=by rw [<-hW];simp [go_sem]
 have c8:W0.cell? ⟨w.heap.size,8,none⟩=some (.slice ho hands.length ch):=by rw [<-hW];simp [go_sem]
 clear hW
 refine (isName_any _ _ hs1).mono ?_
 rintro r w1 ⟨rfl,rfl⟩
 go_wp2_with fail
 refine (demand_any _ _ _).mono ?_
 rintro r w1 ⟨rfl,⟨hb,rfl⟩ | ⟨hb,rfl⟩⟩
 ·
  exact ⟨rfl,chk_no (by rw [HX0.out,hb,dem_false]) (by decide),hB0⟩
 have HX1:=mkHid (HX0.out.trans (by rw [hb,dem_true]))
 clear hb HX0
 by_cases hq:args.length<=4
 rotate_left
 ·
  have hq':¬(args.length:Int)<=4:=by omega
  go_wp2_with fail
  refine (demand_any _ _ _).mono ?_
  rintro r w1 ⟨rfl,⟨hb,rfl⟩ | ⟨hb,rfl⟩⟩
  ·
   exact ⟨rfl,chk_no (by rw [HX1.out,decide_eq_false hq,dem_false]) (by decide),hB0⟩
  exact absurd hb (by first | (simp;done) | (simp;omega))
 have hq2:(args.length:Int)<=4:=by omega
 have HX2:=mkHid (HX1.out.trans (by rw [decide_eq_true hq,dem_true]))
 clear hq HX1
 go_wp2_with fail
 refine (demand_any _ _ _).mono ?_
 rintro r w1 ⟨rfl,⟨hb,rfl⟩ | ⟨hb,rfl⟩⟩
 ·
  exact absurd hb (by simp)
 clear hb
 by_cases hq:code.size<=200
 rotate_left
 ·
  have hq':¬(code.size:Int)<=200:=by omega
  go_wp2_with fail
  refine (demand_any _ _ _).mono ?_
  rintro r w1 ⟨rfl,⟨hb,rfl⟩ | ⟨hb,rfl⟩⟩
  ·
   exact ⟨rfl,chk_no (by rw [HX2.out,decide_eq_false hq,dem_false]) (by decide),hB0⟩
  exact absurd hb (by first | (simp;done) | (simp;omega))
 have hq3:(code.size:Int)<=200:=by omega
 have HX3:=mkHid (HX2.out.trans (by rw [decide_eq_true hq,dem_true]))
 clear hq HX2
 go_wp2_with fail
 refine (demand_any _ _ _).mono ?_
 rintro r w1 ⟨rfl,⟨hb,rfl⟩ | ⟨hb,rfl⟩⟩
 ·
  exact absurd hb (by simp)
 clear hb
 by_cases hq:hands.length<=4
 rotate_left
 ·
  have hq':¬(hands.length:Int)<=4:=by omega
  go_wp2_with fail
  refine (demand_any _ _ _).mono ?_
  rintro r w1 ⟨rfl,⟨hb,rfl⟩ | ⟨hb,rfl⟩⟩
  ·
   exact ⟨rfl,chk_no (by rw [HX3.out,decide_eq_false hq,dem_false]) (by decide),hB0⟩
  exact absurd hb (by first | (simp;done) | (simp;omega))
 have hq4:(hands.length:Int)<=4:=by omega
 have HX4:=mkHid (HX3.out.trans (by rw [decide_eq_true hq,dem_true]))
 clear hq HX3
 go_wp2_with fail
 refine (demand_any _ _ _).mono ?_
 rintro r w1 ⟨rfl,⟨hb,rfl⟩ | ⟨hb,rfl⟩⟩
 ·
  exact absurd hb (by simp)
 clear hb
 go_wp2_with fail
 refine (within_any _ _ _).mono ?_
 rintro r w1 ⟨rfl,rfl⟩
 go_wp2_with fail
 refine (demand_any _ _ _).mono ?_
 rintro r w1 ⟨rfl,⟨hb,rfl⟩ | ⟨hb,rfl⟩⟩
 ·
  exact ⟨rfl,chk_no (by rw [HX4.out,hb,dem_false]) (by decide),hB0⟩
 have HX5:=mkHid (HX4.out.trans (by rw [hb,dem_true]))
 clear hb HX4
 go_wp2_with fail
 refine (within_any _ _ _).mono ?_
 rintro r w1 ⟨rfl,rfl⟩
 go_wp2_with fail
 refine (demand_any _ _ _).mono ?_
 rintro r w1 ⟨rfl,⟨hb,rfl⟩ | ⟨hb,rfl⟩⟩
 ·
  exact ⟨rfl,chk_no (by rw [HX5.out,hb,dem_false]) (by decide),hB0⟩
 have HX6:=mkHid (HX5.out.trans (by rw [hb,dem_true]))
 clear hb HX5
 go_wp2_with fail
 go_loopw [36] (fun i wr=>∃k:Nat,k<=args.length/\i=.int .i64 k/\Hid (allE checkArg (args.drop k)=allE checkArg args)/\Below (w.heap.size+1) w1 wr) (fun i _=>args.length - (intOf i).toNat)
 case atStart=>exact ⟨0,Nat.zero_le _,rfl,rfl,Below.refl _ _⟩
 case round=>
  obtain ⟨k,hk,rfl,HP,hBr⟩:=hrel
  have hsz:w.heap.size+1<=wr.heap.size:=by have:=hBr.size;omega
  by_cases hlt:k<args.length
  ·
   obtain ⟨b,off,rfl,hbl,e0,e1,es⟩:=(HA.out.keptK (Kp.below ((hB0.trans (hBr.mono (by omega))).mono hB))).atK k hlt
   have hBa:=hBr.alloc hsz (.cells #[.int .i64 args[k].kind,.string args[k].cls] 80)
   go_wp2_with fail
   refine (isRight_any _ args[k] es).mono ?_
   rintro r w2 ⟨rfl,hb2⟩
   have hBs:=hBa.trans (hb2.mono (by simp;omega))
   clear hb2 hBa e0 e1
   go_wp2_with fail
   refine (demand_any _ _ _).mono ?_
   rintro r w3 ⟨rfl,⟨hb,rfl⟩ | ⟨hb,rfl⟩⟩
   ·
    refine ⟨rfl,chk_no (e:=7) ?_ (by decide),hB0.trans (hBs.mono (by omega))⟩
    rw [HX6.out,<-HP.out,allE_no hlt (by rw [chk_arg_no hb];decide),chk_arg_no hb,thenE_e (by decide)]
   have HB:=mkHid (chk_arg_ok hb)
   clear hb
   go_wp2_with fail
   go_roundw
   case rel=>exact ⟨k+1,by omega,by go_num,(allE_ok hlt HB.out).symm.trans HP.out,hBs⟩
   case measure=>simp [intOf];omega
  have HX7:=mkHid (HX6.out.trans (by rw [<-HP.out,allE_end hlt,thenE_0]))
  have d3:=(hBr.cell (p:=⟨w.heap.size,3,none⟩) (by simp)).trans c3
  have d4:=(hBr.cell (p:=⟨w.heap.size,4,none⟩) (by simp)).trans c4
  clear HP HX6
  go_wp2_with fail
  refine (isReturned_any _ ⟨rk,rc⟩ hs2).mono ?_
  rintro r w2 ⟨rfl,hb2⟩
  have hBs:=hBr.trans (hb2.mono (by omega))
  clear hb2 hBr d3 d4
  go_wp2_with fail
  refine (demand_any _ _ _).mono ?_
  rintro r w3 ⟨rfl,⟨hb,rfl⟩ | ⟨hb,rfl⟩⟩
  ·
   exact ⟨rfl,chk_no (by rw [HX7.out,hb,dem_false]) (by decide),hB0.trans (hBs.mono (by omega))⟩
  have HX8:=mkHid (HX7.out.trans (by rw [hb,dem_true]))
  clear hb HX7
  have d8:=(hBs.cell (p:=⟨w.heap.size,8,none⟩) (by simp)).trans c8
  go_wp2_with fail
  go_loopw [51] (fun i wr=>∃k:Nat,k<=hands.length/\i=.int .i64 k/\Hid (allE checkHand (hands.drop k)=allE checkHand hands)/\Below (w.heap.size+1) w1 wr) (fun i _=>hands.length - (intOf i).toNat)
  case atStart=>exact ⟨0,Nat.zero_le _,rfl,rfl,hBs⟩
  case round=>
   obtain ⟨k,hk,rfl,HP,hBr⟩:=hrel
   have hsz:w.heap.size+1<=wr.heap.size:=by have:=hBr.size;omega
   by_cases hlt:k<hands.length
   ·
    obtain ⟨b,off,rfl,hbl,e0,e1,e2,e3,es⟩:=(HH.out.keptH (Kp.below ((hB0.trans (hBr.mono (by omega))).mono hB))).atH k hlt
    have hBa:=hBr.alloc hsz (.cells #[.int .i64 hands[k].frm,.int .i64 hands[k].upto,.int .i64 hands[k].loc,.string hands[k].cls] 98)
    go_wp2_with fail
    refine (checkHandler_any _ hands[k] es).mono ?_
    rintro r w2 ⟨hr,hb2⟩
    have hBs:=hBa.trans (hb2.mono (by simp;omega))
    clear hb2 hBa e0 e1 e2 e3
    rcases hr with ⟨hc,rfl⟩ | ⟨hc,rfl⟩
    ·
     refine ⟨rfl,chk_no ?_ hc,hB0.trans (hBs.mono (by omega))⟩
     rw [HX8.out,<-HP.out,allE_no hlt hc]
    have HB:=mkHid hc
    clear hc
    go_wp2_with fail
    go_roundw
    case rel=>exact ⟨k+1,by omega,by go_num,(allE_ok hlt HB.out).symm.trans HP.out,hBs⟩
    case measure=>simp [intOf];omega
   go_wp2_with fail
   go_end0
   exact ⟨chk_ok (by rw [HX8.out,<-HP.out,allE_end hlt]),hB0.trans (hBr.mono (by omega))⟩
end Go.Proofs.YtcddpmappmjilaaGreatDoor
namespace Go.Proofs.YtcddpmappmjilaaGreatDoor
open Go.RowKit
theorem chk_field_no1 {f:FieldD} (h:isNameB f.name=false):checkField f=1:=by rw [checkField,h,dem_false]
theorem chk_field_no2 {f:FieldD} (h:isNameB f.name=true) (h2:rightB f.kind=false):checkField f=7:=by rw [checkField,h,dem_true,h2,dem_false]
theorem chk_field_ok {f:FieldD} (h:isNameB f.name=true) (h2:rightB f.kind=true):checkField f=0:=by rw [checkField,h,dem_true,h2,dem_true]
set_option maxHeartbeats 4000000 in
theorem checkClass_any (w:World) (B:Nat) (c:ClassD) (vf vm:Value) (hf:SL 3 RF (· <B) w vf c.fields) (hm:SL 9 RM (· <B) w vm c.meths) (hB:B<=w.heap.size) (hs1:c.name.size<=maxLen) (hs2:c.super.size<=maxLen):
 Calls Tryz.prog 140 #[.agg #[.string c.name,.string c.super,vf,vm]] w fun r w'=>ChkOut (checkClass c) r/\Below w.heap.size w w':=by
 obtain ⟨name,super,fields,meths⟩:=c
 dsimp only at*
 have HF:=mkHid hf
 have HM:=mkHid hm
 obtain ⟨fo,cf,rfl,hcf,hlf,_⟩:=hf
 obtain ⟨mo,cm,rfl,hcm,hlm,_⟩:=hm
 unfold maxLen at hlf hlm
 have e0:=size0 super
 have HX0:Hid (checkClass ⟨name,super,fields,meths⟩=dem (isNameB name) 1 (dem (decide (super.size=0)||isNameB super) 1 (dem (decide (fields.length<=6)) 2 (dem (decide (meths.length<=8)) 2 (thenE (allE checkField fields) (allE checkMeth meths)))))):=rfl
 generalize checkClass ⟨name,super,fields,meths⟩=X at*
 go_enter Tryz.func140,Tryz.ntmps140
 go_wp2_with fail
 generalize hW:w.alloc (.cells #[.string name,.string super,.slice fo fields.length cf,.slice mo meths.length cm] 63)=W0
 have hz:W0.heap.size=w.heap.size+1:=by rw [<-hW];simp
 have hB0:Below w.heap.size w W0:=by rw [<-hW];exact (Below.refl w.heap.size w).alloc (Nat.le_refl _) _
 have c0:W0.cell? ⟨w.heap.size,0,none⟩=some (.string name):=by rw [<-hW];simp [go_sem]
 have c1:W0.cell? ⟨w.heap.size,1,none⟩=some (.string super):=by rw [<-hW];simp [go_sem]
 have c2:W0.cell? ⟨w.heap.size,2,none⟩=some (.slice fo fields.length cf):=by rw [<-hW];simp [go_sem]
 have c3:W0.cell? ⟨w.heap.size,3,none⟩=some (.slice mo meths.length cm):=by rw [<-hW];simp [go_sem]
 clear hW
 refine (isName_any _ _ hs1).mono ?_
 rintro r w1 ⟨rfl,rfl⟩
 go_wp2_with fail
 refine (demand_any _ _ _).mono ?_
 rintro r w1 ⟨rfl,⟨hb,rfl⟩ | ⟨hb,rfl⟩⟩
 ·
  exact ⟨rfl,chk_no (by rw [HX0.out,hb,dem_false]) (by decide),hB0⟩
 have HX1:=mkHid (HX0.out.trans (by rw [hb,dem_true]))
 clear hb HX0
 by_cases hq:super.size=0
 ·
  have HX2:=mkHid (HX1.out.trans (by rw [decide_eq_true hq,Bool.true_or,dem_true]))
  have e1:super.toList.isEmpty=true:=by rw [e0,decide_eq_true hq]
  clear HX1 hq e0
  go_wp2_with fail
  refine (demand_any _ _ _).mono ?_
  rintro r w1 ⟨rfl,⟨hb,rfl⟩ | ⟨hb,rfl⟩⟩
  ·
   cases hb
  clear hb
  by_cases hq:fields.length<=6
  rotate_left
  ·
   have hq':¬(fields.length:Int)<=6:=by omega
   go_wp2_with fail
   refine (demand_any _ _ _).mono ?_
   rintro r w1 ⟨rfl,⟨hb,rfl⟩ | ⟨hb,rfl⟩⟩
   ·
    exact ⟨rfl,chk_no (by rw [HX2.out,decide_eq_false hq,dem_false]) (by decide),hB0⟩
   exact absurd hb (by first | (simp;done) | (simp;omega))
  have hq3:(fields.length:Int)<=6:=by omega
  have HX3:=mkHid (HX2.out.trans (by rw [decide_eq_true hq,dem_true]))
  clear hq HX2
  go_wp2_with fail
  refine (demand_any _ _ _).mono ?_
  rintro r w1 ⟨rfl,⟨hb,rfl⟩ | ⟨hb,rfl⟩⟩
  ·
   exact absurd hb (by simp)
  clear hb
  by_cases hq:meths.length<=8
  rotate_left
  ·
   have hq':¬(meths.length:Int)<=8:=by omega
   go_wp2_with fail
   refine (demand_any _ _ _).mono ?_
   rintro r w1 ⟨rfl,⟨hb,rfl⟩ | ⟨hb,rfl⟩⟩
   ·
    exact ⟨rfl,chk_no (by rw [HX3.out,decide_eq_false hq,dem_false]) (by decide),hB0⟩
   exact absurd hb (by first | (simp;done) | (simp;omega))
  have hq4:(meths.length:Int)<=8:=by omega
  have HX4:=mkHid (HX3.out.trans (by rw [decide_eq_true hq,dem_true]))
  clear hq HX3
  go_wp2_with fail
  refine (demand_any _ _ _).mono ?_
  rintro r w1 ⟨rfl,⟨hb,rfl⟩ | ⟨hb,rfl⟩⟩
  ·
   exact absurd hb (by simp)
  clear hb
  go_wp2_with fail
  go_loopw [32] (fun i wr=>∃k:Nat,k<=fields.length/\i=.int .i64 k/\Hid (allE checkField (fields.drop k)=allE checkField fields)/\Below (w.heap.size+1) w1 wr) (fun i _=>fields.length - (intOf i).toNat)
  case atStart=>exact ⟨0,Nat.zero_le _,rfl,rfl,Below.refl _ _⟩
  case round=>
   obtain ⟨k,hk,rfl,HP,hBr⟩:=hrel
   have hsz:w.heap.size+1<=wr.heap.size:=by have:=hBr.size;omega
   by_cases hlt:k<fields.length
   ·
    obtain ⟨b,off,rfl,hbl,e0,e1,e2,es,es2⟩:=(HF.out.keptF (Kp.below ((hB0.trans (hBr.mono (by omega))).mono hB))).atF k hlt
    have hBa:=hBr.alloc hsz (.cells #[.string fields[k].name,.int .i64 fields[k].kind.kind,.string fields[k].kind.cls] 85)
    go_wp2_with fail
    refine (isName_any _ fields[k].name es).mono ?_
    rintro r w2 ⟨rfl,rfl⟩
    go_wp2_with fail
    refine (demand_any _ _ _).mono ?_
    rintro r w3 ⟨rfl,⟨hb,rfl⟩ | ⟨hb,rfl⟩⟩
    ·
     refine ⟨rfl,chk_no (e:=1) ?_ (by decide),hB0.trans (hBa.mono (by omega))⟩
     rw [HX4.out,<-HP.out,allE_no hlt (by rw [chk_field_no1 hb];decide),chk_field_no1 hb,thenE_e (by decide)]
    have HB1:=mkHid hb
    clear hb
    go_wp2_with fail
    refine (isRight_any _ fields[k].kind es2).mono ?_
    rintro r w2 ⟨rfl,hb2⟩
    have hBs:=hBa.trans (hb2.mono (by simp;omega))
    clear hb2 hBa e0 e1 e2
    go_wp2_with fail
    refine (demand_any _ _ _).mono ?_
    rintro r w3 ⟨rfl,⟨hb,rfl⟩ | ⟨hb,rfl⟩⟩
    ·
     refine ⟨rfl,chk_no (e:=7) ?_ (by decide),hB0.trans (hBs.mono (by omega))⟩
     rw [HX4.out,<-HP.out,allE_no hlt (by rw [chk_field_no2 HB1.out hb];decide),chk_field_no2 HB1.out hb,thenE_e (by decide)]
    have HB:=mkHid (chk_field_ok HB1.out hb)
    clear hb
    go_wp2_with fail
    go_roundw
    case rel=>exact ⟨k+1,by omega,by go_num,(allE_ok hlt HB.out).symm.trans HP.out,hBs⟩
    case measure=>simp [intOf];omega
   have HX5:=mkHid (HX4.out.trans (by rw [<-HP.out,allE_end hlt,thenE_0]))
   have d3:=(hBr.cell (p:=⟨w.heap.size,3,none⟩) (by simp)).trans c3
   clear HP HX4
   have hBs:=hBr
   clear hBr
   go_wp2_with fail
   go_loopw [48] (fun i wr=>∃k:Nat,k<=meths.length/\i=.int .i64 k/\Hid (allE checkMeth (meths.drop k)=allE checkMeth meths)/\Below (w.heap.size+1) w1 wr) (fun i _=>meths.length - (intOf i).toNat)
   case atStart=>exact ⟨0,Nat.zero_le _,rfl,rfl,hBs⟩
   case round=>
    obtain ⟨k,hk,rfl,HP,hBr⟩:=hrel
    have hsz:w.heap.size+1<=wr.heap.size:=by have:=hBr.size;omega
    by_cases hlt:k<meths.length
    ·
     have hBw:Below w.heap.size w wr:=hB0.trans (hBr.mono (by omega))
     obtain ⟨b,off,va,vh,rfl,hbl,e0,e1,e2,e3,e4,e5,e6,e7,e8,ea,eh,es1,es2,es3⟩:=(HM.out.keptM (Kp.below (hBw.mono hB))).atM k hlt
     have hBa:=fun t=>hBr.alloc hsz (.cells #[.string meths[k].name,.bool meths[k].static,va,.int .i64 meths[k].ret.kind,.string meths[k].ret.cls,.int .i64 meths[k].stack,.int .i64 meths[k].locals,.string meths[k].code,vh] t)
     have HBA:=mkHid hBa
     have EA:=mkHid ea
     have EH:=mkHid eh
     obtain ⟨ao,ca,rfl,_⟩:=ea
     obtain ⟨ho,ch,rfl,_⟩:=eh
     clear hBa
     go_wp2_with fail
     refine (checkMethod_any _ B meths[k] _ _ (EA.out.keptK (Kp.below ((Below.refl _ _).alloc (by omega) _))) (EH.out.keptH (Kp.below ((Below.refl _ _).alloc (by omega) _))) (by simp;omega) es1 es2).mono ?_
     rintro r w2 ⟨hr,hb2⟩
     have hBs:=(HBA.out _).trans (hb2.mono (by simp;omega))
     clear hb2 HBA e0 e1 e2 e3 e4 e5 e6 e7 e8
     rcases hr with ⟨hc,rfl⟩ | ⟨hc,rfl⟩
     ·
      refine ⟨rfl,chk_no ?_ hc,hB0.trans (hBs.mono (by omega))⟩
      rw [HX5.out,<-HP.out,allE_no hlt hc]
     have HB:=mkHid hc
     clear hc
     go_wp2_with fail
     go_roundw
     case rel=>exact ⟨k+1,by omega,by go_num,(allE_ok hlt HB.out).symm.trans HP.out,hBs⟩
     case measure=>simp [intOf];omega
    go_wp2_with fail
    go_end0
    exact ⟨chk_ok (by rw [HX5.out,<-HP.out,allE_end hlt]),hB0.trans (hBr.mono (by omega))⟩
 have HX2:=mkHid (HX1.out.trans (by rw [decide_eq_false hq,Bool.false_or]))
 have e1:super.toList.isEmpty=false:=by rw [e0,decide_eq_false hq]
 clear HX1 hq e0
 go_wp2_with fail
 refine (isName_any _ _ hs2).mono ?_
 rintro r w1 ⟨rfl,rfl⟩
 go_wp2_with fail
 refine (demand_any _ _ _).mono ?_
 rintro r w1 ⟨rfl,⟨hb,rfl⟩ | ⟨hb,rfl⟩⟩
 ·
  exact ⟨rfl,chk_no (by rw [HX2.out,hb,dem_false]) (by decide),hB0⟩
 have HX3:=mkHid (HX2.out.trans (by rw [hb,dem_true]))
 clear hb HX2
 by_cases hq:fields.length<=6
 rotate_left
 ·
  have hq':¬(fields.length:Int)<=6:=by omega
  go_wp2_with fail
  refine (demand_any _ _ _).mono ?_
  rintro r w1 ⟨rfl,⟨hb,rfl⟩ | ⟨hb,rfl⟩⟩
  ·
   exact ⟨rfl,chk_no (by rw [HX3.out,decide_eq_false hq,dem_false]) (by decide),hB0⟩
  exact absurd hb (by first | (simp;done) | (simp;omega))
 have hq4:(fields.length:Int)<=6:=by omega
 have HX4:=mkHid (HX3.out.trans (by rw [decide_eq_true hq,dem_true]))
 clear hq HX3
 go_wp2_with fail
 refine (demand_any _ _ _).mono ?_
 rintro r w1 ⟨rfl,⟨hb,rfl⟩ | ⟨hb,rfl⟩⟩
 ·
  exact absurd hb (by simp)
 clear hb
 by_cases hq:meths.length<=8
 rotate_left
 ·
  have hq':¬(meths.length:Int)<=8:=by omega
  go_wp2_with fail
  refine (demand_any _ _ _).mono ?_
  rintro r w1 ⟨rfl,⟨hb,rfl⟩ | ⟨hb,rfl⟩⟩
  ·
   exact ⟨rfl,chk_no (by rw [HX4.out,decide_eq_false hq,dem_false]) (by decide),hB0⟩
  exact absurd hb (by first | (simp;done) | (simp;omega))
 have hq5:(meths.length:Int)<=8:=by omega
 have HX5:=mkHid (HX4.out.trans (by rw [decide_eq_true hq,dem_true]))
 clear hq HX4
 go_wp2_with fail
 refine (demand_any _ _ _).mono ?_
 rintro r w1 ⟨rfl,⟨hb,rfl⟩ | ⟨hb,rfl⟩⟩
 ·
  exact absurd hb (by simp)
 clear hb
 go_wp2_with fail
 go_loopw [32] (fun i wr=>∃k:Nat,k<=fields.length/\i=.int .i64 k/\Hid (allE checkField (fields.drop k)=allE checkField fields)/\Below (w.heap.size+1) w1 wr) (fun i _=>fields.length - (intOf i).toNat)
 case atStart=>exact ⟨0,Nat.zero_le _,rfl,rfl,Below.refl _ _⟩
 case round=>
  obtain ⟨k,hk,rfl,HP,hBr⟩:=hrel
  have hsz:w.heap.size+1<=wr.heap.size:=by have:=hBr.size;omega
  by_cases hlt:k<fields.length
  ·
   obtain ⟨b,off,rfl,hbl,e0,e1,e2,es,es2⟩:=(HF.out.keptF (Kp.below ((hB0.trans (hBr.mono (by omega))).mono hB))).atF k hlt
   have hBa:=hBr.alloc hsz (.cells #[.string fields[k].name,.int .i64 fields[k].kind.kind,.string fields[k].kind.cls] 85)
   go_wp2_with fail
   refine (isName_any _ fields[k].name es).mono ?_
   rintro r w2 ⟨rfl,rfl⟩
   go_wp2_with fail
   refine (demand_any _ _ _).mono ?_
   rintro r w3 ⟨rfl,⟨hb,rfl⟩ | ⟨hb,rfl⟩⟩
   ·
    refine ⟨rfl,chk_no (e:=1) ?_ (by decide),hB0.trans (hBa.mono (by omega))⟩
    rw [HX5.out,<-HP.out,allE_no hlt (by rw [chk_field_no1 hb];decide),chk_field_no1 hb,thenE_e (by decide)]
   have HB1:=mkHid hb
   clear hb
   go_wp2_with fail
   refine (isRight_any _ fields[k].kind es2).mono ?_
   rintro r w2 ⟨rfl,hb2⟩
   have hBs:=hBa.trans (hb2.mono (by simp;omega))
   clear hb2 hBa e0 e1 e2
   go_wp2_with fail
   refine (demand_any _ _ _).mono ?_
   rintro r w3 ⟨rfl,⟨hb,rfl⟩ | ⟨hb,rfl⟩⟩
   ·
    refine ⟨rfl,chk_no (e:=7) ?_ (by decide),hB0.trans (hBs.mono (by omega))⟩
    rw [HX5.out,<-HP.out,allE_no hlt (by rw [chk_field_no2 HB1.out hb];decide),chk_field_no2 HB1.out hb,thenE_e (by decide)]
   have HB:=mkHid (chk_field_ok HB1.out hb)
   clear hb
   go_wp2_with fail
   go_roundw
   case rel=>exact ⟨k+1,by omega,by go_num,(allE_ok hlt HB.out).symm.trans HP.out,hBs⟩
   case measure=>simp [intOf];omega
  have HX6:=mkHid (HX5.out.trans (by rw [<-HP.out,allE_end hlt,thenE_0]))
  have d3:=(hBr.cell (p:=⟨w.heap.size,3,none⟩) (by simp)).trans c3
  clear HP HX5
  have hBs:=hBr
  clear hBr
  go_wp2_with fail
  go_loopw [48] (fun i wr=>∃k:Nat,k<=meths.length/\i=.int .i64 k/\Hid (allE checkMeth (meths.drop k)=allE checkMeth meths)/\Below (w.heap.size+1) w1 wr) (fun i _=>meths.length - (intOf i).toNat)
  case atStart=>exact ⟨0,Nat.zero_le _,rfl,rfl,hBs⟩
  case round=>
   obtain ⟨k,hk,rfl,HP,hBr⟩:=hrel
   have hsz:w.heap.size+1<=wr.heap.size:=by have:=hBr.size;omega
   by_cases hlt:k<meths.length
   ·
    have hBw:Below w.heap.size w wr:=hB0.trans (hBr.mono (by omega))
    obtain ⟨b,off,va,vh,rfl,hbl,e0,e1,e2,e3,e4,e5,e6,e7,e8,ea,eh,es1,es2,es3⟩:=(HM.out.keptM (Kp.below (hBw.mono hB))).atM k hlt
    have hBa:=fun t=>hBr.alloc hsz (.cells #[.string meths[k].name,.bool meths[k].static,va,.int .i64 meths[k].ret.kind,.string meths[k].ret.cls,.int .i64 meths[k].stack,.int .i64 meths[k].locals,.string meths[k].code,vh] t)
    have HBA:=mkHid hBa
    have EA:=mkHid ea
    have EH:=mkHid eh
    obtain ⟨ao,ca,rfl,_⟩:=ea
    obtain ⟨ho,ch,rfl,_⟩:=eh
    clear hBa
    go_wp2_with fail
    refine (checkMethod_any _ B meths[k] _ _ (EA.out.keptK (Kp.below ((Below.refl _ _).alloc (by omega) _))) (EH.out.keptH (Kp.below ((Below.refl _ _).alloc (by omega) _))) (by simp;omega) es1 es2).mono ?_
    rintro r w2 ⟨hr,hb2⟩
    have hBs:=(HBA.out _).trans (hb2.mono (by simp;omega))
    clear hb2 HBA e0 e1 e2 e3 e4 e5 e6 e7 e8
    rcases hr with ⟨hc,rfl⟩ | ⟨hc,rfl⟩
    ·
     refine ⟨rfl,chk_no ?_ hc,hB0.trans (hBs.mono (by omega))⟩
     rw [HX6.out,<-HP.out,allE_no hlt hc]
    have HB:=mkHid hc
    clear hc
    go_wp2_with fail
    go_roundw
    case rel=>exact ⟨k+1,by omega,by go_num,(allE_ok hlt HB.out).symm.trans HP.out,hBs⟩
    case measure=>simp [intOf];omega
   go_wp2_with fail
   go_end0
   exact ⟨chk_ok (by rw [HX6.out,<-HP.out,allE_end hlt]),hB0.trans (hBr.mono (by omega))⟩
set_option maxHeartbeats 1000000 in
theorem checkClasses_any (w:World) (B:Nat) (l:List ClassD) (v:Value) (hv:SL 4 RC (· <B) w v l) (hB:B<=w.heap.size):
 Calls Tryz.prog 83 #[v] w fun r w'=>ChkOut (checkL l) r/\Below w.heap.size w w':=by
 have HV:=mkHid hv
 obtain ⟨ao,cl,rfl,hcl,hll,_⟩:=hv
 unfold maxLen at hll
 have HX0:Hid (checkL l=dem (decide (l.length<=10)) 2 (allE checkClass l)):=rfl
 generalize checkL l=X at*
 go_enter Tryz.func83,Tryz.ntmps83
 by_cases hq:l.length<=10
 rotate_left
 ·
  have hq':¬(l.length:Int)<=10:=by omega
  go_wp2_with fail
  refine (demand_any _ _ _).mono ?_
  rintro r w1 ⟨rfl,⟨hb,rfl⟩ | ⟨hb,rfl⟩⟩
  ·
   exact ⟨rfl,chk_no (by rw [HX0.out,decide_eq_false hq,dem_false]) (by decide),Below.refl _ _⟩
  exact absurd hb (by first | (simp;done) | (simp;omega))
 have hq1:(l.length:Int)<=10:=by omega
 have HX1:=mkHid (HX0.out.trans (by rw [decide_eq_true hq,dem_true]))
 clear hq HX0
 go_wp2_with fail
 refine (demand_any _ _ _).mono ?_
 rintro r w1 ⟨rfl,⟨hb,rfl⟩ | ⟨hb,rfl⟩⟩
 ·
  exact absurd hb (by simp)
 clear hb
 go_wp2_with fail
 go_loopw [10] (fun i wr=>∃k:Nat,k<=l.length/\i=.int .i64 k/\Hid (allE checkClass (l.drop k)=allE checkClass l)/\Below w1.heap.size w1 wr) (fun i _=>l.length - (intOf i).toNat)
 case atStart=>exact ⟨0,Nat.zero_le _,rfl,rfl,Below.refl _ _⟩
 case round=>
  obtain ⟨k,hk,rfl,HP,hBr⟩:=hrel
  have hsz:=hBr.size
  by_cases hlt:k<l.length
  ·
   obtain ⟨b,off,vf,vm,rfl,hbl,e0,e1,e2,e3,ef,em,es1,es2⟩:=(HV.out.keptC (Kp.below (hBr.mono hB))).atC k hlt
   have hBa:=fun t=>hBr.alloc hsz (.cells #[.string l[k].name,.string l[k].super,vf,vm] t)
   have HBA:=mkHid hBa
   have EF:=mkHid ef
   have EM:=mkHid em
   obtain ⟨fo,cf,rfl,_⟩:=ef
   obtain ⟨mo,cm,rfl,_⟩:=em
   clear hBa
   go_wp2_with fail
   refine (checkClass_any _ B l[k] _ _ (EF.out.keptF (Kp.below ((Below.refl _ _).alloc (by omega) _))) (EM.out.keptM (Kp.below ((Below.refl _ _).alloc (by omega) _))) (by simp;omega) es1 es2).mono ?_
   rintro r w2 ⟨hr,hb2⟩
   have hBs:=(HBA.out _).trans (hb2.mono (by simp;omega))
   clear hb2 HBA e0 e1 e2 e3
   rcases hr with ⟨hc,rfl⟩ | ⟨hc,rfl⟩
   ·
    refine ⟨rfl,chk_no ?_ hc,hBs⟩
    rw [HX1.out,<-HP.out,allE_no hlt hc]
   have HB:=mkHid hc
   clear hc
   go_wp2_with fail
   go_roundw
   case rel=>exact ⟨k+1,by omega,by go_num,(allE_ok hlt HB.out).symm.trans HP.out,hBs⟩
   case measure=>simp [intOf];omega
  go_wp2_with fail
  go_end0
  exact ⟨chk_ok (by rw [HX1.out,<-HP.out,allE_end hlt]),hBr⟩
end Go.Proofs.YtcddpmappmjilaaGreatDoor
