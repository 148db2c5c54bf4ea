import Derived.Test.YtcddpmappmjilaaGreatDoorJChkLeafChkClass
namespace Go.Proofs.YtcddpmappmjilaaGreatDoor
open Go.RowKit
theorem betweenOf_any (w:World) (n m:Int):
 Calls Tryz.prog 10 #[.int .i64 n,.int .i64 0,.int .i64 m] w fun r w'=>r=.returned (.bool (win n m))/\w'=w:=by
 by_cases h0:0<=n
 ·
  by_cases h1:n<=m
  ·
   go_enter Tryz.func10,Tryz.ntmps10
   go_wp2
   go_ret
   simp [win,h0,h1]
  go_enter Tryz.func10,Tryz.ntmps10
  go_wp2
  go_ret
  simp [win,h1]
 go_enter Tryz.func10,Tryz.ntmps10
 go_wp2
 go_ret
 simp [win];omega
set_option maxHeartbeats 2000000 in
theorem isNameOf_any (w:World) (s:ByteArray) (hs:s.size<=maxLen):
 Calls Tryz.prog 55 #[.string s] w fun r w'=>r=.returned (.bool (isNameB s))/\w'=w:=by
 unfold maxLen at hs
 have HV:Hid (isNameB s=(decide (1<=s.size)&&decide (s.size<=20)&&nameAll s)):=rfl
 go_enter Tryz.func55,Tryz.ntmps55
 go_wp2
 go_loop [3] (fun i=>∃k:Nat,k<=s.size/\i=.int .i64 k/\∀j,j<k->nameByte (bt s j)=true) (fun i=>s.size - (intOf i).toNat)
 case atStart=>exact ⟨0,Nat.zero_le _,rfl,fun j hj=>by omega⟩
 case round=>
  obtain ⟨k,hk,rfl,HK0⟩:=hrel
  have HK:=mkHid HK0
  clear HK0
  by_cases hlt:k<s.size
  ·
   have eb:(s[k].toNat)=bt s k:=(bt_eq s k hlt).symm
   have HE:=mkHid eb
   generalize hn:bt s k=n at*
   have HN:=mkHid hn
   clear hn
   rcases (by omega:(n<48)\/(48<=n/\n<=57)\/(57<n/\n<65)\/(65<=n/\n<=90)\/(90<n/\n<97/\n≠95)\/(n=95)\/(97<=n/\n<=122)\/(122<n))with h | h | h | h | h | h | h | h
   ·
    have hv:nameByte n=false:=by simp [nameByte];omega
    have a0:¬(97:Int)<=n:=by omega
    have a1:¬(65:Int)<=n:=by omega
    have a2:¬(48:Int)<=n:=by omega
    have a3:((n:Int)==95)=false:=by simp;omega
    have HW:=mkHid hv
    clear hv h
    have HF:Hid (nameAll s=false):=nameAll_no hlt (by rw [HN.out];exact HW.out)
    go_wp2
    go_ret
    exact ⟨by rw [HV.out,HF.out,Bool.and_false];rfl,rfl⟩
   ·
    have hv:nameByte n=true:=by simp [nameByte];omega
    have a0:¬(97:Int)<=n:=by omega
    have a1:¬(65:Int)<=n:=by omega
    have a2:(48:Int)<=n:=by omega
    have a3:(n:Int)<=57:=by omega
    have HW:=mkHid hv
    clear hv h
    go_wp2
    go_round
    case rel=>exact ⟨k+1,by omega,by go_num,fun j hj=>if hjk:j=k then (by rw [hjk,HN.out];exact HW.out) else HK.out j (by omega)⟩
    case measure=>simp [intOf];omega
   ·
    have hv:nameByte n=false:=by simp [nameByte];omega
    have a0:¬(97:Int)<=n:=by omega
    have a1:¬(65:Int)<=n:=by omega
    have a2:(48:Int)<=n:=by omega
    have a3:¬(n:Int)<=57:=by omega
    have a4:((n:Int)==95)=false:=by simp;omega
    have HW:=mkHid hv
    clear hv h
    have HF:Hid (nameAll s=false):=nameAll_no hlt (by rw [HN.out];exact HW.out)
    go_wp2
    go_ret
    exact ⟨by rw [HV.out,HF.out,Bool.and_false];rfl,rfl⟩
   ·
    have hv:nameByte n=true:=by simp [nameByte];omega
    have a0:¬(97:Int)<=n:=by omega
    have a1:(65:Int)<=n:=by omega
    have a2:(n:Int)<=90:=by omega
    have HW:=mkHid hv
    clear hv h
    go_wp2
    go_round
    case rel=>exact ⟨k+1,by omega,by go_num,fun j hj=>if hjk:j=k then (by rw [hjk,HN.out];exact HW.out) else HK.out j (by omega)⟩
    case measure=>simp [intOf];omega
   ·
    have hv:nameByte n=false:=by simp [nameByte];omega
    have a0:¬(97:Int)<=n:=by omega
    have a1:(65:Int)<=n:=by omega
    have a2:¬(n:Int)<=90:=by omega
    have a3:(48:Int)<=n:=by omega
    have a4:¬(n:Int)<=57:=by omega
    have a5:((n:Int)==95)=false:=by simp;omega
    have HW:=mkHid hv
    clear hv h
    have HF:Hid (nameAll s=false):=nameAll_no hlt (by rw [HN.out];exact HW.out)
    go_wp2
    go_ret
    exact ⟨by rw [HV.out,HF.out,Bool.and_false];rfl,rfl⟩
   ·
    have hv:nameByte n=true:=by simp [nameByte];omega
    have a0:¬(97:Int)<=n:=by omega
    have a1:(65:Int)<=n:=by omega
    have a2:¬(n:Int)<=90:=by omega
    have a3:(48:Int)<=n:=by omega
    have a4:¬(n:Int)<=57:=by omega
    have a5:((n:Int)==95)=true:=by simp;omega
    have HW:=mkHid hv
    clear hv h
    go_wp2
    go_round
    case rel=>exact ⟨k+1,by omega,by go_num,fun j hj=>if hjk:j=k then (by rw [hjk,HN.out];exact HW.out) else HK.out j (by omega)⟩
    case measure=>simp [intOf];omega
   ·
    have hv:nameByte n=true:=by simp [nameByte];omega
    have a0:(97:Int)<=n:=by omega
    have a1:(n:Int)<=122:=by omega
    have HW:=mkHid hv
    clear hv h
    go_wp2
    go_round
    case rel=>exact ⟨k+1,by omega,by go_num,fun j hj=>if hjk:j=k then (by rw [hjk,HN.out];exact HW.out) else HK.out j (by omega)⟩
    case measure=>simp [intOf];omega
   have hv:nameByte n=false:=by simp [nameByte];omega
   have a0:(97:Int)<=n:=by omega
   have a1:¬(n:Int)<=122:=by omega
   have a2:(65:Int)<=n:=by omega
   have a3:¬(n:Int)<=90:=by omega
   have a4:(48:Int)<=n:=by omega
   have a5:¬(n:Int)<=57:=by omega
   have a6:((n:Int)==95)=false:=by simp;omega
   have HW:=mkHid hv
   clear hv h
   have HF:Hid (nameAll s=false):=nameAll_no hlt (by rw [HN.out];exact HW.out)
   go_wp2
   go_ret
   exact ⟨by rw [HV.out,HF.out,Bool.and_false];rfl,rfl⟩
  have HF:Hid (nameAll s=true):=nameAll_ok fun i hi=>HK.out i (by omega)
  by_cases h1:1<=s.size
  ·
   have a1:(1:Int)<=s.size:=by omega
   go_wp2
   go_ret
   exact ⟨by rw [HV.out,HF.out,decide_eq_true h1];simp;omega,rfl⟩
  have a1:¬(1:Int)<=s.size:=by omega
  go_wp2
  go_ret
  exact ⟨by rw [HV.out,HF.out,decide_eq_false h1];rfl,rfl⟩
set_option maxHeartbeats 400000 in
theorem rightOf_any (w:World) (k:KindD) (hs:k.cls.size<=maxLen):
 Calls Tryz.prog 56 #[.agg #[.int .i64 k.kind,.string k.cls]] w fun r w'=>r=.returned (.bool (rightB k))/\Below w.heap.size w w':=by
 obtain ⟨n,s⟩:=k
 dsimp only at*
 have hb:=fun o=>(Below.refl w.heap.size w).alloc (Nat.le_refl _) o
 have HR:Hid (rightB ⟨n,s⟩=if hasCls n=true then isNameB s else (decide (n=1)||decide (n=2))&&decide (s.size=0)):=rfl
 have e0:=size0 s
 by_cases h1:n=1
 ·
  subst h1
  go_enter Tryz.func56,Tryz.ntmps56
  go_wp2
  go_ret
  exact ⟨by rw [HR.out];simp [hasCls],hb _⟩
 have b1:(n==1)=false:=by simp [h1]
 by_cases h2:n=2
 ·
  subst h2
  go_enter Tryz.func56,Tryz.ntmps56
  go_wp2
  go_ret
  exact ⟨by rw [HR.out];simp [hasCls],hb _⟩
 have b2:(n==2)=false:=by simp [h2]
 by_cases h3:n=3
 ·
  subst h3
  go_enter Tryz.func56,Tryz.ntmps56
  go_wp2_with fail
  refine (isNameOf_any _ _ hs).mono ?_
  rintro r w1 ⟨rfl,rfl⟩
  go_wp2
  go_ret
  exact ⟨by rw [HR.out];rfl,hb _⟩
 have b3:(n==3)=false:=by simp [h3]
 by_cases h4:n=4
 ·
  subst h4
  go_enter Tryz.func56,Tryz.ntmps56
  go_wp2_with fail
  refine (isNameOf_any _ _ hs).mono ?_
  rintro r w1 ⟨rfl,rfl⟩
  go_wp2
  go_ret
  exact ⟨by rw [HR.out];rfl,hb _⟩
 have b4:(n==4)=false:=by simp [h4]
 have HV:Hid (rightB ⟨n,s⟩=false):=by
  show rightB ⟨n,s⟩=false
  rw [HR.out]
  simp [hasCls,h1,h2,h3,h4]
 clear h1 h2 h3 h4
 go_enter Tryz.func56,Tryz.ntmps56
 go_wp2
 go_ret
 exact ⟨by rw [HV.out];rfl,hb _⟩
end Go.Proofs.YtcddpmappmjilaaGreatDoor
namespace Go.Proofs.YtcddpmappmjilaaGreatDoor
open Go.RowKit
theorem chk_hand_no1 {h:HandD} (h1:isNameB h.cls=false):checkHand h=1:=by rw [checkHand,h1,dem_false]
theorem chk_hand_no2 {h:HandD} (h1:isNameB h.cls=true) (h2:win h.frm 200=false):checkHand h=3:=by rw [checkHand,h1,dem_true,h2,dem_false]
theorem chk_hand_no3 {h:HandD} (h1:isNameB h.cls=true) (h2:win h.frm 200=true) (h3:win h.upto 200=false):checkHand h=3:=by rw [checkHand,h1,dem_true,h2,dem_true,h3,dem_false]
theorem chk_hand_no4 {h:HandD} (h1:isNameB h.cls=true) (h2:win h.frm 200=true) (h3:win h.upto 200=true) (h4:win h.loc 200=false):checkHand h=3:=by rw [checkHand,h1,dem_true,h2,dem_true,h3,dem_true,h4,dem_false]
theorem chk_hand_ok {h:HandD} (h1:isNameB h.cls=true) (h2:win h.frm 200=true) (h3:win h.upto 200=true) (h4:win h.loc 200=true):checkHand h=0:=by rw [checkHand,h1,dem_true,h2,dem_true,h3,dem_true,h4,dem_true]
set_option maxHeartbeats 8000000 in
theorem checkMethodOf_any (w:World) (B:Nat) (m:MethD) (va vh:Value) (ha:SL 2 RK (· <B) w va m.args) (hh:SL 4 RH (· <B) w vh m.hands) (hB:B<=w.heap.size) (hs1:m.name.size<=maxLen) (hs2:m.ret.cls.size<=maxLen):
 Calls Tryz.prog 57 #[.agg #[.string m.name,.bool m.static,va,.int .i64 m.ret.kind,.string m.ret.cls,.int .i64 m.stack,.int .i64 m.locals,.string m.code,vh]] w fun r w'=>r=.returned (.int .i64 (checkMeth m))/\Below w.heap.size w w':=by
 obtain ⟨name,static,args,⟨rk,rc⟩,stack,locals,code,hands⟩:=m
 dsimp only at*
 have HA:=mkHid ha
 have HH:=mkHid hh
 obtain ⟨ao,ca,rfl,hca,hla,-⟩:=ha
 obtain ⟨ho,ch,rfl,hch,hlh,-⟩:=hh
 unfold maxLen at hla hlh
 have e0:=size0 rc
 have HX0:Hid (checkMeth ⟨name,static,args,⟨rk,rc⟩,stack,locals,code,hands⟩=dem (isNameB name) 1 (dem (decide (args.length<=4)) 2 (dem (decide (code.size<=200)) 2 (dem (decide (hands.length<=4)) 2 (dem (win stack 10) 3 (dem (win locals 10) 3 (thenE (allE checkArg args) (dem (returnedB ⟨rk,rc⟩) 7 (allE checkHand hands))))))))):=rfl
 generalize checkMeth ⟨name,static,args,⟨rk,rc⟩,stack,locals,code,hands⟩=X at*
 go_enter Tryz.func57,Tryz.ntmps57
 go_wp2_with fail
 generalize hW:w.alloc (.cells #[.string name,.bool static,.slice ao args.length ca,.int .i64 rk,.string rc,.int .i64 stack,.int .i64 locals,.string code,.slice ho hands.length ch] 83)=W0
 have hz:W0.heap.size=w.heap.size+1:=by rw [<-hW];simp
 have hB0:Below w.heap.size w W0:=by rw [<-hW];exact (Below.refl w.heap.size w).alloc (Nat.le_refl _) _
 have c0:W0.cell? ⟨w.heap.size,0,none⟩=some (.string name):=by rw [<-hW];simp [go_sem]
 have c1:W0.cell? ⟨w.heap.size,1,none⟩=some (.bool static):=by rw [<-hW];simp [go_sem]
 have c2:W0.cell? ⟨w.heap.size,2,none⟩=some (.slice ao args.length ca):=by rw [<-hW];simp [go_sem]
 have c3:W0.cell? ⟨w.heap.size,3,none⟩=some (.int .i64 rk):=by rw [<-hW];simp [go_sem]
 have c4:W0.cell? ⟨w.heap.size,4,none⟩=some (.string rc):=by rw [<-hW];simp [go_sem]
 have c5:W0.cell? ⟨w.heap.size,5,none⟩=some (.int .i64 stack):=by rw [<-hW];simp [go_sem]
 have c6:W0.cell? ⟨w.heap.size,6,none⟩=some (.int .i64 locals):=by rw [<-hW];simp [go_sem]
 have c7:W0.cell? ⟨w.heap.size,7,none⟩=some (.string code):=by rw [<-hW];simp [go_sem]
 have c8:W0.cell? ⟨w.heap.size,8,none⟩=some (.slice ho hands.length ch):=by rw [<-hW];simp [go_sem]
 clear hW
 refine (isNameOf_any _ _ hs1).mono ?_
 rintro r w1 ⟨rfl,rfl⟩
 cases hb:isNameB name
 ·
  have HE:=mkHid (HX0.out.trans (by rw [hb,dem_false]))
  go_wp2_with fail
  go_ret
  exact ⟨by rw [HE.out];rfl,hB0⟩
 have HX1:=mkHid (HX0.out.trans (by rw [hb,dem_true]))
 clear hb HX0
 by_cases hq:args.length<=4
 rotate_left
 ·
  have hq':(4:Int)<args.length:=by omega
  have HE:=mkHid (HX1.out.trans (by rw [decide_eq_false hq,dem_false]))
  go_wp2_with fail
  go_ret
  exact ⟨by rw [HE.out];rfl,hB0⟩
 have hq1:¬(4:Int)<args.length:=by omega
 have HX2:=mkHid (HX1.out.trans (by rw [decide_eq_true hq,dem_true]))
 clear hq HX1
 by_cases hq:code.size<=200
 rotate_left
 ·
  have hq':(200:Int)<code.size:=by omega
  have HE:=mkHid (HX2.out.trans (by rw [decide_eq_false hq,dem_false]))
  go_wp2_with fail
  go_ret
  exact ⟨by rw [HE.out];rfl,hB0⟩
 have hq2:¬(200:Int)<code.size:=by omega
 have HX3:=mkHid (HX2.out.trans (by rw [decide_eq_true hq,dem_true]))
 clear hq HX2
 by_cases hq:hands.length<=4
 rotate_left
 ·
  have hq':(4:Int)<hands.length:=by omega
  have HE:=mkHid (HX3.out.trans (by rw [decide_eq_false hq,dem_false]))
  go_wp2_with fail
  go_ret
  exact ⟨by rw [HE.out];rfl,hB0⟩
 have hq3:¬(4:Int)<hands.length:=by omega
 have HX4:=mkHid (HX3.out.trans (by rw [decide_eq_true hq,dem_true]))
 clear hq HX3
 go_wp2_with fail
 refine (betweenOf_any _ _ _).mono ?_
 rintro r w1 ⟨rfl,rfl⟩
 cases hb:win stack 10
 ·
  have HE:=mkHid (HX4.out.trans (by rw [hb,dem_false]))
  go_wp2_with fail
  go_ret
  exact ⟨by rw [HE.out];rfl,hB0⟩
 have HX5:=mkHid (HX4.out.trans (by rw [hb,dem_true]))
 clear hb HX4
 go_wp2_with fail
 refine (betweenOf_any _ _ _).mono ?_
 rintro r w1 ⟨rfl,rfl⟩
 cases hb:win locals 10
 ·
  have HE:=mkHid (HX5.out.trans (by rw [hb,dem_false]))
  go_wp2_with fail
  go_ret
  exact ⟨by rw [HE.out];rfl,hB0⟩
 have HX6:=mkHid (HX5.out.trans (by rw [hb,dem_true]))
 clear hb HX5
 go_wp2_with fail
 go_loopw [3] (fun i wr=>∃k:Nat,k<=args.length/\i=.int .i64 k/\Hid (allE checkArg (args.drop k)=allE checkArg args)/\Below (w.heap.size+1) w1 wr) (fun i _=>args.length - (intOf i).toNat)
 case atStart=>exact ⟨0,Nat.zero_le _,rfl,rfl,Below.refl _ _⟩
 case round=>
  obtain ⟨k,hk,rfl,HP,hBr⟩:=hrel
  have hsz:w.heap.size+1<=wr.heap.size:=by have:=hBr.size;omega
  have hw0:w.heap.size<wr.heap.size:=by omega
  have d2:=(hBr.cell (p:=⟨w.heap.size,2,none⟩) (by simp)).trans c2
  by_cases hlt:k<args.length
  ·
   obtain ⟨b,off,rfl,hbl,e0,e1,es⟩:=(HA.out.keptK (Kp.below ((hB0.trans (hBr.mono (by omega))).mono hB))).atK k hlt
   go_wp2_with fail
   refine (rightOf_any _ args[k] es).mono ?_
   rintro r w2 ⟨rfl,hb2⟩
   have hBs:=hBr.trans (hb2.mono (by omega))
   clear hb2 hBr e0 e1 d2
   cases hb:rightB args[k]
   ·
    have HE:=mkHid (HX6.out.trans (by rw [<-HP.out,allE_no hlt (by rw [chk_arg_no hb];decide),chk_arg_no hb,thenE_e (by decide)]))
    go_wp2_with fail
    go_ret
    exact ⟨by rw [HE.out];rfl,hB0.trans (hBs.mono (by omega))⟩
   have HB:=mkHid (chk_arg_ok hb)
   clear hb
   go_wp2_with fail
   go_roundw
   case rel=>exact ⟨k+1,by omega,by go_num,(allE_ok hlt HB.out).symm.trans HP.out,hBs⟩
   case measure=>simp [intOf];omega
  have HX7:=mkHid (HX6.out.trans (by rw [<-HP.out,allE_end hlt,thenE_0]))
  have d3:=(hBr.cell (p:=⟨w.heap.size,3,none⟩) (by simp)).trans c3
  have d4:=(hBr.cell (p:=⟨w.heap.size,4,none⟩) (by simp)).trans c4
  clear HP HX6
  go_wp2_with fail
  refine (rightOf_any _ ⟨rk,rc⟩ hs2).mono ?_
  rintro r w2 ⟨rfl,hb2⟩
  have hBs:=hBr.trans (hb2.mono (by omega))
  clear hb2 hBr d3 d4 d2
  have d3:=(hBs.cell (p:=⟨w.heap.size,3,none⟩) (by simp)).trans c3
  have d4:=(hBs.cell (p:=⟨w.heap.size,4,none⟩) (by simp)).trans c4
  have hw2:w.heap.size<w2.heap.size:=by have:=hBs.size;omega
  have HR:Hid (returnedB ⟨rk,rc⟩=(rightB ⟨rk,rc⟩||(decide (rk=0)&&decide (rc.size=0)))):=rfl
  cases hb:rightB ⟨rk,rc⟩
  ·
   rw [hb,Bool.false_or]at HR
   by_cases h0:rk=0
   ·
    by_cases h1:rc.size=0
    ·
     have HX8:=mkHid (HX7.out.trans (by rw [HR.out,decide_eq_true h0,decide_eq_true h1,Bool.and_self,dem_true]))
     have b0:(rk != 0)=false:=by rw [h0];rfl
     have b1:rc.toList.isEmpty=true:=by rw [e0,decide_eq_true h1]
     clear HR HX7 h0 h1 e0 hb
     go_wp2_with fail
     go_loopw [4] (fun i wr=>∃k:Nat,k<=hands.length/\i=.int .i64 k/\Hid (allE checkHand (hands.drop k)=allE checkHand hands)/\Below (w.heap.size+1) w1 wr) (fun i _=>hands.length - (intOf i).toNat)
     case atStart=>exact ⟨0,Nat.zero_le _,rfl,rfl,hBs⟩
     case round=>
      obtain ⟨k,hk,rfl,HP,hBr⟩:=hrel
      have hsz:w.heap.size+1<=wr.heap.size:=by have:=hBr.size;omega
      have hw0:w.heap.size<wr.heap.size:=by omega
      have d8:=(hBr.cell (p:=⟨w.heap.size,8,none⟩) (by simp)).trans c8
      by_cases hlt:k<hands.length
      ·
       obtain ⟨b,off,rfl,hbl,e0,e1,e2,e3,es⟩:=(HH.out.keptH (Kp.below ((hB0.trans (hBr.mono (by omega))).mono hB))).atH k hlt
       have hBa:=hBr.alloc hsz (.cells #[.int .i64 hands[k].frm,.int .i64 hands[k].upto,.int .i64 hands[k].loc,.string hands[k].cls] 98)
       go_wp2_with fail
       refine (isNameOf_any _ hands[k].cls es).mono ?_
       rintro r w2 ⟨rfl,rfl⟩
       cases h1:isNameB hands[k].cls
       ·
        have HE:=mkHid (HX8.out.trans (by rw [<-HP.out,allE_no hlt (by rw [chk_hand_no1 h1];decide),chk_hand_no1 h1]))
        go_wp2_with fail
        go_ret
        exact ⟨by rw [HE.out];rfl,hB0.trans (hBa.mono (by omega))⟩
       have H1:=mkHid h1
       clear h1
       go_wp2_with fail
       refine (betweenOf_any _ _ _).mono ?_
       rintro r w2 ⟨rfl,rfl⟩
       cases h2:win hands[k].frm 200
       ·
        have HE:=mkHid (HX8.out.trans (by rw [<-HP.out,allE_no hlt (by rw [chk_hand_no2 H1.out h2];decide),chk_hand_no2 H1.out h2]))
        go_wp2_with fail
        go_ret
        exact ⟨by rw [HE.out];rfl,hB0.trans (hBa.mono (by omega))⟩
       have H2:=mkHid h2
       clear h2
       go_wp2_with fail
       refine (betweenOf_any _ _ _).mono ?_
       rintro r w2 ⟨rfl,rfl⟩
       cases h3:win hands[k].upto 200
       ·
        have HE:=mkHid (HX8.out.trans (by rw [<-HP.out,allE_no hlt (by rw [chk_hand_no3 H1.out H2.out h3];decide),chk_hand_no3 H1.out H2.out h3]))
        go_wp2_with fail
        go_ret
        exact ⟨by rw [HE.out];rfl,hB0.trans (hBa.mono (by omega))⟩
       have H3:=mkHid h3
       clear h3
       go_wp2_with fail
       refine (betweenOf_any _ _ _).mono ?_
       rintro r w2 ⟨rfl,rfl⟩
       cases h4:win hands[k].loc 200
       ·
        have HE:=mkHid (HX8.out.trans (by rw [<-HP.out,allE_no hlt (by rw [chk_hand_no4 H1.out H2.out H3.out h4];decide),chk_hand_no4 H1.out H2.out H3.out h4]))
        go_wp2_with fail
        go_ret
        exact ⟨by rw [HE.out];rfl,hB0.trans (hBa.mono (by omega))⟩
       have HO:=mkHid (chk_hand_ok H1.out H2.out H3.out h4)
       clear h4
       go_wp2_with fail
       go_roundw
       case rel=>exact ⟨k+1,by omega,by go_num,(allE_ok hlt HO.out).symm.trans HP.out,hBa⟩
       case measure=>simp [intOf];omega
      have HE:=mkHid (HX8.out.trans (by rw [<-HP.out,allE_end hlt]))
      go_wp2_with fail
      go_ret
      exact ⟨by rw [HE.out];rfl,hB0.trans (hBr.mono (by omega))⟩
    have HE:=mkHid (HX7.out.trans (by rw [HR.out,decide_eq_false h1,Bool.and_false,dem_false]))
    have b0:(rk != 0)=false:=by rw [h0];rfl
    have b1:rc.toList.isEmpty=false:=by rw [e0,decide_eq_false h1]
    clear HR HX7 h0 h1 e0 hb
    go_wp2_with fail
    go_ret
    exact ⟨by rw [HE.out];rfl,hB0.trans (hBs.mono (by omega))⟩
   have HE:=mkHid (HX7.out.trans (by rw [HR.out,decide_eq_false h0,Bool.false_and,dem_false]))
   have b0:(rk != 0)=true:=by rw [bne_iff_ne];exact h0
   clear HR HX7 h0 e0 hb
   go_wp2_with fail
   go_ret
   exact ⟨by rw [HE.out];rfl,hB0.trans (hBs.mono (by omega))⟩
  have HX8:=mkHid (HX7.out.trans (by rw [HR.out,hb,Bool.true_or,dem_true]))
  clear HR HX7 e0 hb
  go_wp2_with fail
  go_loopw [4] (fun i wr=>∃k:Nat,k<=hands.length/\i=.int .i64 k/\Hid (allE checkHand (hands.drop k)=allE checkHand hands)/\Below (w.heap.size+1) w1 wr) (fun i _=>hands.length - (intOf i).toNat)
  case atStart=>exact ⟨0,Nat.zero_le _,rfl,rfl,hBs⟩
  case round=>
   obtain ⟨k,hk,rfl,HP,hBr⟩:=hrel
   have hsz:w.heap.size+1<=wr.heap.size:=by have:=hBr.size;omega
   have hw0:w.heap.size<wr.heap.size:=by omega
   have d8:=(hBr.cell (p:=⟨w.heap.size,8,none⟩) (by simp)).trans c8
   by_cases hlt:k<hands.length
   ·
    obtain ⟨b,off,rfl,hbl,e0,e1,e2,e3,es⟩:=(HH.out.keptH (Kp.below ((hB0.trans (hBr.mono (by omega))).mono hB))).atH k hlt
    have hBa:=hBr.alloc hsz (.cells #[.int .i64 hands[k].frm,.int .i64 hands[k].upto,.int .i64 hands[k].loc,.string hands[k].cls] 98)
    go_wp2_with fail
    refine (isNameOf_any _ hands[k].cls es).mono ?_
    rintro r w2 ⟨rfl,rfl⟩
    cases h1:isNameB hands[k].cls
    ·
     have HE:=mkHid (HX8.out.trans (by rw [<-HP.out,allE_no hlt (by rw [chk_hand_no1 h1];decide),chk_hand_no1 h1]))
     go_wp2_with fail
     go_ret
     exact ⟨by rw [HE.out];rfl,hB0.trans (hBa.mono (by omega))⟩
    have H1:=mkHid h1
    clear h1
    go_wp2_with fail
    refine (betweenOf_any _ _ _).mono ?_
    rintro r w2 ⟨rfl,rfl⟩
    cases h2:win hands[k].frm 200
    ·
     have HE:=mkHid (HX8.out.trans (by rw [<-HP.out,allE_no hlt (by rw [chk_hand_no2 H1.out h2];decide),chk_hand_no2 H1.out h2]))
     go_wp2_with fail
     go_ret
     exact ⟨by rw [HE.out];rfl,hB0.trans (hBa.mono (by omega))⟩
    have H2:=mkHid h2
    clear h2
    go_wp2_with fail
    refine (betweenOf_any _ _ _).mono ?_
    rintro r w2 ⟨rfl,rfl⟩
    cases h3:win hands[k].upto 200
    ·
     have HE:=mkHid (HX8.out.trans (by rw [<-HP.out,allE_no hlt (by rw [chk_hand_no3 H1.out H2.out h3];decide),chk_hand_no3 H1.out H2.out h3]))
     go_wp2_with fail
     go_ret
     exact ⟨by rw [HE.out];rfl,hB0.trans (hBa.mono (by omega))⟩
    have H3:=mkHid h3
    clear h3
    go_wp2_with fail
    refine (betweenOf_any _ _ _).mono ?_
    rintro r w2 ⟨rfl,rfl⟩
    cases h4:win hands[k].loc 200
    ·
     have HE:=mkHid (HX8.out.trans (by rw [<-HP.out,allE_no hlt (by rw [chk_hand_no4 H1.out H2.out H3.out h4];decide),chk_hand_no4 H1.out H2.out H3.out h4]))
     go_wp2_with fail
     go_ret
     exact ⟨by rw [HE.out];rfl,hB0.trans (hBa.mono (by omega))⟩
    have HO:=mkHid (chk_hand_ok H1.out H2.out H3.out h4)
    clear h4
    go_wp2_with fail
    go_roundw
    case rel=>exact ⟨k+1,by omega,by go_num,(allE_ok hlt HO.out).symm.trans HP.out,hBa⟩
    case measure=>simp [intOf];omega
   have HE:=mkHid (HX8.out.trans (by rw [<-HP.out,allE_end hlt]))
   go_wp2_with fail
   go_ret
   exact ⟨by rw [HE.out];rfl,hB0.trans (hBr.mono (by omega))⟩
end Go.Proofs.YtcddpmappmjilaaGreatDoor
namespace Go.Proofs.YtcddpmappmjilaaGreatDoor
open Go.RowKit
set_option maxRecDepth 100000 in
set_option maxHeartbeats 16000000 in
theorem checkClassesOf_any (w:World) (B:Nat) (l:List ClassD) (v:Value) (hv:SL 4 RC (· <B) w v l) (hB:B<=w.heap.size):
 Calls Tryz.prog 35 #[v] w fun r w'=>r=.returned (.int .i64 (checkL l))/\Below w.heap.size w w':=by
 have HV:=mkHid hv
 obtain ⟨ao,cl,rfl,hcl,hll,-⟩:=hv
 unfold maxLen at hll
 have HX0:Hid (checkL l=dem (decide (l.length<=10)) 2 (allE checkClass l)):=rfl
 generalize checkL l=X at*
 go_enter Tryz.func35,Tryz.ntmps35
 by_cases hq:l.length<=10
 rotate_left
 ·
  have hq':(10:Int)<l.length:=by omega
  have HE:=mkHid (HX0.out.trans (by rw [decide_eq_false hq,dem_false]))
  go_wp2_with fail
  go_ret
  exact ⟨by rw [HE.out];rfl,Below.refl _ _⟩
 have hq1:¬(10:Int)<l.length:=by omega
 have HX1:=mkHid (HX0.out.trans (by rw [decide_eq_true hq,dem_true]))
 clear hq HX0
 go_wp2_with fail
 go_loopw [3] (fun i wr=>∃k:Nat,k<=l.length/\i=.int .i64 k/\Hid (allE checkClass (l.drop k)=allE checkClass l)/\Below w.heap.size w wr) (fun i _=>l.length - (intOf i).toNat)
 case atStart=>exact ⟨0,Nat.zero_le _,rfl,rfl,Below.refl _ _⟩
 case round=>
  obtain ⟨k,hk,rfl,HP,hBr⟩:=hrel
  have hszr:=hBr.size
  by_cases hlt:k<l.length
  rotate_left
  ·
   have HE:=mkHid (HX1.out.trans (by rw [<-HP.out,allE_end hlt]))
   go_wp2_with fail
   go_ret
   exact ⟨by rw [HE.out];rfl,hBr⟩
  obtain ⟨b,off,vf,vm,rfl,hbl,e0,e1,e2,e3,ef,em,es1,es2⟩:=(HV.out.keptC (Kp.below (hBr.mono hB))).atC k hlt
  have HNO:=mkHid (fun (e:Int) (he:e≠0) (hc:checkClass l[k]=e)=>HX1.out.trans ((HP.out.symm.trans (allE_no hlt (by rw [hc];exact he))).trans hc))
  have HOK:=mkHid (fun (hc:checkClass l[k]=0)=>(allE_ok hlt hc).symm.trans HP.out)
  have HC0:Hid (checkClass l[k]=checkClass l[k]):=rfl
  generalize l[k]=c at*
  obtain ⟨name,super,fields,meths⟩:=c
  dsimp only at*
  have HC1:Hid (checkClass ⟨name,super,fields,meths⟩=dem (isNameB name) 1 (dem (decide (super.size=0)||isNameB super) 1 (dem (decide (fields.length<=6)) 2 (dem (decide (meths.length<=8)) 2 (thenE (allE checkField fields) (allE checkMeth meths)))))):=rfl
  generalize checkClass ⟨name,super,fields,meths⟩=Y at*
  have EF:=mkHid ef
  have EM:=mkHid em
  obtain ⟨fo,cf,rfl,hcf,hlf,-⟩:=ef
  obtain ⟨mo,cm,rfl,hcm,hlm,-⟩:=em
  unfold maxLen at hlf hlm
  have s0:=size0 super
  clear HC0 HP
  go_wp2_with fail
  generalize hW:wr.alloc (.cells #[.string name,.string super,.slice fo fields.length cf,.slice mo meths.length cm] 63)=W0
  have hz:W0.heap.size=wr.heap.size+1:=by rw [<-hW];simp
  have hB0:Below wr.heap.size wr W0:=by rw [<-hW];exact (Below.refl wr.heap.size wr).alloc (Nat.le_refl _) _
  have hBw:Below w.heap.size w W0:=hBr.trans (hB0.mono hszr)
  have c0:W0.cell? ⟨wr.heap.size,0,none⟩=some (.string name):=by rw [<-hW];simp [go_sem]
  have c1:W0.cell? ⟨wr.heap.size,1,none⟩=some (.string super):=by rw [<-hW];simp [go_sem]
  have c2:W0.cell? ⟨wr.heap.size,2,none⟩=some (.slice fo fields.length cf):=by rw [<-hW];simp [go_sem]
  have c3:W0.cell? ⟨wr.heap.size,3,none⟩=some (.slice mo meths.length cm):=by rw [<-hW];simp [go_sem]
  have hwl:wr.heap.size<W0.heap.size:=by omega
  clear hW e0 e1 e2 e3
  refine (isNameOf_any _ _ es1).mono ?_
  rintro r w1 ⟨rfl,rfl⟩
  cases hb:isNameB name
  ·
   have HE:=mkHid (HNO.out 1 (by decide) (HC1.out.trans (by rw [hb,dem_false])))
   go_wp2_with fail
   go_ret
   exact ⟨by rw [HE.out];rfl,hBw⟩
  have HC2:=mkHid (HC1.out.trans (by rw [hb,dem_true]))
  clear hb HC1
  by_cases hq:super.size=0
  ·
   have HC3:=mkHid (HC2.out.trans (by rw [decide_eq_true hq,Bool.true_or,dem_true]))
   have s1:super.toList.isEmpty=true:=by rw [s0,decide_eq_true hq]
   clear HC2 hq s0
   by_cases hq:fields.length<=6
   rotate_left
   ·
    have hq':(6:Int)<fields.length:=by omega
    have HE:=mkHid (HNO.out 2 (by decide) (HC3.out.trans (by rw [decide_eq_false hq,dem_false])))
    go_wp2_with fail
    go_ret
    exact ⟨by rw [HE.out];rfl,hBw⟩
   have hq3:¬(6:Int)<fields.length:=by omega
   have HC4:=mkHid (HC3.out.trans (by rw [decide_eq_true hq,dem_true]))
   clear hq HC3
   by_cases hq:meths.length<=8
   rotate_left
   ·
    have hq':(8:Int)<meths.length:=by omega
    have HE:=mkHid (HNO.out 2 (by decide) (HC4.out.trans (by rw [decide_eq_false hq,dem_false])))
    go_wp2_with fail
    go_ret
    exact ⟨by rw [HE.out];rfl,hBw⟩
   have hq4:¬(8:Int)<meths.length:=by omega
   have HC5:=mkHid (HC4.out.trans (by rw [decide_eq_true hq,dem_true]))
   clear hq HC4
   go_wp2_with fail
   go_loopw [5] (fun i wi=>∃j:Nat,j<=fields.length/\i=.int .i64 j/\Hid (allE checkField (fields.drop j)=allE checkField fields)/\Below (wr.heap.size+1) w1 wi) (fun i _=>fields.length - (intOf i).toNat)
   case atStart=>exact ⟨0,Nat.zero_le _,rfl,rfl,Below.refl _ _⟩
   case round=>
    rename World=>wi
    obtain ⟨j,hj,rfl,HP,hBi⟩:=hrel
    have hsz:wr.heap.size+1<=wi.heap.size:=by have:=hBi.size;omega
    have hw0:wr.heap.size<wi.heap.size:=by omega
    have d2:=(hBi.cell (p:=⟨wr.heap.size,2,none⟩) (by simp)).trans c2
    by_cases hlt2:j<fields.length
    ·
     obtain ⟨b2,off2,rfl,hbl2,e0,e1,e2,et1,et2⟩:=(EF.out.keptF (Kp.below ((hB0.trans (hBi.mono (by omega))).mono (by omega)))).atF j hlt2
     go_wp2_with fail
     refine (isNameOf_any _ fields[j].name et1).mono ?_
     rintro r w2 ⟨rfl,rfl⟩
     cases h1:isNameB fields[j].name
     ·
      have HE:=mkHid (HNO.out 1 (by decide) (HC5.out.trans (by rw [<-HP.out,allE_no hlt2 (by rw [chk_field_no1 h1];decide),chk_field_no1 h1,thenE_e (by decide)])))
      go_wp2_with fail
      go_ret
      exact ⟨by rw [HE.out];rfl,hBw.trans (hBi.mono (by omega))⟩
     have H1:=mkHid h1
     clear h1
     go_wp2_with fail
     refine (rightOf_any _ fields[j].kind et2).mono ?_
     rintro r w3 ⟨rfl,hb2⟩
     have hBs:=hBi.trans (hb2.mono (by omega))
     clear hb2 hBi e0 e1 e2 d2
     cases h2:rightB fields[j].kind
     ·
      have HE:=mkHid (HNO.out 7 (by decide) (HC5.out.trans (by rw [<-HP.out,allE_no hlt2 (by rw [chk_field_no2 H1.out h2];decide),chk_field_no2 H1.out h2,thenE_e (by decide)])))
      go_wp2_with fail
      go_ret
      exact ⟨by rw [HE.out];rfl,hBw.trans (hBs.mono (by omega))⟩
     have HO:=mkHid (chk_field_ok H1.out h2)
     clear h2
     go_wp2_with fail
     go_roundw
     case rel=>exact ⟨j+1,by omega,by go_num,(allE_ok hlt2 HO.out).symm.trans HP.out,hBs⟩
     case measure=>simp [intOf];omega
    have HC6:=mkHid (HC5.out.trans (by rw [<-HP.out,allE_end hlt2,thenE_0]))
    clear HP HC5
    have hBs:=hBi
    clear hBi
    go_wp2_with fail
    go_loopw [6] (fun i wi=>∃j:Nat,j<=meths.length/\i=.int .i64 j/\Hid (allE checkMeth (meths.drop j)=allE checkMeth meths)/\Below (wr.heap.size+1) w1 wi) (fun i _=>meths.length - (intOf i).toNat)
    case atStart=>exact ⟨0,Nat.zero_le _,rfl,rfl,hBs⟩
    case round=>
     rename World=>wi
     obtain ⟨j,hj,rfl,HP,hBi⟩:=hrel
     have hsz:wr.heap.size+1<=wi.heap.size:=by have:=hBi.size;omega
     have hw0:wr.heap.size<wi.heap.size:=by omega
     have d3:=(hBi.cell (p:=⟨wr.heap.size,3,none⟩) (by simp)).trans c3
     by_cases hlt2:j<meths.length
     ·
      obtain ⟨b2,off2,va,vh,rfl,hbl2,e0,e1,e2,e3,e4,e5,e6,e7,e8,ea,eh,et1,et2,et3⟩:=(EM.out.keptM (Kp.below ((hB0.trans (hBi.mono (by omega))).mono (by omega)))).atM j hlt2
      have EA:=mkHid ea
      have EH:=mkHid eh
      obtain ⟨ao,ca,rfl,-⟩:=ea
      obtain ⟨ho,ch,rfl,-⟩:=eh
      go_wp2_with fail
      refine (checkMethodOf_any _ B meths[j] _ _ EA.out EH.out (by omega) et1 et2).mono ?_
      rintro r w3 ⟨rfl,hb2⟩
      have hBs2:=hBi.trans (hb2.mono (by omega))
      clear hb2 hBi e0 e1 e2 e3 e4 e5 e6 e7 e8 d3 EA EH
      by_cases hc:checkMeth meths[j]=0
      ·
       have HO:=mkHid hc
       have hc':(checkMeth meths[j] != 0)=false:=by rw [hc];rfl
       clear hc
       go_wp2_with fail
       go_roundw
       case rel=>exact ⟨j+1,by omega,by go_num,(allE_ok hlt2 HO.out).symm.trans HP.out,hBs2⟩
       case measure=>simp [intOf];omega
      have HE:=mkHid (HNO.out (checkMeth meths[j]) hc (HC6.out.trans (by rw [<-HP.out,allE_no hlt2 hc])))
      have hc':(checkMeth meths[j] != 0)=true:=by rw [bne_iff_ne];exact hc
      clear hc
      go_wp2_with fail
      go_ret
      exact ⟨by rw [HE.out];rfl,hBw.trans (hBs2.mono (by omega))⟩
     have HO:=mkHid (HOK.out (HC6.out.trans (by rw [<-HP.out,allE_end hlt2])))
     go_wp2_with fail
     go_roundw
     case rel=>exact ⟨k+1,by omega,by go_num,HO.out,hBw.trans (hBi.mono (by omega))⟩
     case measure=>simp [intOf];omega
  have HC2b:=mkHid (HC2.out.trans (by rw [decide_eq_false hq,Bool.false_or]))
  have s1:super.toList.isEmpty=false:=by rw [s0,decide_eq_false hq]
  clear HC2 hq s0
  go_wp2_with fail
  refine (isNameOf_any _ _ es2).mono ?_
  rintro r w1 ⟨rfl,rfl⟩
  cases hb:isNameB super
  ·
   have HE:=mkHid (HNO.out 1 (by decide) (HC2b.out.trans (by rw [hb,dem_false])))
   go_wp2_with fail
   go_ret
   exact ⟨by rw [HE.out];rfl,hBw⟩
  have HC3:=mkHid (HC2b.out.trans (by rw [hb,dem_true]))
  clear hb HC2b
  by_cases hq:fields.length<=6
  rotate_left
  ·
   have hq':(6:Int)<fields.length:=by omega
   have HE:=mkHid (HNO.out 2 (by decide) (HC3.out.trans (by rw [decide_eq_false hq,dem_false])))
   go_wp2_with fail
   go_ret
   exact ⟨by rw [HE.out];rfl,hBw⟩
  have hq3:¬(6:Int)<fields.length:=by omega
  have HC4:=mkHid (HC3.out.trans (by rw [decide_eq_true hq,dem_true]))
  clear hq HC3
  by_cases hq:meths.length<=8
  rotate_left
  ·
   have hq':(8:Int)<meths.length:=by omega
   have HE:=mkHid (HNO.out 2 (by decide) (HC4.out.trans (by rw [decide_eq_false hq,dem_false])))
   go_wp2_with fail
   go_ret
   exact ⟨by rw [HE.out];rfl,hBw⟩
  have hq4:¬(8:Int)<meths.length:=by omega
  have HC5:=mkHid (HC4.out.trans (by rw [decide_eq_true hq,dem_true]))
  clear hq HC4
  go_wp2_with fail
  go_loopw [5] (fun i wi=>∃j:Nat,j<=fields.length/\i=.int .i64 j/\Hid (allE checkField (fields.drop j)=allE checkField fields)/\Below (wr.heap.size+1) w1 wi) (fun i _=>fields.length - (intOf i).toNat)
  case atStart=>exact ⟨0,Nat.zero_le _,rfl,rfl,Below.refl _ _⟩
  case round=>
   rename World=>wi
   obtain ⟨j,hj,rfl,HP,hBi⟩:=hrel
   have hsz:wr.heap.size+1<=wi.heap.size:=by have:=hBi.size;omega
   have hw0:wr.heap.size<wi.heap.size:=by omega
   have d2:=(hBi.cell (p:=⟨wr.heap.size,2,none⟩) (by simp)).trans c2
   by_cases hlt2:j<fields.length
   ·
    obtain ⟨b2,off2,rfl,hbl2,e0,e1,e2,et1,et2⟩:=(EF.out.keptF (Kp.below ((hB0.trans (hBi.mono (by omega))).mono (by omega)))).atF j hlt2
    go_wp2_with fail
    refine (isNameOf_any _ fields[j].name et1).mono ?_
    rintro r w2 ⟨rfl,rfl⟩
    cases h1:isNameB fields[j].name
    ·
     have HE:=mkHid (HNO.out 1 (by decide) (HC5.out.trans (by rw [<-HP.out,allE_no hlt2 (by rw [chk_field_no1 h1];decide),chk_field_no1 h1,thenE_e (by decide)])))
     go_wp2_with fail
     go_ret
     exact ⟨by rw [HE.out];rfl,hBw.trans (hBi.mono (by omega))⟩
    have H1:=mkHid h1
    clear h1
    go_wp2_with fail
    refine (rightOf_any _ fields[j].kind et2).mono ?_
    rintro r w3 ⟨rfl,hb2⟩
    have hBs:=hBi.trans (hb2.mono (by omega))
    clear hb2 hBi e0 e1 e2 d2
    cases h2:rightB fields[j].kind
    ·
     have HE:=mkHid (HNO.out 7 (by decide) (HC5.out.trans (by rw [<-HP.out,allE_no hlt2 (by rw [chk_field_no2 H1.out h2];decide),chk_field_no2 H1.out h2,thenE_e (by decide)])))
     go_wp2_with fail
     go_ret
     exact ⟨by rw [HE.out];rfl,hBw.trans (hBs.mono (by omega))⟩
    have HO:=mkHid (chk_field_ok H1.out h2)
    clear h2
    go_wp2_with fail
    go_roundw
    case rel=>exact ⟨j+1,by omega,by go_num,(allE_ok hlt2 HO.out).symm.trans HP.out,hBs⟩
    case measure=>simp [intOf];omega
   have HC6:=mkHid (HC5.out.trans (by rw [<-HP.out,allE_end hlt2,thenE_0]))
   clear HP HC5
   have hBs:=hBi
   clear hBi
   go_wp2_with fail
   go_loopw [6] (fun i wi=>∃j:Nat,j<=meths.length/\i=.int .i64 j/\Hid (allE checkMeth (meths.drop j)=allE checkMeth meths)/\Below (wr.heap.size+1) w1 wi) (fun i _=>meths.length - (intOf i).toNat)
   case atStart=>exact ⟨0,Nat.zero_le _,rfl,rfl,hBs⟩
   case round=>
    rename World=>wi
    obtain ⟨j,hj,rfl,HP,hBi⟩:=hrel
    have hsz:wr.heap.size+1<=wi.heap.size:=by have:=hBi.size;omega
    have hw0:wr.heap.size<wi.heap.size:=by omega
    have d3:=(hBi.cell (p:=⟨wr.heap.size,3,none⟩) (by simp)).trans c3
    by_cases hlt2:j<meths.length
    ·
     obtain ⟨b2,off2,va,vh,rfl,hbl2,e0,e1,e2,e3,e4,e5,e6,e7,e8,ea,eh,et1,et2,et3⟩:=(EM.out.keptM (Kp.below ((hB0.trans (hBi.mono (by omega))).mono (by omega)))).atM j hlt2
     have EA:=mkHid ea
     have EH:=mkHid eh
     obtain ⟨ao,ca,rfl,-⟩:=ea
     obtain ⟨ho,ch,rfl,-⟩:=eh
     go_wp2_with fail
     refine (checkMethodOf_any _ B meths[j] _ _ EA.out EH.out (by omega) et1 et2).mono ?_
     rintro r w3 ⟨rfl,hb2⟩
     have hBs2:=hBi.trans (hb2.mono (by omega))
     clear hb2 hBi e0 e1 e2 e3 e4 e5 e6 e7 e8 d3 EA EH
     by_cases hc:checkMeth meths[j]=0
     ·
      have HO:=mkHid hc
      have hc':(checkMeth meths[j] != 0)=false:=by rw [hc];rfl
      clear hc
      go_wp2_with fail
      go_roundw
      case rel=>exact ⟨j+1,by omega,by go_num,(allE_ok hlt2 HO.out).symm.trans HP.out,hBs2⟩
      case measure=>simp [intOf];omega
     have HE:=mkHid (HNO.out (checkMeth meths[j]) hc (HC6.out.trans (by rw [<-HP.out,allE_no hlt2 hc])))
     have hc':(checkMeth meths[j] != 0)=true:=by rw [bne_iff_ne];exact hc
     clear hc
     go_wp2_with fail
     go_ret
     exact ⟨by rw [HE.out];rfl,hBw.trans (hBs2.mono (by omega))⟩
    have HO:=mkHid (HOK.out (HC6.out.trans (by rw [<-HP.out,allE_end hlt2])))
    go_wp2_with fail
    go_roundw
    case rel=>exact ⟨k+1,by omega,by go_num,HO.out,hBw.trans (hBi.mono (by omega))⟩
    case measure=>simp [intOf];omega
end Go.Proofs.YtcddpmappmjilaaGreatDoor
