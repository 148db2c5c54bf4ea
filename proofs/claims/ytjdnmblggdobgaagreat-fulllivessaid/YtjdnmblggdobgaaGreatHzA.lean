import Derived.Test.YtjdnmblggdobgaaGreatJLPu5HuE
import Derived.Test.YtjdnmblggdobgaaGreatJTilHvE
import Derived.Test.YtjdnmblggdobgaaGreatJHyBHyC
set_option maxHeartbeats 4000000
set_option maxRecDepth 100000
namespace Go.Proofs.YtjdnmblggdobgaaGreat
open Go.RowKit Go.Maps
theorem zwx (ts:List ThD) (v:Int):(!leadB ts v)=(v != 0&& !(ts.map ThD.loc).contains v):=by
 unfold leadB
 rw [zk9]
 cases (ts.map ThD.loc).contains v<;>cases h:v==0<;>simp_all
theorem zwy (w:World) (B:Nat) (vW vO kC kS kF kN kT:Value) (h:HeapD) (d:LinkD) (g:Hd B w vW vO kC kS kF kN kT h d) (hz:Sized d h) (hd:Few d) (ts:List ThD) (hts:bothT d h=some ts) (vR:Value) (rs:List Int) (hs:SL 1 RI (· <B) w vR rs):
 Calls Tryz.prog 85 #[.agg #[vW,.int .i64 h.young,.int .i64 h.old,.int .i64 h.ytop,.int .i64 h.otop,vO,.int .i64 h.next],.agg #[kC,kS,kF,kN,kT],vR] w fun r w'=>r=.returned (.int .i64 (rootErr ts rs))/\Below w.heap.size w w':=by
 have HG:=mk0 g
 have HSR:=mk0 hs
 obtain ⟨aW,cW,aO,cO,aC,cC,aS,cS,aF,cF,aN,cN,aT,cT,rfl,rfl,rfl,rfl,rfl,rfl,rfl⟩:=g.agg
 obtain ⟨aR,cR,rfl,-,hml,-⟩:=hs
 unfold maxLen at hml
 clear g
 obtain ⟨W0,hW0,hB0,hs0,k0,k1⟩:=boxes2 w #[.slice aW h.words.length cW,.int .i64 h.young,.int .i64 h.old,.int .i64 h.ytop,.int .i64 h.otop,.slice aO h.noted.length cO,.int .i64 h.next] #[.slice aC d.classes.length cC,.slice aS d.supers.length cS,.slice aF d.fields.length cF,.slice aN d.names.length cN,.slice aT d.targets.length cT] 24 36
 have g2:=HG.out.below (hB0.mono HG.out.le)
 have HTH:=mk0 (zk0 W0 B _ _ _ _ _ _ _ h d g2.sW g2.sO g2.lk g2.le hz (fun f hf=>Nat.le_trans (hd.fs f hf) (by omega)))
 have HTS:=mk0 hts
 have HZ:=mk0 hz
 have HB0:=mk0 hB0
 have HE0:=mk0 hW0
 rw [HE0.out]at HTH
 clear k0 k1 hB0 hW0 hs0 g2 hts hz hd
 by_cases hfew:(rs.length:Int)<=1000
 rotate_left
 ·
  have HR:Hid (rootErr ts rs=2):=by show _=_;unfold rootErr;rw [if_neg (by simpa using hfew)]
  have HBB:Hid (Below w.heap.size w ((w.alloc (.cells #[.slice aW h.words.length cW,.int .i64 h.young,.int .i64 h.old,.int .i64 h.ytop,.int .i64 h.otop,.slice aO h.noted.length cO,.int .i64 h.next] 24)).alloc (.cells #[.slice aC d.classes.length cC,.slice aS d.supers.length cS,.slice aF d.fields.length cF,.slice aN d.names.length cN,.slice aT d.targets.length cT] 36))):=by rw [<-HE0.out];exact HB0.out
  clear HTH
  go_enter Tryz.func85,Tryz.ntmps85
  go_wp2_with fail
  go_ret
  exact ⟨by rw [HR.out];rfl,HBB.out⟩
 go_enter Tryz.func85,Tryz.ntmps85
 go_wp2_with fail
 refine HTH.out.mono ?_
 rw [<-HE0.out]
 rintro r w1 ⟨hb1,⟨ys,os,vy,vo,h1,h2,rfl,ho1,ho2⟩ | ⟨hno,-⟩⟩
 rotate_left
 ·
  rw [HTS.out]at hno;cases hno
 have hts:=zrw HTS.out h1 h2
 have HRS:Hid (∀v,(!leadB ts v)=(v != 0&&(!(ys.map ThD.loc).contains v&& !(os.map ThD.loc).contains v))):=fun v=>by
  rw [zwx,hts,List.map_append,List.contains_append,Bool.not_or]
 obtain ⟨m1,hm1⟩:∃m:List Int,ys.map ThD.loc=m:=⟨_,rfl⟩
 obtain ⟨m2,hm2⟩:∃m:List Int,os.map ThD.loc=m:=⟨_,rfl⟩
 rw [hm1]at ho1 HRS
 rw [hm2]at ho2 HRS
 have z1:=HZ.out.young
 have z2:=HZ.out.old
 have z4:=HZ.out.ytop
 have z5:=HZ.out.otop
 have hl1:m1.length<=1000000:=by
  have:=zhn (by omega) h1
  rw [<-hm1,List.length_map]
  omega
 have hl2:m2.length<=1000000:=by
  have:=zhn (by omega) h2
  rw [<-hm2,List.length_map]
  omega
 clear z1 z2 z4 z5
 have s1:=zfb ho1 hl1
 have s2:=zfb ho2 hl2
 have HH1:Hid (∀v,Calls Tryz.prog 74 #[vy,.int .i64 v] w1 fun r w'=>r=.returned (.bool (m1.contains v))/\w'=w1):=fun v=>zkw w1 _ _ _ s1 v
 have HH2:Hid (∀v,Calls Tryz.prog 74 #[vo,.int .i64 v] w1 fun r w'=>r=.returned (.bool (m2.contains v))/\w'=w1):=fun v=>zkw w1 _ _ _ s2 v
 obtain ⟨a1,c1,rfl⟩:=znl ho1
 obtain ⟨a2,c2,rfl⟩:=znl ho2
 have hb01:=HB0.out.trans (hb1.mono HB0.out.size)
 have HB1:=mk0 hb01
 have HSV:=mk0 (HSR.out.keptI (Kp.below (hb01.mono HG.out.le)))
 clear hb1 hb01 ho1 ho2 s1 s2 hm1 hm2 h1 h2 hts hl1 hl2 HTH
 go_wp2_with fail
 go_loopw [10] (fun i wr=>∃k:Nat,i=.int .i64 k/\k<=rs.length/\wr=w1/\Hid (∀v∈rs.take k,(!leadB ts v)=false)) (fun i _=>rs.length - (intOf i).toNat)
 case atStart=>exact ⟨0,rfl,Nat.zero_le _,rfl,fun v hv=>by cases hv⟩
 case round=>
  obtain ⟨k,rfl,hk,rfl,HP⟩:=hrel
  by_cases hlt:k<rs.length
  ·
   obtain ⟨bR,off,rfl,hbR,e0⟩:=HSV.out.atI k hlt
   have HRv:=mk0 (HRS.out rs[k])
   have HTK:Hid ((!leadB ts rs[k])=false->∀v∈rs.take (k+1),(!leadB ts v)=false):=fun hq v hv=>by
    rw [List.take_succ_eq_append_getElem hlt]at hv
    rcases List.mem_append.1 hv with hv | hv
    ·
     exact HP.out v hv
    rw [List.mem_singleton]at hv
    rw [hv];exact hq
   have HBD:Hid ((!leadB ts rs[k])=true->rootErr ts rs=5):=fun hq=>by
    unfold rootErr
    rw [if_pos (decide_eq_true hfew)]
    have:(rs.any fun x=>!leadB ts x)=true:=List.any_eq_true.2 ⟨rs[k],List.getElem_mem hlt,hq⟩
    rw [this]
    rfl
   have hA:=HH1.out rs[k]
   have hB:=HH2.out rs[k]
   generalize rs[k]=v at*
   have HA:=mk0 hA
   have HBq:=mk0 hB
   generalize (!leadB ts v)=q at*
   clear hA hB
   by_cases hv0:v=0
   ·
    have HQ:Hid (q=false):=by show _=_;rw [HRv.out,hv0];rfl
    have hv1:(v==0)=true:=by simpa using hv0
    clear HRv
    go_wp2_with fail
    go_roundw
    case rel=>exact ⟨k+1,by go_num,by omega,by trivial,HTK.out HQ.out⟩
    case measure=>simp [intOf];omega
   have hv1:(v==0)=false:=by simpa using hv0
   cases hq1:m1.contains v with
   | true=>
     have HQ:Hid (q=false):=by show _=_;rw [HRv.out,hq1];simp
     rw [hq1]at HA
     clear HRv hq1
     go_wp2_with fail
     refine HA.out.mono ?_
     rintro r _ ⟨rfl,rfl⟩
     go_wp2_with fail
     go_roundw
     case rel=>exact ⟨k+1,by go_num,by omega,by trivial,HTK.out HQ.out⟩
     case measure=>simp [intOf];omega
   | false=>
     rw [hq1]at HA
     cases hq2:m2.contains v with
     | true=>
       have HQ:Hid (q=false):=by show _=_;rw [HRv.out,hq1,hq2];simp
       rw [hq2]at HBq
       clear HRv hq1 hq2
       go_wp2_with fail
       refine HA.out.mono ?_
       rintro r _ ⟨rfl,rfl⟩
       go_wp2_with fail
       refine HBq.out.mono ?_
       rintro r _ ⟨rfl,rfl⟩
       go_wp2_with fail
       go_roundw
       case rel=>exact ⟨k+1,by go_num,by omega,by trivial,HTK.out HQ.out⟩
       case measure=>simp [intOf];omega
     | false=>
       have HQ:Hid (q=true):=by show _=_;rw [HRv.out,hq1,hq2];simpa using hv0
       rw [hq2]at HBq
       clear HRv hq1 hq2
       go_wp2_with fail
       refine HA.out.mono ?_
       rintro r _ ⟨rfl,rfl⟩
       go_wp2_with fail
       refine HBq.out.mono ?_
       rintro r _ ⟨rfl,rfl⟩
       go_wp2_with fail
       go_ret
       exact ⟨by rw [HBD.out HQ.out];rfl,HB1.out⟩
  have HR:Hid (rootErr ts rs=0):=by
   show _=_
   unfold rootErr
   rw [if_pos (decide_eq_true hfew)]
   have:(rs.any fun x=>!leadB ts x)=false:=List.any_eq_false.2 fun v hv=>by
    have hp:=HP.out
    rw [List.take_of_length_le (by omega)]at hp
    rw [hp v hv];decide
   rw [this]
   rfl
  go_wp2_with fail
  go_ret
  exact ⟨by rw [HR.out];rfl,HB1.out⟩
theorem zwz (w:World) (B:Nat) (vW vO kC kS kF kN kT:Value) (h:HeapD) (d:LinkD) (g:Hd B w vW vO kC kS kF kN kT h d) (hnb:h.next<=9223372036854775807) (vR:Value) (rs:List Int) (hs:SL 1 RI (· <B) w vR rs):
 Calls Tryz.prog 34 #[.agg #[vW,.int .i64 h.young,.int .i64 h.old,.int .i64 h.ytop,.int .i64 h.otop,vO,.int .i64 h.next],.agg #[kC,kS,kF,kN,kT],vR] w fun r w'=>r=.returned (.int .i64 (openErr d h rs))/\Below w.heap.size w w':=by
 have HG:=mk0 g
 have HSR:=mk0 hs
 obtain ⟨aW,cW,aO,cO,aC,cC,aS,cS,aF,cF,aN,cN,aT,cT,rfl,rfl,rfl,rfl,rfl,rfl,rfl⟩:=g.agg
 obtain ⟨aR,cR,rfl,-⟩:=hs
 clear g
 obtain ⟨W0,hW0,hB0,hs0,k0,k1⟩:=boxes2 w #[.slice aW h.words.length cW,.int .i64 h.young,.int .i64 h.old,.int .i64 h.ytop,.int .i64 h.otop,.slice aO h.noted.length cO,.int .i64 h.next] #[.slice aC d.classes.length cC,.slice aS d.supers.length cS,.slice aF d.fields.length cF,.slice aN d.names.length cN,.slice aT d.targets.length cT] 24 36
 have lk0:=lt0 k0
 have lk1:=lt0 k1
 have HB0:=mk0 hB0
 have HE0:=mk0 hW0
 have HK0:=mk0 (And.intro k0 k1)
 have HGV:Hid (∀V,Below W0.heap.size W0 V->Hd B V (.slice aW h.words.length cW) (.slice aO h.noted.length cO) (.slice aC d.classes.length cC) (.slice aS d.supers.length cS) (.slice aF d.fields.length cF) (.slice aN d.names.length cN) (.slice aT d.targets.length cT) h d):=fun V hV=>HG.out.below ((hB0.trans (hV.mono hB0.size)).mono HG.out.le)
 have HSV:Hid (∀V,Below W0.heap.size W0 V->SL 1 RI (· <B) V (.slice aR rs.length cR) rs):=fun V hV=>HSR.out.keptI (Kp.below ((hB0.trans (hV.mono hB0.size)).mono HG.out.le))
 have HOH:=mk0 (zro W0 B _ _ _ _ _ _ _ h d (HGV.out W0 (Below.refl _ _)) hnb)
 rw [HE0.out]at HOH
 have hE:heapErr d h=0\/heapErr d h≠0:=by omega
 clear hB0 hW0 hs0 hnb k0 k1
 rcases hE with hE | hE
 ·
  obtain ⟨ts,rt⟩:=zs6 hE
  have HCR:=mk0 (fun V (hV:Below W0.heap.size W0 V)=>zwy V B _ _ _ _ _ _ _ h d (HGV.out V hV) rt.sized (zkh rt.ok) ts rt.both (.slice aR rs.length cR) rs (HSV.out V hV))
  have HR:Hid (openErr d h rs=rootErr ts rs):=by
   show _=_
   unfold openErr tsOf
   rw [if_pos hE,rt.both]
   rfl
  rw [hE]at HOH
  clear rt hE
  go_enter Tryz.func34,Tryz.ntmps34
  go_wp2_with fail
  refine HOH.out.mono ?_
  rw [<-HE0.out]
  rintro r w1 ⟨rfl,hb1⟩
  have j0:=(hb1.block _ lk0).trans HK0.out.1
  have j1:=(hb1.block _ lk1).trans HK0.out.2
  obtain ⟨a0,a1,a2,a3,a4,a5,a6,az,al⟩:=cells7 j0
  obtain ⟨b0,b1,b2,b3,b4,bl⟩:=cells5 j1
  have HB1:=mk0 hb1
  have HC1:=mk0 (HCR.out w1 hb1)
  clear hb1 j0 j1 HOH HCR
  go_wp2_with fail
  refine HC1.out.mono ?_
  rintro r w2 ⟨rfl,hb2⟩
  have HB2:Hid (Below w.heap.size w w2):=HB0.out.trans ((HB1.out.trans (hb2.mono HB1.out.size)).mono HB0.out.size)
  clear hb2 HC1
  go_wp2_with fail
  go_ret
  exact ⟨by rw [HR.out];rfl,HB2.out⟩
 have HR:Hid (openErr d h rs=heapErr d h):=by show _=_;unfold openErr;rw [if_neg hE]
 have hne:(heapErr d h==0)=false:=by simpa using hE
 go_enter Tryz.func34,Tryz.ntmps34
 go_wp2_with fail
 refine HOH.out.mono ?_
 rw [<-HE0.out]
 rintro r w1 ⟨rfl,hb1⟩
 have HB1:Hid (Below w.heap.size w w1):=HB0.out.trans (hb1.mono HB0.out.size)
 clear hb1 HOH
 go_wp2_with fail
 go_ret
 exact ⟨by rw [HR.out];rfl,HB1.out⟩
end Go.Proofs.YtjdnmblggdobgaaGreat
