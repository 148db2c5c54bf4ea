import Derived.Test.YtjdnmblggdobgaaGreatJHqBHvA
import Derived.Test.YtjdnmblggdobgaaGreatJTk2Dies
set_option maxHeartbeats 60000000
set_option maxRecDepth 100000
namespace Go.Proofs.YtjdnmblggdobgaaGreat
open Go.RowKit Go.Maps
theorem zoj (w:World) (B:Nat) (vW vO kC kS kF kN kT:Value) (h:HeapD) (d:LinkD) (sW:SL 1 RI (· <B) w vW h.words) (sO:SL 1 RI (· <B) w vO h.noted) (lk:RLk (· <B) w kC kS kF kN kT d) (hB:B<=w.heap.size) (hd:Few d) (hnb:h.next<=9223372036854775807):
 Calls Tryz.prog 55 #[.agg #[vW,.int .i64 h.young,.int .i64 h.old,.int .i64 h.ytop,.int .i64 h.otop,vO,.int .i64 h.next],.agg #[kC,kS,kF,kN,kT]] w fun r w'=>r=.returned (.int .i64 (refRes d h))/\Below w.heap.size w w':=by
 obtain ⟨W0,hW0⟩:∃W0,W0=(w.alloc (.cells #[vW,.int .i64 h.young,.int .i64 h.old,.int .i64 h.ytop,.int .i64 h.otop,vO,.int .i64 h.next] 24)).alloc (.cells #[kC,kS,kF,kN,kT] 36):=⟨_,rfl⟩
 have hrd:Rd w.heap.size B W0 vW vO kC kS kF kN kT h d:=hW0 ▸ Rd.new w B _ _ _ _ _ _ _ h d hB sW sO lk
 have hB0:Below w.heap.size w W0:=hW0 ▸ ((Below.refl _ _).alloc (Nat.le_refl _) _).alloc (by simp) _
 have HRD:=mk0 hrd
 have HB0:=mk0 hB0
 have HE0:=mk0 hW0
 have HS0:Hid (W0.heap.size=w.heap.size+2):=by show _=_;rw [hW0];simp
 obtain ⟨aC,cC,aS,cS,aF,cF,aN,cN,aT,cT,rfl,rfl,rfl,rfl,rfl⟩:=lk.agg
 obtain ⟨aW,cW,rfl,-,hmW,-⟩:=sW
 obtain ⟨aO,cO,rfl,-,hmO,-⟩:=sO
 unfold maxLen at hmW hmO
 rw [hW0]at HB0
 clear lk hrd hB0 hW0
 have HPT:Hid (partsB h=(btw h.young 3 2000&&btw h.old 3 2000)):=rfl
 cases hy:btw h.young 3 2000 with
 | false=>
   have HR:Hid (refRes d h=3):=by show refRes d h=3;unfold refRes;rw [HPT.out,hy];rfl
   go_enter Tryz.func55,Tryz.ntmps55
   go_wp2_with (first | (go_at_call 78;refine (zks _ _ _ _).mono ?_;rintro r _ ⟨rfl,rfl⟩))
   go_ret
   exact ⟨by rw [HR.out];rfl,HB0.out⟩
 | true=>
   cases ho:btw h.old 3 2000 with
   | false=>
     have HR:Hid (refRes d h=3):=by show refRes d h=3;unfold refRes;rw [HPT.out,hy,ho];rfl
     go_enter Tryz.func55,Tryz.ntmps55
     go_wp2_with (first | (go_at_call 78;refine (zks _ _ _ _).mono ?_;rintro r _ ⟨rfl,rfl⟩))
     go_ret
     exact ⟨by rw [HR.out];rfl,HB0.out⟩
   | true=>
     have hp:partsB h=true:=by rw [HPT.out,hy,ho];rfl
     have HRP:Hid (refRes d h=if wordsB h then (if topsB h then (match walkT d.classes.length d.fields h.words 1 h.ytop,walkT d.classes.length d.fields h.words (h.young+1) h.otop with | some ys,some os=>refThings d h (ys++os) os | _,_=>1) else 3) else 1):=by show refRes d h=_;unfold refRes;rw [hp];rfl
     have hy':=hy
     have ho':=ho
     unfold btw at hy' ho'
     simp only [Bool.and_eq_true,decide_eq_true_eq]at hy' ho'
     obtain ⟨z1,z2⟩:=hy'
     obtain ⟨z3,z4⟩:=ho'
     have w1:IntKind.i64.wrap (1+h.young)=1+h.young:=ws0 _ (by omega) (by omega)
     have w2:IntKind.i64.wrap (1+h.young+h.old)=1+h.young+h.old:=ws0 _ (by omega) (by omega)
     have w3:IntKind.i64.wrap (h.young+1)=h.young+1:=ws0 _ (by omega) (by omega)
     have w4:IntKind.i64.wrap (h.young+h.old)=h.young+h.old:=ws0 _ (by omega) (by omega)
     have w5:IntKind.i64.wrap (h.young+h.old+1)=h.young+h.old+1:=ws0 _ (by omega) (by omega)
     by_cases hw:(h.words.length:Int)=1+h.young+h.old
     ·
      have hwb:((h.words.length:Int)==1+h.young+h.old)=true:=beq_iff_eq.2 hw
      have hwd:wordsB h=true:=by unfold wordsB;exact decide_eq_true hw
      have HTP:Hid (topsB h=(btw h.ytop 1 (h.young+1)&&btw h.otop (h.young+1) (h.young+h.old+1)&&decide (1<=h.next))):=by
       show topsB h=_
       unfold topsB btw
       simp only [Bool.and_assoc]
      have HRT:Hid (topsB h=false->refRes d h=3):=fun e=>by rw [HRP.out,hwd,e];rfl
      have HWL:=mk0 hw
      have HWB:=mk0 hwd
      clear hw hwd
      cases ht1:btw h.ytop 1 (h.young+1)with
      | false=>
        have HR:Hid (refRes d h=3):=HRT.out (by rw [HTP.out,ht1];rfl)
        go_enter Tryz.func55,Tryz.ntmps55
        go_wp2_with (first | (go_at_call 78;refine (zks _ _ _ _).mono ?_;rintro r _ ⟨rfl,rfl⟩))
        go_ret
        exact ⟨by rw [HR.out];rfl,HB0.out⟩
      | true=>
        cases ht2:btw h.otop (h.young+1) (h.young+h.old+1)with
        | false=>
          have HR:Hid (refRes d h=3):=HRT.out (by rw [HTP.out,ht1,ht2];rfl)
          go_enter Tryz.func55,Tryz.ntmps55
          go_wp2_with (first | (go_at_call 78;refine (zks _ _ _ _).mono ?_;rintro r _ ⟨rfl,rfl⟩))
          go_ret
          exact ⟨by rw [HR.out];rfl,HB0.out⟩
        | true=>
          by_cases hn:h.next<1
          ·
           have HR:Hid (refRes d h=3):=HRT.out (by rw [HTP.out,ht1,ht2,decide_eq_false (by omega)];rfl)
           have hnd:decide (h.next<1)=true:=by simp [hn]
           go_enter Tryz.func55,Tryz.ntmps55
           go_wp2_with (first | (go_at_call 78;refine (zks _ _ _ _).mono ?_;rintro r _ ⟨rfl,rfl⟩))
           go_ret
           exact ⟨by rw [HR.out];rfl,HB0.out⟩
          have hnd:decide (h.next<1)=false:=by simp;omega
          have htp:topsB h=true:=by rw [HTP.out,ht1,ht2,decide_eq_true (by omega)];rfl
          have hz:=zkj hd hp HWB.out htp
          have wn:IntKind.i64.wrap (h.next - 1)=h.next - 1:=ws0 _ (by omega) (by omega)
          have HTH:=mk0 (zk0 W0 B _ _ _ _ _ _ _ h d HRD.out.sW HRD.out.sO HRD.out.lk (by have:=HRD.out.le;have:=HS0.out;omega) hz (fun f hf=>Nat.le_trans (hd.fs f hf) (by omega)))
          rw [HE0.out]at HTH
          have HRM:Hid (refRes d h=match walkT d.classes.length d.fields h.words 1 h.ytop,walkT d.classes.length d.fields h.words (h.young+1) h.otop with | some ys,some os=>refThings d h (ys++os) os | _,_=>1):=by
           show refRes d h=_
           rw [HRP.out,HWB.out,htp]
           rfl
          have HZ:=mk0 hz
          have HD:=mk0 hd
          obtain ⟨bW,oW,rfl,-,-⟩:=HRD.out.sW.atI 0 (by have:=HWL.out;omega)
          have hnl:¬h.next<1:=hn
          clear hz hd HRP HRT HTP HPT htp hp HWB hn
          go_enter Tryz.func55,Tryz.ntmps55
          go_wp2_with (first | (go_at_call 78;refine (zks _ _ _ _).mono ?_;rintro r _ ⟨rfl,rfl⟩) | (go_at_call 73;refine HTH.out.mono ?_))
          rw [<-HE0.out]
          rintro r w1 ⟨hb1,ho1⟩
          rw [<-HE0.out]at HB0
          have HB1:=mk0 hb1
          have HF1:Hid (Below w.heap.size w w1):=HB0.out.trans (hb1.mono HB0.out.size)
          clear hb1 HTH
          rcases ho1 with ⟨ys,os,vy,vo,hys,hos,rfl,hoy,hoo⟩ | ⟨hno,a,n,c,a',n',c',rfl⟩
          ·
           have hly:=zhn (by have:=HZ.out.ytop;omega) hys
           have hlo:=zhn (by have:=HZ.out.otop;omega) hos
           have hzy:=HZ.out.ytop
           have hzo:=HZ.out.otop
           have HRR:Hid (refRes d h=refThings d h (ys++os) os):=by show refRes d h=_;rw [HRM.out,hys,hos]
           have HLN:Hid ((ys.map ThD.loc).length<=1000000/\(os.map ThD.loc).length<=1000000/\ys.length+os.length<=900000):=⟨by rw [List.length_map];omega,by rw [List.length_map];omega,by omega⟩
           have HSY:Hid (SL 1 RI (· <w1.heap.size) w1 vy (ys.map ThD.loc)):=(zfb hoy HLN.out.1).monoI fun k hk=>hk.lt
           have HSO:Hid (SL 1 RI (· <w1.heap.size) w1 vo (os.map ThD.loc)):=(zfb hoo HLN.out.2.1).monoI fun k hk=>hk.lt
           have HLA:Hid (∀t∈ys++os,FitT d t/\0<=t.loc/\t.fin<=h.words.length):=fun t ht=>by
            have z1:=HZ.out.young
            have z2:=HZ.out.old
            have z3:=HZ.out.len
            rcases List.mem_append.1 ht with ht | ht
            ·
             have hr:=zkm hys t ht
             exact ⟨zko HD.out hr (by omega) (by omega),by have:=hr.1;omega,by have:=hr.2.1;omega⟩
            have hr:=zkm hos t ht
            exact ⟨zko HD.out hr (by omega) (by omega),by have:=hr.1;omega,by have:=hr.2.1;omega⟩
           have HTQ:=mk0 (zle hys hos)
           obtain ⟨ay,cy,rfl⟩:=zfz hoy
           obtain ⟨aD,cD,rfl⟩:=zfz hoo
           have HOE:=mk0 (zjx w1 3 1)
           have HKA:Hid (Below w1.heap.size w1 (w1.alloc (.cells #[] 3))):=(Below.refl _ _).alloc (Nat.le_refl _) _
           have HSY1:=mk0 (HSY.out.keptI (Kp.below HKA.out))
           have HBD:Hid ((([]:List Int).length+(ys.map ThD.loc).length<=1000000)/\w1.heap.size<=(w1.alloc (.cells #[] 3)).heap.size):=⟨by rw [List.length_nil,Nat.zero_add];exact HLN.out.1,by simp⟩
           clear hoy hoo hly hlo hys hos HRM
           have hlY:(ys.map ThD.loc).length=ys.length:=List.length_map _
           have hlO:(os.map ThD.loc).length=os.length:=List.length_map _
           have HLY:=mk0 hlY
           have HLO:=mk0 hlO
           clear hlY hlO
           generalize hyl:ys.map ThD.loc=yl at*
           generalize hol:os.map ThD.loc=ol at*
           have HYL:=mk0 hyl
           have HOL:=mk0 hol
           clear hyl hol
           go_wp2_with (at_builtin;refine zir _ rfl _ _ rfl w1.heap.size (.slice (some ⟨w1.heap.size,0,none⟩) 0 0) [] rfl HOE.out (· <w1.heap.size) (.slice ay yl.length cy) yl rfl HSY1.out HBD.out.1 HBD.out.2 ?_)
           intro v2 w2 hown2 hgr2
           have hB2:Below w1.heap.size w1 w2:=HKA.out.grown hgr2 (by simp) (fun k e=>by cases e;exact Nat.le_refl _)
           have HSO2:=mk0 (HSO.out.keptI (Kp.below hB2))
           obtain ⟨a2,c2,rfl⟩:=zfz hown2
           have HO2:=mk0 hown2
           have HB2:=mk0 hB2
           have hs2:=hB2.size
           have HBE:Hid (yl.length+ol.length<=1000000):=by have h1:=HLN.out.2.2;have h2:=HLY.out;have h3:=HLO.out;show _<=_;omega
           clear hown2 hgr2 hB2 HSY1 HOE
           go_wp2_with (at_builtin;refine zir _ rfl _ _ rfl w1.heap.size (.slice a2 yl.length c2) yl rfl HO2.out (· <w1.heap.size) (.slice aD ol.length cD) ol rfl HSO2.out HBE.out hs2 ?_)
           intro v3 W4 hown3 hgr3
           have hB3:Below w1.heap.size w1 W4:=HB2.out.grown hgr3 hs2 (fun k e=>(HO2.out.lt k e).1)
           obtain ⟨ts,hts⟩:∃ts,ts=ys++os:=⟨_,rfl⟩
           have hlt:(yl++ol)=ts.map ThD.loc:=by rw [hts,List.map_append,HYL.out,HOL.out]
           have hown4:W4.ownsRow w1.heap.size 3 1 v3 ts.length (intV (ts.map ThD.loc)):=by
            have e:ts.length=(yl++ol).length:=by rw [hlt,List.length_map]
            rw [<-hlt,e,List.length_append]
            exact hown3
           obtain ⟨aA,cA,rfl⟩:=zfz hown4
           have hle:(ts.map ThD.loc).length<=1000000:=by rw [<-hlt,List.length_append];exact HBE.out
           have HX:Hid (∀V,Below W4.heap.size W4 V->Rd w.heap.size B V (.slice (some ⟨bW,oW,none⟩) h.words.length cW) (.slice aO h.noted.length cO) (.slice aC d.classes.length cC) (.slice aS d.supers.length cS) (.slice aF d.fields.length cF) (.slice aN d.names.length cN) (.slice aT d.targets.length cT) h d/\SL 1 RI (· <W4.heap.size) V (.slice aA ts.length cA) (ts.map ThD.loc)/\SL 1 RI (· <W4.heap.size) V (.slice aD os.length cD) (os.map ThD.loc)):=fun V hV=>by
            have hs3:=hB3.size
            have hbV:Below W0.heap.size W0 V:=HB1.out.trans ((hB3.trans (hV.mono hs3)).mono HB1.out.size)
            refine ⟨HRD.out.below hbV,?_,?_⟩
            ·
             have:=zfb (ns:=ts.map ThD.loc) (by rw [List.length_map];exact hown4) hle
             exact (this.monoI (M':=(· <W4.heap.size)) fun k hk=>hk.lt).keptI (Kp.below hV)
            have:=(HSO.out.keptI (Kp.below hB3)).monoI (M':=(· <W4.heap.size)) fun k hk=>Nat.lt_of_lt_of_le hk hs3
            rw [HOL.out,<-HLO.out]
            exact this.keptI (Kp.below hV)
           have HBF:Hid (∀V,Below W4.heap.size W4 V->Below w.heap.size w V):=fun V hV=>HF1.out.trans ((hB3.trans (hV.mono hB3.size)).mono HF1.out.size)
           have HOS:Hid (∀t∈os,t∈ts):=fun t ht=>by rw [hts];exact List.mem_append.2 (Or.inr ht)
           have HFN:Hid (∀t∈ts,0<=t.loc/\t.fin<=h.words.length):=fun t ht=>by rw [hts]at ht;exact (HLA.out t ht).2
           have HTS:Hid (∀t∈ts,∃ln:Nat,t.loc=ln/\∃(hl2:ln+2<h.words.length),FitT d t/\t=thAt h.words ln/\h.words[ln+2]=t.hash):=fun t ht=>by
            rw [hts]at ht
            obtain ⟨hf,h1,h2⟩:=HLA.out t ht
            have h3:=hf.lo
            have h4:t.fin=t.loc+3+t.len:=rfl
            have h5:=HTQ.out t ht
            have h6:t.loc=(t.loc.toNat:Int):=by omega
            have h7:t.loc.toNat+2<h.words.length:=by omega
            refine ⟨t.loc.toNat,h6,h7,hf,by rw [<-h6];exact h5,?_⟩
            have h8:t.hash=wd h.words (t.loc+2):=by rw [h5];rfl
            rw [h8,show t.loc+2=((t.loc.toNat+2:Nat):Int) by omega,zen h7]
           rw [<-hts]at HRR
           have hoL:=HLO.out
           clear hown3 hgr3 hB3 hlt hown4 hle hts HSO2 HO2 HB2 HBE HLY HLA HTQ HSY HSO HYL HKA
           rw [hoL]
           clear hoL HLO HOL
           have q0:ts.length<=9223372036854775807:=by
            obtain ⟨a,c,e,-,hm,-⟩:=(HX.out W4 (Below.refl _ _)).2.1
            unfold maxLen at hm
            rw [List.length_map]at hm
            omega
           have q0':os.length<=9223372036854775807:=by
            obtain ⟨a,c,e,-,hm,-⟩:=(HX.out W4 (Below.refl _ _)).2.2
            unfold maxLen at hm
            rw [List.length_map]at hm
            omega
           go_wp2_with fail
           go_loopw [9] (fun i wr=>∃k:Nat,k<=ts.length/\i=.int .i64 k/\Hid ((ts.take k).any (bad1 h)=false/\Below W4.heap.size W4 wr)) (fun i _=>ts.length - (intOf i).toNat)
           case atStart=>exact ⟨0,Nat.zero_le _,rfl,by simp,Below.refl _ _⟩
           case round=>
            rename World=>wr
            obtain ⟨k,hk,rfl,HQ⟩:=hrel
            have hsr:W4.heap.size<=wr.heap.size:=HQ.out.2.size
            by_cases hlt:k<ts.length
            ·
             obtain ⟨hr,hA,-⟩:=HX.out wr HQ.out.2
             obtain ⟨ln,hln,hl2,hft,hth,hhs⟩:=HTS.out _ (List.getElem_mem hlt)
             have p0:=cl0 hr.b0 0 (x:=.slice (some ⟨bW,oW,none⟩) h.words.length cW) rfl
             have p6:=cl0 hr.b0 6 (x:=.int .i64 h.next) rfl
             have lp:=lt0 hr.b0
             obtain ⟨bA,oA,rfl,hbA,eA⟩:=hA.atI k (by simpa using hlt)
             rw [List.getElem_map,hln]at eA
             obtain ⟨b',o',e',hbW,eW⟩:=hr.sW.atI (ln+2) hl2
             cases e'
             rw [hhs]at eW
             have q1:(0:Int)<=k:=by omega
             have q2:(k:Int)<ts.length:=by omega
             have q3:(0:Int)<=(ln:Int)+2:=by omega
             have q4:(ln:Int)+2<h.words.length:=by omega
             have q5:((ln:Int)+2).toNat=ln+2:=by omega
             have w2:IntKind.i64.wrap ((ln:Int)+2)=(ln:Int)+2:=ws0 _ (by omega) (by omega)
             cases hb:btw ts[k].hash 1 (h.next - 1)with
             | true=>
               have HN:Hid ((ts.take (k+1)).any (bad1 h)=false/\∀n,Below W4.heap.size W4 (wr.drewN n)):=⟨zk1 hlt HQ.out.1 (by unfold bad1;rw [hb];rfl),fun n=>zdq HQ.out.2 n⟩
               generalize ts[k].hash=hs at*
               clear hr hA HQ hft hth hhs hln
               go_wp2_with fail
               go_quiet ((go_at_call 78;exact Calls.quiet_of_same (zks _ _ _ _)))
               go_wp2_with fail
               go_roundw
               case rel=>exact ⟨k+1,by omega,by go_num,HN.out.1,HN.out.2 _⟩
               case measure=>simp [intOf];omega
             | false=>
               have HR:Hid (refRes d h=3/\∀n,Below w.heap.size w (wr.drewN n)):=⟨HRR.out.trans (by unfold refThings;rw [if_pos (zk2 hlt (by unfold bad1;rw [hb];rfl))]),fun n=>zdq (HBF.out wr HQ.out.2) n⟩
               generalize ts[k].hash=hs at*
               clear hr hA HQ hft hth hhs hln
               go_wp2_with fail
               go_quiet ((go_at_call 78;exact Calls.quiet_of_same (zks _ _ _ _)))
               go_wp2_with fail
               go_ret
               exact ⟨by rw [HR.out.1];rfl,HR.out.2 _⟩
            have H1:Hid (ts.any (bad1 h)=false):=zk3 hlt HQ.out.1
            have HB1:=mk0 HQ.out.2
            clear HQ
            go_wp2_with fail
            clear hsr hk hlt
            go_loopw [10] (fun i wr=>∃k:Nat,k<=ts.length/\i=.int .i64 k/\Hid (((ts.map ThD.hash).take k).Nodup/\Below W4.heap.size W4 wr)) (fun i _=>ts.length - (intOf i).toNat)
            case atStart=>exact ⟨0,Nat.zero_le _,rfl,by simp,HB1.out⟩
            case round=>
             rename World=>wr
             obtain ⟨k,hk,rfl,HQ⟩:=hrel
             have hsr:W4.heap.size<=wr.heap.size:=HQ.out.2.size
             by_cases hlt:k<ts.length
             ·
              have HQ0:=mk0 HQ.out
              clear HQ
              go_wp2_with fail
              go_loopw [11] (fun i wr=>∃j:Nat,j<=k/\i=.int .i64 j/\Hid (ts[k].hash∉((ts.map ThD.hash).take j)/\Below W4.heap.size W4 wr)) (fun i _=>k - (intOf i).toNat)
              case atStart=>exact ⟨0,Nat.zero_le _,rfl,by simp,HQ0.out.2⟩
              case round=>
               rename World=>wr
               obtain ⟨j,hj,rfl,HQ⟩:=hrel
               by_cases hjk:j<k
               ·
                obtain ⟨hr,hA,-⟩:=HX.out wr HQ.out.2
                have hjt:j<ts.length:=by omega
                obtain ⟨ln,hln,hl2,-,-,hhs⟩:=HTS.out _ (List.getElem_mem hlt)
                obtain ⟨lm,hlm,hm2,-,-,hms⟩:=HTS.out _ (List.getElem_mem hjt)
                have p0:=cl0 hr.b0 0 (x:=.slice (some ⟨bW,oW,none⟩) h.words.length cW) rfl
                have lp:=lt0 hr.b0
                obtain ⟨bA,oA,rfl,hbA,eA⟩:=hA.atI k (by simpa using hlt)
                obtain ⟨b'',o'',e'',-,eB⟩:=hA.atI j (by simpa using hjt)
                cases e''
                rw [List.getElem_map,hln]at eA
                rw [List.getElem_map,hlm]at eB
                obtain ⟨b',o',e',hbW,eW⟩:=hr.sW.atI (ln+2) hl2
                cases e'
                rw [hhs]at eW
                obtain ⟨b',o',e',-,eV⟩:=hr.sW.atI (lm+2) hm2
                cases e'
                rw [hms]at eV
                have q1:(0:Int)<=k:=by omega
                have q2:(k:Int)<ts.length:=by omega
                have r1:(0:Int)<=j:=by omega
                have r2:(j:Int)<ts.length:=by omega
                have r6:(j:Int)<k:=by omega
                have q3:(0:Int)<=(ln:Int)+2:=by omega
                have q4:(ln:Int)+2<h.words.length:=by omega
                have q5:((ln:Int)+2).toNat=ln+2:=by omega
                have w2:IntKind.i64.wrap ((ln:Int)+2)=(ln:Int)+2:=ws0 _ (by omega) (by omega)
                have r3:(0:Int)<=(lm:Int)+2:=by omega
                have r4:(lm:Int)+2<h.words.length:=by omega
                have r5:((lm:Int)+2).toNat=lm+2:=by omega
                have w3:IntKind.i64.wrap ((lm:Int)+2)=(lm:Int)+2:=ws0 _ (by omega) (by omega)
                by_cases hh:ts[k].hash=ts[j].hash
                ·
                 have HR:Hid (refRes d h=6/\∀n,Below w.heap.size w (wr.drewN n)):=⟨HRR.out.trans (by
                  unfold refThings
                  have:¬(ts.map ThD.hash).Nodup:=zk7 (l:=ts.map ThD.hash) (k:=k) (j:=j) (by simpa using hlt) hjk (by simpa using hh.symm)
                  rw [if_neg (by rw [H1.out];decide),if_pos (by rw [decide_eq_false this];rfl)]),fun n=>zdq (HBF.out wr HQ.out.2) n⟩
                 have hhb:(ts[k].hash==ts[j].hash)=true:=beq_iff_eq.2 hh
                 generalize ts[k].hash=x at*
                 generalize ts[j].hash=y at*
                 clear hr hA HQ hhs hms hln hlm HQ0 hh
                 go_wp2_with fail
                 go_quiet (fail)
                 go_wp2_with fail
                 go_ret
                 exact ⟨by rw [HR.out.1];rfl,HR.out.2 _⟩
                have hhb:(ts[k].hash==ts[j].hash)=false:=beq_eq_false_iff_ne.2 hh
                have HN:Hid (ts[k].hash∉((ts.map ThD.hash).take (j+1))/\∀n,Below W4.heap.size W4 (wr.drewN n)):=⟨by
                 rw [List.take_succ_eq_append_getElem (by simpa using hjt),List.mem_append]
                 rintro (hm | hm)
                 ·
                  exact HQ.out.1 hm
                 simp at hm
                 exact hh hm,fun n=>zdq HQ.out.2 n⟩
                generalize ts[k].hash=x at*
                generalize ts[j].hash=y at*
                clear hr hA HQ hhs hms hln hlm HQ0
                go_wp2_with fail
                go_quiet (fail)
                go_wp2_with fail
                go_roundw
                case rel=>exact ⟨j+1,by omega,by go_num,HN.out.1,HN.out.2 _⟩
                case measure=>simp [intOf];omega
               have hje:j=k:=by omega
               have HN:Hid (((ts.map ThD.hash).take (k+1)).Nodup/\Below W4.heap.size W4 wr):=⟨zk6 (by simpa using hlt) HQ0.out.1 (by rw [List.getElem_map];have:=HQ.out.1;rw [hje]at this;exact this),HQ.out.2⟩
               clear HQ HQ0
               go_wp2_with fail
               go_roundw
               case rel=>exact ⟨k+1,by omega,by go_num,HN.out.1,HN.out.2⟩
               case measure=>simp [intOf];omega
             have H2:Hid ((ts.map ThD.hash).Nodup):=by
              have:=HQ.out.1
              rwa [List.take_of_length_le (by rw [List.length_map];omega)]at this
             have HB2:=mk0 HQ.out.2
             clear HQ
             go_wp2_with fail
             clear hsr hk hlt
             go_loopw [12] (fun i wr=>∃k:Nat,k<=ts.length/\i=.int .i64 k/\Hid ((ts.take k).any (bad3 d h ts)=false/\Below W4.heap.size W4 wr)) (fun i _=>ts.length - (intOf i).toNat)
             case atStart=>exact ⟨0,Nat.zero_le _,rfl,by simp,HB2.out⟩
             case round=>
              rename World=>wr
              obtain ⟨k,hk,rfl,HQ⟩:=hrel
              have hsr:W4.heap.size<=wr.heap.size:=HQ.out.2.size
              by_cases hlt:k<ts.length
              ·
               obtain ⟨hr,hA,-⟩:=HX.out wr HQ.out.2
               obtain ⟨ln,hln,hl2,hft,hth,-⟩:=HTS.out _ (List.getElem_mem hlt)
               have p0:=cl0 hr.b0 0 (x:=.slice (some ⟨bW,oW,none⟩) h.words.length cW) rfl
               have p1:=cl0 hr.b0 1 (x:=.int .i64 h.young) rfl
               have p2:=cl0 hr.b0 2 (x:=.int .i64 h.old) rfl
               have p3:=cl0 hr.b0 3 (x:=.int .i64 h.ytop) rfl
               have p4:=cl0 hr.b0 4 (x:=.int .i64 h.otop) rfl
               have p5:=cl0 hr.b0 5 (x:=.slice aO h.noted.length cO) rfl
               have p6:=cl0 hr.b0 6 (x:=.int .i64 h.next) rfl
               have lp:=lt0 hr.b0
               have y0:=cl0 hr.b1 0 (x:=.slice aC d.classes.length cC) rfl
               have y1:=cl0 hr.b1 1 (x:=.slice aS d.supers.length cS) rfl
               have y2:=cl0 hr.b1 2 (x:=.slice aF d.fields.length cF) rfl
               have y3:=cl0 hr.b1 3 (x:=.slice aN d.names.length cN) rfl
               have y4:=cl0 hr.b1 4 (x:=.slice aT d.targets.length cT) rfl
               have ly:=lt0 hr.b1
               obtain ⟨bA,oA,rfl,hbA,eA⟩:=hA.atI k (by simpa using hlt)
               rw [List.getElem_map,hln]at eA
               have q1:(0:Int)<=k:=by omega
               have q2:(k:Int)<ts.length:=by omega
               have HRW:Hid (∀V,Below wr.heap.size wr V->Calls Tryz.prog 87 #[.agg #[.slice (some ⟨bW,oW,none⟩) h.words.length cW,.int .i64 h.young,.int .i64 h.old,.int .i64 h.ytop,.int .i64 h.otop,.slice aO h.noted.length cO,.int .i64 h.next],.agg #[.slice aC d.classes.length cC,.slice aS d.supers.length cS,.slice aF d.fields.length cF,.slice aN d.names.length cN,.slice aT d.targets.length cT],.int .i64 (ln:Int)] V fun r w'=>Below V.heap.size V w'/\∃v,r=.returned v/\w'.ownsRow V.heap.size 3 1 v (refsOf d.fields ts[k]).length (intV (refsOf d.fields ts[k]))):=fun V hV=>by
                have hr2:=hr.below hV
                rw [hth]at hft ⊢
                exact zkz V B _ _ _ _ _ _ _ h d hr2.sW hr2.sO hr2.lk (by have:=hr2.le;have:=lt0 hr2.b0;omega) ln hl2 (by have:=HWL.out;omega) hft
               have HRI:Hid (∀a∈refsOf d.fields ts[k],∃an:Nat,a=an/\an<h.words.length):=fun a ha=>by
                have:=zh2 d.fields ts[k] ha
                have h2:=(HFN.out _ (List.getElem_mem hlt)).1
                have h3:=(HFN.out _ (List.getElem_mem hlt)).2
                have h4:ts[k].fin=ts[k].loc+3+ts[k].len:=rfl
                exact ⟨a.toNat,by omega,by omega⟩
               have HRL:Hid ((refsOf d.fields ts[k]).length<=1000000):=by
                have:=zhr d.fields ts[k] ts[k].len.toNat
                have h3:=hft.hi
                have:(refsOf d.fields ts[k]).length<=ts[k].len.toNat:=this
                show _<=_
                omega
               have HQ0:=mk0 HQ.out
               have HST:Hid ((refsOf d.fields ts[k]).any (bad3a h ts)=bad3 d h ts ts[k]):=rfl
               generalize refsOf d.fields ts[k]=rf at*
               clear hr hA HQ hft hth
               go_wp2_with fail
               refine wp_region_held_drew (S:=fun W'=>∀p:Addr,p.block<wr.heap.size->W'.cell? p=wr.cell? p) (by kernel_rfl) (fun p hp=>rfl) fun hH=>?_
               refine zag 8 rfl fun a ha=>?_
               have sza:a.tmps.size=288:=by rw [ha];rfl
               have ta2:∀h,a.tmps[2]'h=.pointer (some ⟨w.heap.size,0,none⟩):=by rw [ha];exact fun _=>rfl
               have ta3:∀h,a.tmps[3]'h=.pointer (some ⟨w.heap.size+1,0,none⟩):=by rw [ha];exact fun _=>rfl
               have ta8:∀h,a.tmps[8]'h=.slice (some ⟨bA,oA,none⟩) ts.length cA:=by rw [ha];exact fun _=>rfl
               have ta12:∀h,a.tmps[12]'h=.int .i64 (k:Int):=by rw [ha];exact fun _=>rfl
               have HA:=mk0 ha
               clear ha
               refine tka 0 137 (.agg #[.slice (some ⟨bW,oW,none⟩) h.words.length cW,.int .i64 h.young,.int .i64 h.old,.int .i64 h.ytop,.int .i64 h.otop,.slice aO h.noted.length cO,.int .i64 h.next]) rfl hH ?_
               refine tka 1 138 (.agg #[.slice aC d.classes.length cC,.slice aS d.supers.length cS,.slice aF d.fields.length cF,.slice aN d.names.length cN,.slice aT d.targets.length cT]) rfl hH ?_
               refine tka 2 139 (.slice (some ⟨bA,oA,none⟩) ts.length cA) rfl hH ?_
               refine tka 3 140 (.int .i64 (k:Int)) rfl hH ?_
               refine tka 4 141 (.pointer (some ⟨bA,oA+k,none⟩)) rfl hH ?_
               refine tka 5 142 (.int .i64 (ln:Int)) rfl hH ?_
               refine wpAnyH_ready (rs:=[6]) (by kernel_rfl) (by simp) ?_
               refine AllReadyH.cons rfl (fun K6 hK6=>?_) AllReadyH.nil
               go_simp
               refine (HRW.out _ (Below.refl _ _).drew).mono ?_
               rintro r w5 ⟨hb5,v5,rfl,hown5⟩
               have hb6:Below wr.heap.size wr w5:=(Below.refl wr.heap.size wr).drew.trans hb5
               refine hK6.out _ _ (fun p hp=>hb6.cell hp) fun hH=>?_
               rw [zab]
               refine tka 7 13 (v5) rfl hH ?_
               refine wpAnyH_done (by kernel_rfl) ?_ _
               clear hH
               rw [HA.out]
               clear HA sza ta2 ta3 ta8 ta12
               simp only [Act.put,List.setIfInBounds_toArray,List.set_cons_zero,List.set_cons_succ]
               have HX5:Hid (∀V,Below w5.heap.size w5 V->Below W4.heap.size W4 V/\SL 1 RI (· <w5.heap.size) V v5 rf):=fun V hV=>by
                have hs5:=hb6.size
                refine ⟨HQ0.out.2.trans ((hb6.trans (hV.mono hs5)).mono hsr),?_⟩
                exact ((zfb hown5 HRL.out).monoI (M':=(· <w5.heap.size)) fun k hk=>hk.lt).keptI (Kp.below hV)
               obtain ⟨a5,c5,rfl⟩:=zfz hown5
               have q9:rf.length<=1000000:=HRL.out
               have HB5:Hid (Below W4.heap.size W4 w5):=(HX5.out w5 (Below.refl _ _)).1
               clear hb5 hb6 hown5 p0 p1 p2 p3 p4 p5 p6 y0 y1 y2 y3 y4 lp ly eA hbA HRW
               go_wp2_with fail
               go_loopw [14] (fun i wr=>∃j:Nat,j<=rf.length/\i=.int .i64 j/\Hid ((rf.take j).any (bad3a h ts)=false/\Below w5.heap.size w5 wr)) (fun i _=>rf.length - (intOf i).toNat)
               case atStart=>exact ⟨0,Nat.zero_le _,rfl,by simp,Below.refl _ _⟩
               case round=>
                rename World=>wr
                obtain ⟨j,hj,rfl,HQ⟩:=hrel
                by_cases hjt:j<rf.length
                ·
                 obtain ⟨hB5,hR5⟩:=HX5.out wr HQ.out.2
                 obtain ⟨hr,hA,-⟩:=HX.out wr hB5
                 obtain ⟨an,han,hal⟩:=HRI.out _ (List.getElem_mem hjt)
                 have p0:=cl0 hr.b0 0 (x:=.slice (some ⟨bW,oW,none⟩) h.words.length cW) rfl
                 have lp:=lt0 hr.b0
                 obtain ⟨b5,o5,rfl,hb5,e5⟩:=hR5.atI j hjt
                 rw [han]at e5
                 obtain ⟨b',o',e',hbW,eW⟩:=hr.sW.atI an hal
                 cases e'
                 have r1:(0:Int)<=j:=by omega
                 have r2:(j:Int)<rf.length:=by omega
                 have q3:(0:Int)<=(an:Int):=by omega
                 have q4:(an:Int)<h.words.length:=by omega
                 have HHS:Hid (∀V n,V=wr.drewN n->Calls Tryz.prog 74 #[.slice (some ⟨bA,oA,none⟩) ts.length cA,.int .i64 h.words[an]] V fun r w'=>r=.returned (.bool ((ts.map ThD.loc).contains h.words[an]))/\w'=V):=fun V n e=>by
                  have hv:=hA.keptI (Kp.below (zdq (Below.refl W4.heap.size wr) n))
                  subst e
                  simpa using zkw _ _ _ _ hv h.words[an]
                 have HBA:Hid (bad3a h ts rf[j]=(h.words[an] != 0&& !(ts.map ThD.loc).contains h.words[an])):=by
                  show bad3a h ts rf[j]=_
                  unfold bad3a
                  rw [han,zen hal]
                 have HNX:Hid (bad3a h ts rf[j]=false->(rf.take (j+1)).any (bad3a h ts)=false/\∀n,Below w5.heap.size w5 (wr.drewN n)):=fun hb=>⟨zk1 hjt HQ.out.1 hb,fun n=>zdq HQ.out.2 n⟩
                 have HNO:Hid (bad3a h ts rf[j]=true->refRes d h=5/\∀n,Below w.heap.size w (wr.drewN n)):=fun hb=>⟨HRR.out.trans (by
                  unfold refThings
                  rw [if_neg (by rw [H1.out];decide),if_neg (by rw [decide_eq_true H2.out];decide),if_pos (zk2 hlt (by rw [<-HST.out];exact zk2 hjt hb))]),fun n=>zdq (HBF.out wr hB5) n⟩
                 generalize rf[j]=a at*
                 generalize h.words[an]=x at*
                 generalize (ts.map ThD.loc).contains x=ct at*
                 clear hr hA hR5 hB5 HQ han HQ0 HST
                 by_cases hx:x=0
                 ·
                  subst hx
                  have HN:=mk0 (HNX.out (HBA.out.trans (by simp)))
                  clear HNX HNO HBA HHS
                  go_wp2_with fail
                  go_quiet (fail)
                  go_wp2_with fail
                  go_roundw
                  case rel=>exact ⟨j+1,by omega,by go_num,HN.out.1,HN.out.2 _⟩
                  case measure=>simp [intOf];omega
                 have hxb:(x==0)=false:=beq_eq_false_iff_ne.2 hx
                 cases ct with
                 | true=>
                   have HN:=mk0 (HNX.out (HBA.out.trans (by simp)))
                   clear HNX HNO HBA
                   go_wp2_with fail
                   go_quiet ((go_at_call 74;exact Calls.quiet_of_same (HHS.out _ _ rfl)))
                   go_wp2_with fail
                   go_roundw
                   case rel=>exact ⟨j+1,by omega,by go_num,HN.out.1,HN.out.2 _⟩
                   case measure=>simp [intOf];omega
                 | false=>
                   have HR:=mk0 (HNO.out (HBA.out.trans (by simp [bne,hxb])))
                   clear HNX HNO HBA
                   go_wp2_with fail
                   go_quiet ((go_at_call 74;exact Calls.quiet_of_same (HHS.out _ _ rfl)))
                   go_wp2_with fail
                   go_ret
                   exact ⟨by rw [HR.out.1];rfl,HR.out.2 _⟩
                have HN:Hid ((ts.take (k+1)).any (bad3 d h ts)=false/\Below W4.heap.size W4 wr):=⟨zk1 hlt HQ0.out.1 (by rw [<-HST.out];exact zk3 hjt HQ.out.1),(HX5.out wr HQ.out.2).1⟩
                clear HQ HQ0
                go_wp2_with fail
                go_roundw
                case rel=>exact ⟨k+1,by omega,by go_num,HN.out.1,HN.out.2⟩
                case measure=>simp [intOf];omega
              have H3:Hid (ts.any (bad3 d h ts)=false):=zk3 hlt HQ.out.1
              have HB3:=mk0 HQ.out.2
              clear HQ
              go_wp2_with fail
              clear hsr hk hlt
              go_loopw [15] (fun i wr=>∃k:Nat,k<=h.words.length/\i=.int .i64 k/\Hid ((∀j,j<k->bad4 h j=false)/\Below W4.heap.size W4 wr)) (fun i _=>h.words.length - (intOf i).toNat)
              case atStart=>exact ⟨0,Nat.zero_le _,rfl,(fun j hj=>by omega),HB3.out⟩
              case round=>
               rename World=>wr
               obtain ⟨k,hk,rfl,HQ⟩:=hrel
               have hsr:W4.heap.size<=wr.heap.size:=HQ.out.2.size
               obtain ⟨hr,-,-⟩:=HX.out wr HQ.out.2
               have p0:=cl0 hr.b0 0 (x:=.slice (some ⟨bW,oW,none⟩) h.words.length cW) rfl
               have p1:=cl0 hr.b0 1 (x:=.int .i64 h.young) rfl
               have p3:=cl0 hr.b0 3 (x:=.int .i64 h.ytop) rfl
               have p4:=cl0 hr.b0 4 (x:=.int .i64 h.otop) rfl
               have lp:=lt0 hr.b0
               by_cases hlt:k<h.words.length
               ·
                obtain ⟨b',o',e',hbW,eW⟩:=hr.sW.atI k hlt
                cases e'
                have q1:(0:Int)<=k:=by omega
                have q2:(k:Int)<h.words.length:=by omega
                have HBA:Hid (bad4 h k=(h.words[k] != 0&&(k==0||btw k h.ytop h.young||decide (h.otop<=k)))):=by
                 show bad4 h k=_
                 unfold bad4
                 rw [zen hlt]
                have HNX:Hid (bad4 h k=false->(∀j,j<k+1->bad4 h j=false)/\Below W4.heap.size W4 wr):=fun hb=>⟨fun j hj=>by
                 by_cases e:j=k
                 ·
                  rw [e];exact hb
                 exact HQ.out.1 j (by omega),HQ.out.2⟩
                have HNO:Hid (bad4 h k=true->refRes d h=1/\Below w.heap.size w wr):=fun hb=>⟨HRR.out.trans (by
                 unfold refThings
                 rw [if_neg (by rw [H1.out];decide),if_neg (by rw [decide_eq_true H2.out];decide),if_neg (by rw [H3.out];decide),if_pos (zk4 hlt hb)]),HBF.out wr HQ.out.2⟩
                generalize h.words[k]=x at*
                clear hr HQ
                have hkb:((k:Int)==0)=(k==0):=by cases k<;>simp;omega
                by_cases hx:x=0
                ·
                 subst hx
                 have HN:=mk0 (HNX.out (HBA.out.trans (by simp)))
                 clear HNX HNO HBA
                 go_wp2_with (first | (go_at_call 78;refine (zks _ _ _ _).mono ?_;rintro r _ ⟨rfl,rfl⟩))
                 go_roundw
                 case rel=>exact ⟨k+1,by omega,by go_num,HN.out.1,HN.out.2⟩
                 case measure=>simp [intOf];omega
                have hxb:(x==0)=false:=beq_eq_false_iff_ne.2 hx
                have hxn:(x != 0)=true:=by simp [bne,hxb]
                rw [hxn,Bool.true_and]at HBA
                by_cases hk0:(k:Int)=0
                ·
                 have hk1:(k==0)=true:=by simp;omega
                 have hk2:((k:Int)==0)=true:=beq_iff_eq.2 hk0
                 have HR:=mk0 (HNO.out (HBA.out.trans (by rw [hk1];rfl)))
                 clear HNX HNO HBA hk0 hk1 hkb
                 go_wp2_with (first | (go_at_call 78;refine (zks _ _ _ _).mono ?_;rintro r _ ⟨rfl,rfl⟩))
                 go_ret
                 exact ⟨by rw [HR.out.1];rfl,HR.out.2⟩
                have hk1:(k==0)=false:=by simp;omega
                have hk2:((k:Int)==0)=false:=beq_eq_false_iff_ne.2 hk0
                rw [hk1,Bool.false_or]at HBA
                cases hbt:btw k h.ytop h.young with
                | true=>
                  have HR:=mk0 (HNO.out (HBA.out.trans (by rw [hbt];rfl)))
                  clear HNX HNO HBA hk1 hkb
                  go_wp2_with (first | (go_at_call 78;refine (zks _ _ _ _).mono ?_;rintro r _ ⟨rfl,rfl⟩))
                  go_ret
                  exact ⟨by rw [HR.out.1];rfl,HR.out.2⟩
                | false=>
                  by_cases hot:h.otop<=k
                  ·
                   have HR:=mk0 (HNO.out (HBA.out.trans (by rw [hbt];simp [hot])))
                   clear HNX HNO HBA hk1 hkb
                   go_wp2_with (first | (go_at_call 78;refine (zks _ _ _ _).mono ?_;rintro r _ ⟨rfl,rfl⟩))
                   go_ret
                   exact ⟨by rw [HR.out.1];rfl,HR.out.2⟩
                  have HN:=mk0 (HNX.out (HBA.out.trans (by rw [hbt];simp [hot]<;>omega)))
                  clear HNX HNO HBA hk1 hkb
                  go_wp2_with (first | (go_at_call 78;refine (zks _ _ _ _).mono ?_;rintro r _ ⟨rfl,rfl⟩))
                  go_roundw
                  case rel=>exact ⟨k+1,by omega,by go_num,HN.out.1,HN.out.2⟩
                  case measure=>simp [intOf];omega
               have H4:Hid ((List.range h.words.length).any (bad4 h)=false):=zk5 fun j hj=>HQ.out.1 j (by omega)
               have HB4:=mk0 HQ.out.2
               clear HQ hr
               go_wp2_with fail
               clear hsr hk hlt p0 p1 p3 p4 lp
               go_loopw [16] (fun i wr=>∃k:Nat,k<=h.noted.length/\i=.int .i64 k/\Hid ((∀j,j<k->bad5 d h os j=false)/\Below W4.heap.size W4 wr)) (fun i _=>h.noted.length - (intOf i).toNat)
               case atStart=>exact ⟨0,Nat.zero_le _,rfl,(fun j hj=>by omega),HB4.out⟩
               case round=>
                rename World=>wr
                obtain ⟨k,hk,rfl,HQ⟩:=hrel
                have hsr:W4.heap.size<=wr.heap.size:=HQ.out.2.size
                obtain ⟨hr,-,hD⟩:=HX.out wr HQ.out.2
                have p0:=cl0 hr.b0 0 (x:=.slice (some ⟨bW,oW,none⟩) h.words.length cW) rfl
                have p1:=cl0 hr.b0 1 (x:=.int .i64 h.young) rfl
                have p2:=cl0 hr.b0 2 (x:=.int .i64 h.old) rfl
                have p3:=cl0 hr.b0 3 (x:=.int .i64 h.ytop) rfl
                have p4:=cl0 hr.b0 4 (x:=.int .i64 h.otop) rfl
                have p5:=cl0 hr.b0 5 (x:=.slice aO h.noted.length cO) rfl
                have p6:=cl0 hr.b0 6 (x:=.int .i64 h.next) rfl
                have lp:=lt0 hr.b0
                have y0:=cl0 hr.b1 0 (x:=.slice aC d.classes.length cC) rfl
                have y1:=cl0 hr.b1 1 (x:=.slice aS d.supers.length cS) rfl
                have y2:=cl0 hr.b1 2 (x:=.slice aF d.fields.length cF) rfl
                have y3:=cl0 hr.b1 3 (x:=.slice aN d.names.length cN) rfl
                have y4:=cl0 hr.b1 4 (x:=.slice aT d.targets.length cT) rfl
                have ly:=lt0 hr.b1
                by_cases hlt:k<h.noted.length
                ·
                 obtain ⟨bN,oN,rfl,hbN,eN⟩:=hr.sO.atI k hlt
                 have q1:(0:Int)<=k:=by omega
                 have q2:(k:Int)<h.noted.length:=by omega
                 have HHS:Hid (∀V,Below wr.heap.size wr V->Calls Tryz.prog 74 #[.slice aD os.length cD,.int .i64 h.noted[k]] V fun r w'=>r=.returned (.bool ((os.map ThD.loc).contains h.noted[k]))/\w'=V):=fun V hV=>by
                  have hv:=hD.keptI (Kp.below (hV.mono hsr))
                  simpa using zkw _ _ _ _ hv h.noted[k]
                 have HRW:Hid ((os.map ThD.loc).contains h.noted[k]=true->∀V,Below wr.heap.size wr V->Calls Tryz.prog 87 #[.agg #[.slice (some ⟨bW,oW,none⟩) h.words.length cW,.int .i64 h.young,.int .i64 h.old,.int .i64 h.ytop,.int .i64 h.otop,.slice (some ⟨bN,oN,none⟩) h.noted.length cO,.int .i64 h.next],.agg #[.slice aC d.classes.length cC,.slice aS d.supers.length cS,.slice aF d.fields.length cF,.slice aN d.names.length cN,.slice aT d.targets.length cT],.int .i64 h.noted[k]] V fun r w'=>Below V.heap.size V w'/\∃a c,r=.returned (.slice a (refsOf d.fields (thAt h.words h.noted[k])).length c)):=fun hct V hV=>by
                  obtain ⟨t,ht,e⟩:=List.mem_map.1 (List.contains_iff_mem.1 hct)
                  obtain ⟨ln,hln,hl2,hft,hth,-⟩:=HTS.out t (HOS.out t ht)
                  have hr2:=hr.below hV
                  rw [<-e,hln]
                  rw [hth]at hft
                  refine (zkz V B _ _ _ _ _ _ _ h d hr2.sW hr2.sO hr2.lk (by have:=hr2.le;have:=lt0 hr2.b0;omega) ln hl2 (by have:=HWL.out;omega) hft).mono ?_
                  rintro r w' ⟨hb,v,rfl,ho⟩
                  obtain ⟨a,c,rfl⟩:=zfz ho
                  exact ⟨hb,a,c,rfl⟩
                 have HBA:Hid (bad5 d h os k=(decide (0<k/\wd h.noted k<=wd h.noted ((k:Int) - 1))|| !(os.map ThD.loc).contains h.noted[k]||(refsOf d.fields (thAt h.words h.noted[k])).isEmpty)):=by
                  show bad5 d h os k=_
                  unfold bad5
                  rw [zen hlt]
                 have HNX:Hid (bad5 d h os k=false->(∀j,j<k+1->bad5 d h os j=false)/\∀V,Below wr.heap.size wr V->Below W4.heap.size W4 V):=fun hb=>⟨fun j hj=>by
                  by_cases e:j=k
                  ·
                   rw [e];exact hb
                  exact HQ.out.1 j (by omega),fun V hV=>HQ.out.2.trans (hV.mono hsr)⟩
                 have HNO:Hid (bad5 d h os k=true->refRes d h=4/\∀V,Below wr.heap.size wr V->Below w.heap.size w V):=fun hb=>⟨HRR.out.trans (by
                  unfold refThings
                  rw [if_neg (by rw [H1.out];decide),if_neg (by rw [decide_eq_true H2.out];decide),if_neg (by rw [H3.out];decide),if_neg (by rw [H4.out];decide),if_pos (zk4 hlt hb)]),fun V hV=>HBF.out V (HQ.out.2.trans (hV.mono hsr))⟩
                 have hie:(refsOf d.fields (thAt h.words h.noted[k])).isEmpty=decide (((refsOf d.fields (thAt h.words h.noted[k])).length:Int)=0):=by
                  cases refsOf d.fields (thAt h.words h.noted[k])<;>simp
                  omega
                 rw [hie]at HBA
                 clear hie
                 generalize (refsOf d.fields (thAt h.words h.noted[k])).length=rl at*
                 have HWK:Hid (wd h.noted k=h.noted[k]):=zen hlt
                 generalize (os.map ThD.loc).contains h.noted[k]=ct at*
                 by_cases hk0:0<(k:Int)
                 ·
                  obtain ⟨k1,hk1⟩:∃k1:Nat,(k:Int) - 1=k1:=⟨k - 1,by omega⟩
                  have hk1l:k1<h.noted.length:=by omega
                  obtain ⟨b',o',e',-,eM⟩:=hr.sO.atI k1 hk1l
                  cases e'
                  have HWJ:Hid (wd h.noted ((k:Int) - 1)=h.noted[k1]):=by show _=_;rw [hk1];exact zen hk1l
                  have wk:IntKind.i64.wrap ((k:Int) - 1)=(k1:Int):=by rw [hk1];exact ws0 _ (by omega) (by omega)
                  have q3:(0:Int)<=k1:=by omega
                  have q4:(k1:Int)<h.noted.length:=by omega
                  have hdk:decide (0<(k:Int))=true:=by simp;omega
                  by_cases hle:h.noted[k]<=h.noted[k1]
                  ·
                   have hdl:decide (h.noted[k]<=h.noted[k1])=true:=by simp [hle]
                   have HR:=mk0 (HNO.out (HBA.out.trans (by rw [HWK.out,HWJ.out,decide_eq_true ⟨by omega,hle⟩];rfl)))
                   generalize h.noted[k]=n0 at*
                   generalize h.noted[k1]=n1 at*
                   clear hr hD HQ HNX HNO HBA HRW HHS HWK HWJ hk1
                   go_wp2_with fail
                   refine wp_region_held_drew (S:=fun W'=>∀p:Addr,p.block<wr.heap.size->W'.cell? p=wr.cell? p) (by kernel_rfl) (fun p hp=>rfl) fun hH=>?_
                   refine zag 38 rfl fun a ha=>?_
                   have sza:a.tmps.size=288:=by rw [ha];rfl
                   have ta2:∀h,a.tmps[2]'h=.pointer (some ⟨w.heap.size,0,none⟩):=by rw [ha];exact fun _=>rfl
                   have ta3:∀h,a.tmps[3]'h=.pointer (some ⟨w.heap.size+1,0,none⟩):=by rw [ha];exact fun _=>rfl
                   have ta6:∀h,a.tmps[6]'h=.slice aD os.length cD:=by rw [ha];exact fun _=>rfl
                   have ta16:∀h,a.tmps[16]'h=.int .i64 (k:Int):=by rw [ha];exact fun _=>rfl
                   have HA:=mk0 ha
                   clear ha
                   refine tka 0 210 (.int .i64 (k:Int)) rfl hH ?_
                   refine tk 1 211 (.bool true) rfl (by kernel_rfl) (fun _ _ _ h=>h) ?_ hH ?_
                   ·
                    intro w hSw;go_simp
                    omega
                   refine tka 2 212 (.bool true) rfl hH ?_
                   refine tkga 3 213 2 212 true (.pointer (some ⟨w.heap.size,5,none⟩)) rfl rfl hH ?_
                   refine tkga 4 214 2 212 true (.slice (some ⟨bN,oN,none⟩) h.noted.length cO) rfl rfl hH ?_
                   refine tkga 5 215 2 212 true (.int .i64 (k:Int)) rfl rfl hH ?_
                   refine tkga 6 216 2 212 true (.pointer (some ⟨bN,oN+k,none⟩)) rfl rfl hH ?_
                   refine tkga 7 217 2 212 true (.int .i64 n0) rfl rfl hH ?_
                   refine tkga 8 218 2 212 true (.pointer (some ⟨w.heap.size,5,none⟩)) rfl rfl hH ?_
                   refine tkga 9 219 2 212 true (.slice (some ⟨bN,oN,none⟩) h.noted.length cO) rfl rfl hH ?_
                   refine tkga 10 220 2 212 true (.int .i64 (k:Int)) rfl rfl hH ?_
                   refine tkga 11 221 2 212 true (.int .i64 (k1:Int)) rfl rfl hH ?_
                   refine tkga 12 222 2 212 true (.pointer (some ⟨bN,oN+k1,none⟩)) rfl rfl hH ?_
                   refine tkga 13 223 2 212 true (.int .i64 n1) rfl rfl hH ?_
                   refine tkga 14 224 2 212 true (.bool true) rfl rfl hH ?_
                   refine tka 15 225 (.bool true) rfl hH ?_
                   refine tka 16 226 (.bool true) rfl hH ?_
                   refine tksa 17 227 16 226 false rfl rfl hH ?_
                   refine tksa 18 228 16 226 false rfl rfl hH ?_
                   refine tksa 19 229 16 226 false rfl rfl hH ?_
                   refine tksa 20 230 16 226 false rfl rfl hH ?_
                   refine tksa 21 231 16 226 false rfl rfl hH ?_
                   refine tksa 22 232 16 226 false rfl rfl hH ?_
                   refine tksa 23 233 16 226 false rfl rfl hH ?_
                   refine tksa 24 234 16 226 false rfl rfl hH ?_
                   refine tka 25 235 (.bool true) rfl hH ?_
                   refine tka 26 236 (.bool true) rfl hH ?_
                   refine tksa 27 237 26 236 false rfl rfl hH ?_
                   refine tksa 28 238 26 236 false rfl rfl hH ?_
                   refine tksa 29 239 26 236 false rfl rfl hH ?_
                   refine tksa 30 240 26 236 false rfl rfl hH ?_
                   refine tksa 31 241 26 236 false rfl rfl hH ?_
                   refine tksa 32 242 26 236 false rfl rfl hH ?_
                   refine tksa 33 243 26 236 false rfl rfl hH ?_
                   refine tksa 34 244 26 236 false rfl rfl hH ?_
                   refine tksa 35 245 26 236 false rfl rfl hH ?_
                   refine tksa 36 246 26 236 false rfl rfl hH ?_
                   refine tka 37 247 (.bool true) rfl hH ?_
                   refine wpAnyH_done (by kernel_rfl) ?_ _
                   clear hH
                   rw [HA.out]
                   clear HA sza ta2 ta3 ta6 ta16
                   simp only [Act.put,List.setIfInBounds_toArray,List.set_cons_zero,List.set_cons_succ]
                   go_wp2_with fail
                   go_ret
                   exact ⟨by rw [HR.out.1];rfl,HR.out.2 _ (Below.refl _ _).drew⟩
                  have hdl:decide (h.noted[k]<=h.noted[k1])=false:=by simp;omega
                  rw [HWK.out,HWJ.out,decide_eq_false (fun hh=>hle hh.2),Bool.false_or]at HBA
                  generalize h.noted[k]=n0 at*
                  generalize h.noted[k1]=n1 at*
                  clear hr hD HQ HWK HWJ hk1
                  cases ct with
                  | false=>
                    have HR:=mk0 (HNO.out (HBA.out.trans (by simp)))
                    clear HNX HNO HBA HRW
                    go_wp2_with fail
                    refine wp_region_held_drew (S:=fun W'=>∀p:Addr,p.block<wr.heap.size->W'.cell? p=wr.cell? p) (by kernel_rfl) (fun p hp=>rfl) fun hH=>?_
                    refine zag 38 rfl fun a ha=>?_
                    have sza:a.tmps.size=288:=by rw [ha];rfl
                    have ta2:∀h,a.tmps[2]'h=.pointer (some ⟨w.heap.size,0,none⟩):=by rw [ha];exact fun _=>rfl
                    have ta3:∀h,a.tmps[3]'h=.pointer (some ⟨w.heap.size+1,0,none⟩):=by rw [ha];exact fun _=>rfl
                    have ta6:∀h,a.tmps[6]'h=.slice aD os.length cD:=by rw [ha];exact fun _=>rfl
                    have ta16:∀h,a.tmps[16]'h=.int .i64 (k:Int):=by rw [ha];exact fun _=>rfl
                    have HA:=mk0 ha
                    clear ha
                    refine tka 0 210 (.int .i64 (k:Int)) rfl hH ?_
                    refine tk 1 211 (.bool true) rfl (by kernel_rfl) (fun _ _ _ h=>h) ?_ hH ?_
                    ·
                     intro w hSw;go_simp
                     omega
                    refine tka 2 212 (.bool true) rfl hH ?_
                    refine tkga 3 213 2 212 true (.pointer (some ⟨w.heap.size,5,none⟩)) rfl rfl hH ?_
                    refine tkga 4 214 2 212 true (.slice (some ⟨bN,oN,none⟩) h.noted.length cO) rfl rfl hH ?_
                    refine tkga 5 215 2 212 true (.int .i64 (k:Int)) rfl rfl hH ?_
                    refine tkga 6 216 2 212 true (.pointer (some ⟨bN,oN+k,none⟩)) rfl rfl hH ?_
                    refine tkga 7 217 2 212 true (.int .i64 n0) rfl rfl hH ?_
                    refine tkga 8 218 2 212 true (.pointer (some ⟨w.heap.size,5,none⟩)) rfl rfl hH ?_
                    refine tkga 9 219 2 212 true (.slice (some ⟨bN,oN,none⟩) h.noted.length cO) rfl rfl hH ?_
                    refine tkga 10 220 2 212 true (.int .i64 (k:Int)) rfl rfl hH ?_
                    refine tkga 11 221 2 212 true (.int .i64 (k1:Int)) rfl rfl hH ?_
                    refine tkga 12 222 2 212 true (.pointer (some ⟨bN,oN+k1,none⟩)) rfl rfl hH ?_
                    refine tkga 13 223 2 212 true (.int .i64 n1) rfl rfl hH ?_
                    refine tkga 14 224 2 212 true (.bool false) rfl rfl hH ?_
                    refine tka 15 225 (.bool false) rfl hH ?_
                    refine tka 16 226 (.bool false) rfl hH ?_
                    refine tkga 17 227 16 226 false (.slice aD os.length cD) rfl rfl hH ?_
                    refine tkga 18 228 16 226 false (.pointer (some ⟨w.heap.size,5,none⟩)) rfl rfl hH ?_
                    refine tkga 19 229 16 226 false (.slice (some ⟨bN,oN,none⟩) h.noted.length cO) rfl rfl hH ?_
                    refine tkga 20 230 16 226 false (.int .i64 (k:Int)) rfl rfl hH ?_
                    refine tkga 21 231 16 226 false (.pointer (some ⟨bN,oN+k,none⟩)) rfl rfl hH ?_
                    refine tkga 22 232 16 226 false (.int .i64 n0) rfl rfl hH ?_
                    refine wpAnyH_ready (rs:=[23]) (by kernel_rfl) (by simp) ?_
                    refine AllReadyH.cons rfl (fun K23 hK23=>?_) AllReadyH.nil
                    go_simp
                    refine (HHS.out _ (Below.refl _ _).drew).mono ?_
                    rintro r _ ⟨rfl,rfl⟩
                    refine hK23.out _ _ (fun p hp=>rfl) fun hH=>?_
                    rw [zab]
                    refine tkga 24 234 16 226 false (.bool true) rfl rfl hH ?_
                    refine tka 25 235 (.bool true) rfl hH ?_
                    refine tka 26 236 (.bool true) rfl hH ?_
                    refine tksa 27 237 26 236 false rfl rfl hH ?_
                    refine tksa 28 238 26 236 false rfl rfl hH ?_
                    refine tksa 29 239 26 236 false rfl rfl hH ?_
                    refine tksa 30 240 26 236 false rfl rfl hH ?_
                    refine tksa 31 241 26 236 false rfl rfl hH ?_
                    refine tksa 32 242 26 236 false rfl rfl hH ?_
                    refine tksa 33 243 26 236 false rfl rfl hH ?_
                    refine tksa 34 244 26 236 false rfl rfl hH ?_
                    refine tksa 35 245 26 236 false rfl rfl hH ?_
                    refine tksa 36 246 26 236 false rfl rfl hH ?_
                    refine tka 37 247 (.bool true) rfl hH ?_
                    refine wpAnyH_done (by kernel_rfl) ?_ _
                    clear hH
                    rw [HA.out]
                    clear HA sza ta2 ta3 ta6 ta16
                    simp only [Act.put,List.setIfInBounds_toArray,List.set_cons_zero,List.set_cons_succ]
                    go_wp2_with fail
                    go_ret
                    exact ⟨by rw [HR.out.1];rfl,HR.out.2 _ (Below.refl _ _).drew⟩
                  | true=>
                    have HRW2:=mk0 (HRW.out rfl)
                    clear HRW
                    go_wp2_with fail
                    refine wp_region_held_drew (S:=fun W'=>∀p:Addr,p.block<wr.heap.size->W'.cell? p=wr.cell? p) (by kernel_rfl) (fun p hp=>rfl) fun hH=>?_
                    refine zag 38 rfl fun a ha=>?_
                    have sza:a.tmps.size=288:=by rw [ha];rfl
                    have ta2:∀h,a.tmps[2]'h=.pointer (some ⟨w.heap.size,0,none⟩):=by rw [ha];exact fun _=>rfl
                    have ta3:∀h,a.tmps[3]'h=.pointer (some ⟨w.heap.size+1,0,none⟩):=by rw [ha];exact fun _=>rfl
                    have ta6:∀h,a.tmps[6]'h=.slice aD os.length cD:=by rw [ha];exact fun _=>rfl
                    have ta16:∀h,a.tmps[16]'h=.int .i64 (k:Int):=by rw [ha];exact fun _=>rfl
                    have HA:=mk0 ha
                    clear ha
                    refine tka 0 210 (.int .i64 (k:Int)) rfl hH ?_
                    refine tk 1 211 (.bool true) rfl (by kernel_rfl) (fun _ _ _ h=>h) ?_ hH ?_
                    ·
                     intro w hSw;go_simp
                     omega
                    refine tka 2 212 (.bool true) rfl hH ?_
                    refine tkga 3 213 2 212 true (.pointer (some ⟨w.heap.size,5,none⟩)) rfl rfl hH ?_
                    refine tkga 4 214 2 212 true (.slice (some ⟨bN,oN,none⟩) h.noted.length cO) rfl rfl hH ?_
                    refine tkga 5 215 2 212 true (.int .i64 (k:Int)) rfl rfl hH ?_
                    refine tkga 6 216 2 212 true (.pointer (some ⟨bN,oN+k,none⟩)) rfl rfl hH ?_
                    refine tkga 7 217 2 212 true (.int .i64 n0) rfl rfl hH ?_
                    refine tkga 8 218 2 212 true (.pointer (some ⟨w.heap.size,5,none⟩)) rfl rfl hH ?_
                    refine tkga 9 219 2 212 true (.slice (some ⟨bN,oN,none⟩) h.noted.length cO) rfl rfl hH ?_
                    refine tkga 10 220 2 212 true (.int .i64 (k:Int)) rfl rfl hH ?_
                    refine tkga 11 221 2 212 true (.int .i64 (k1:Int)) rfl rfl hH ?_
                    refine tkga 12 222 2 212 true (.pointer (some ⟨bN,oN+k1,none⟩)) rfl rfl hH ?_
                    refine tkga 13 223 2 212 true (.int .i64 n1) rfl rfl hH ?_
                    refine tkga 14 224 2 212 true (.bool false) rfl rfl hH ?_
                    refine tka 15 225 (.bool false) rfl hH ?_
                    refine tka 16 226 (.bool false) rfl hH ?_
                    refine tkga 17 227 16 226 false (.slice aD os.length cD) rfl rfl hH ?_
                    refine tkga 18 228 16 226 false (.pointer (some ⟨w.heap.size,5,none⟩)) rfl rfl hH ?_
                    refine tkga 19 229 16 226 false (.slice (some ⟨bN,oN,none⟩) h.noted.length cO) rfl rfl hH ?_
                    refine tkga 20 230 16 226 false (.int .i64 (k:Int)) rfl rfl hH ?_
                    refine tkga 21 231 16 226 false (.pointer (some ⟨bN,oN+k,none⟩)) rfl rfl hH ?_
                    refine tkga 22 232 16 226 false (.int .i64 n0) rfl rfl hH ?_
                    refine wpAnyH_ready (rs:=[23]) (by kernel_rfl) (by simp) ?_
                    refine AllReadyH.cons rfl (fun K23 hK23=>?_) AllReadyH.nil
                    go_simp
                    refine (HHS.out _ (Below.refl _ _).drew).mono ?_
                    rintro r _ ⟨rfl,rfl⟩
                    refine hK23.out _ _ (fun p hp=>rfl) fun hH=>?_
                    rw [zab]
                    refine tkga 24 234 16 226 false (.bool false) rfl rfl hH ?_
                    refine tka 25 235 (.bool false) rfl hH ?_
                    refine tka 26 236 (.bool false) rfl hH ?_
                    refine tkga 27 237 26 236 false (.agg #[.slice (some ⟨bW,oW,none⟩) h.words.length cW,.int .i64 h.young,.int .i64 h.old,.int .i64 h.ytop,.int .i64 h.otop,.slice (some ⟨bN,oN,none⟩) h.noted.length cO,.int .i64 h.next]) rfl rfl hH ?_
                    refine tkga 28 238 26 236 false (.agg #[.slice aC d.classes.length cC,.slice aS d.supers.length cS,.slice aF d.fields.length cF,.slice aN d.names.length cN,.slice aT d.targets.length cT]) rfl rfl hH ?_
                    refine tkga 29 239 26 236 false (.pointer (some ⟨w.heap.size,5,none⟩)) rfl rfl hH ?_
                    refine tkga 30 240 26 236 false (.slice (some ⟨bN,oN,none⟩) h.noted.length cO) rfl rfl hH ?_
                    refine tkga 31 241 26 236 false (.int .i64 (k:Int)) rfl rfl hH ?_
                    refine tkga 32 242 26 236 false (.pointer (some ⟨bN,oN+k,none⟩)) rfl rfl hH ?_
                    refine tkga 33 243 26 236 false (.int .i64 n0) rfl rfl hH ?_
                    refine wpAnyH_ready (rs:=[34]) (by kernel_rfl) (by simp) ?_
                    refine AllReadyH.cons rfl (fun K34 hK34=>?_) AllReadyH.nil
                    go_simp
                    refine (HRW2.out _ (Below.refl _ _).drew).mono ?_
                    rintro r w5 ⟨hb5,a5,c5,rfl⟩
                    have hb6:Below wr.heap.size wr w5:=(Below.refl wr.heap.size wr).drew.trans hb5
                    refine hK34.out _ _ (fun p hp=>hb6.cell hp) fun hH=>?_
                    rw [zab]
                    refine tkga 35 245 26 236 false (.int .i64 (rl:Int)) rfl rfl hH ?_
                    refine tkga 36 246 26 236 false (.bool ((rl:Int)==0)) rfl rfl hH ?_
                    refine tka 37 247 (.bool ((rl:Int)==0)) rfl hH ?_
                    refine wpAnyH_done (by kernel_rfl) ?_ _
                    clear hH
                    rw [HA.out]
                    clear HA sza ta2 ta3 ta6 ta16
                    simp only [Act.put,List.setIfInBounds_toArray,List.set_cons_zero,List.set_cons_succ]
                    cases hrb:((rl:Int)==0)with
                    | true=>
                      have HR:=mk0 (HNO.out (HBA.out.trans (by have:=eq_of_beq hrb;simp;omega)))
                      go_wp2_with fail
                      go_ret
                      exact ⟨by rw [HR.out.1];rfl,HR.out.2 _ hb6⟩
                    | false=>
                      have HN:=mk0 (HNX.out (HBA.out.trans (by have:=ne_of_beq_false hrb;simp;omega)))
                      clear HNO HBA
                      go_wp2_with fail
                      go_roundw
                      case rel=>exact ⟨k+1,by omega,by go_num,HN.out.1,HN.out.2 _ hb6⟩
                      case measure=>simp [intOf];omega
                 have hdk:decide (0<(k:Int))=false:=by simp;omega
                 rw [decide_eq_false (fun hh=>hk0 (by omega)),Bool.false_or]at HBA
                 generalize h.noted[k]=n0 at*
                 clear hr hD HQ HWK
                 cases ct with
                 | false=>
                   have HR:=mk0 (HNO.out (HBA.out.trans (by simp)))
                   clear HNX HNO HBA HRW
                   go_wp2_with fail
                   refine wp_region_held_drew (S:=fun W'=>∀p:Addr,p.block<wr.heap.size->W'.cell? p=wr.cell? p) (by kernel_rfl) (fun p hp=>rfl) fun hH=>?_
                   refine zag 38 rfl fun a ha=>?_
                   have sza:a.tmps.size=288:=by rw [ha];rfl
                   have ta2:∀h,a.tmps[2]'h=.pointer (some ⟨w.heap.size,0,none⟩):=by rw [ha];exact fun _=>rfl
                   have ta3:∀h,a.tmps[3]'h=.pointer (some ⟨w.heap.size+1,0,none⟩):=by rw [ha];exact fun _=>rfl
                   have ta6:∀h,a.tmps[6]'h=.slice aD os.length cD:=by rw [ha];exact fun _=>rfl
                   have ta16:∀h,a.tmps[16]'h=.int .i64 (k:Int):=by rw [ha];exact fun _=>rfl
                   have HA:=mk0 ha
                   clear ha
                   refine tka 0 210 (.int .i64 (k:Int)) rfl hH ?_
                   refine tk 1 211 (.bool false) rfl (by kernel_rfl) (fun _ _ _ h=>h) ?_ hH ?_
                   ·
                    intro w hSw;go_simp
                    omega
                   refine tka 2 212 (.bool false) rfl hH ?_
                   refine tksa 3 213 2 212 true rfl rfl hH ?_
                   refine tksa 4 214 2 212 true rfl rfl hH ?_
                   refine tksa 5 215 2 212 true rfl rfl hH ?_
                   refine tksa 6 216 2 212 true rfl rfl hH ?_
                   refine tksa 7 217 2 212 true rfl rfl hH ?_
                   refine tksa 8 218 2 212 true rfl rfl hH ?_
                   refine tksa 9 219 2 212 true rfl rfl hH ?_
                   refine tksa 10 220 2 212 true rfl rfl hH ?_
                   refine tksa 11 221 2 212 true rfl rfl hH ?_
                   refine tksa 12 222 2 212 true rfl rfl hH ?_
                   refine tksa 13 223 2 212 true rfl rfl hH ?_
                   refine tksa 14 224 2 212 true rfl rfl hH ?_
                   refine tka 15 225 (.bool false) rfl hH ?_
                   refine tka 16 226 (.bool false) rfl hH ?_
                   refine tkga 17 227 16 226 false (.slice aD os.length cD) rfl rfl hH ?_
                   refine tkga 18 228 16 226 false (.pointer (some ⟨w.heap.size,5,none⟩)) rfl rfl hH ?_
                   refine tkga 19 229 16 226 false (.slice (some ⟨bN,oN,none⟩) h.noted.length cO) rfl rfl hH ?_
                   refine tkga 20 230 16 226 false (.int .i64 (k:Int)) rfl rfl hH ?_
                   refine tkga 21 231 16 226 false (.pointer (some ⟨bN,oN+k,none⟩)) rfl rfl hH ?_
                   refine tkga 22 232 16 226 false (.int .i64 n0) rfl rfl hH ?_
                   refine wpAnyH_ready (rs:=[23]) (by kernel_rfl) (by simp) ?_
                   refine AllReadyH.cons rfl (fun K23 hK23=>?_) AllReadyH.nil
                   go_simp
                   refine (HHS.out _ (Below.refl _ _).drew).mono ?_
                   rintro r _ ⟨rfl,rfl⟩
                   refine hK23.out _ _ (fun p hp=>rfl) fun hH=>?_
                   rw [zab]
                   refine tkga 24 234 16 226 false (.bool true) rfl rfl hH ?_
                   refine tka 25 235 (.bool true) rfl hH ?_
                   refine tka 26 236 (.bool true) rfl hH ?_
                   refine tksa 27 237 26 236 false rfl rfl hH ?_
                   refine tksa 28 238 26 236 false rfl rfl hH ?_
                   refine tksa 29 239 26 236 false rfl rfl hH ?_
                   refine tksa 30 240 26 236 false rfl rfl hH ?_
                   refine tksa 31 241 26 236 false rfl rfl hH ?_
                   refine tksa 32 242 26 236 false rfl rfl hH ?_
                   refine tksa 33 243 26 236 false rfl rfl hH ?_
                   refine tksa 34 244 26 236 false rfl rfl hH ?_
                   refine tksa 35 245 26 236 false rfl rfl hH ?_
                   refine tksa 36 246 26 236 false rfl rfl hH ?_
                   refine tka 37 247 (.bool true) rfl hH ?_
                   refine wpAnyH_done (by kernel_rfl) ?_ _
                   clear hH
                   rw [HA.out]
                   clear HA sza ta2 ta3 ta6 ta16
                   simp only [Act.put,List.setIfInBounds_toArray,List.set_cons_zero,List.set_cons_succ]
                   go_wp2_with fail
                   go_ret
                   exact ⟨by rw [HR.out.1];rfl,HR.out.2 _ (Below.refl _ _).drew⟩
                 | true=>
                   have HRW2:=mk0 (HRW.out rfl)
                   clear HRW
                   go_wp2_with fail
                   refine wp_region_held_drew (S:=fun W'=>∀p:Addr,p.block<wr.heap.size->W'.cell? p=wr.cell? p) (by kernel_rfl) (fun p hp=>rfl) fun hH=>?_
                   refine zag 38 rfl fun a ha=>?_
                   have sza:a.tmps.size=288:=by rw [ha];rfl
                   have ta2:∀h,a.tmps[2]'h=.pointer (some ⟨w.heap.size,0,none⟩):=by rw [ha];exact fun _=>rfl
                   have ta3:∀h,a.tmps[3]'h=.pointer (some ⟨w.heap.size+1,0,none⟩):=by rw [ha];exact fun _=>rfl
                   have ta6:∀h,a.tmps[6]'h=.slice aD os.length cD:=by rw [ha];exact fun _=>rfl
                   have ta16:∀h,a.tmps[16]'h=.int .i64 (k:Int):=by rw [ha];exact fun _=>rfl
                   have HA:=mk0 ha
                   clear ha
                   refine tka 0 210 (.int .i64 (k:Int)) rfl hH ?_
                   refine tk 1 211 (.bool false) rfl (by kernel_rfl) (fun _ _ _ h=>h) ?_ hH ?_
                   ·
                    intro w hSw;go_simp
                    omega
                   refine tka 2 212 (.bool false) rfl hH ?_
                   refine tksa 3 213 2 212 true rfl rfl hH ?_
                   refine tksa 4 214 2 212 true rfl rfl hH ?_
                   refine tksa 5 215 2 212 true rfl rfl hH ?_
                   refine tksa 6 216 2 212 true rfl rfl hH ?_
                   refine tksa 7 217 2 212 true rfl rfl hH ?_
                   refine tksa 8 218 2 212 true rfl rfl hH ?_
                   refine tksa 9 219 2 212 true rfl rfl hH ?_
                   refine tksa 10 220 2 212 true rfl rfl hH ?_
                   refine tksa 11 221 2 212 true rfl rfl hH ?_
                   refine tksa 12 222 2 212 true rfl rfl hH ?_
                   refine tksa 13 223 2 212 true rfl rfl hH ?_
                   refine tksa 14 224 2 212 true rfl rfl hH ?_
                   refine tka 15 225 (.bool false) rfl hH ?_
                   refine tka 16 226 (.bool false) rfl hH ?_
                   refine tkga 17 227 16 226 false (.slice aD os.length cD) rfl rfl hH ?_
                   refine tkga 18 228 16 226 false (.pointer (some ⟨w.heap.size,5,none⟩)) rfl rfl hH ?_
                   refine tkga 19 229 16 226 false (.slice (some ⟨bN,oN,none⟩) h.noted.length cO) rfl rfl hH ?_
                   refine tkga 20 230 16 226 false (.int .i64 (k:Int)) rfl rfl hH ?_
                   refine tkga 21 231 16 226 false (.pointer (some ⟨bN,oN+k,none⟩)) rfl rfl hH ?_
                   refine tkga 22 232 16 226 false (.int .i64 n0) rfl rfl hH ?_
                   refine wpAnyH_ready (rs:=[23]) (by kernel_rfl) (by simp) ?_
                   refine AllReadyH.cons rfl (fun K23 hK23=>?_) AllReadyH.nil
                   go_simp
                   refine (HHS.out _ (Below.refl _ _).drew).mono ?_
                   rintro r _ ⟨rfl,rfl⟩
                   refine hK23.out _ _ (fun p hp=>rfl) fun hH=>?_
                   rw [zab]
                   refine tkga 24 234 16 226 false (.bool false) rfl rfl hH ?_
                   refine tka 25 235 (.bool false) rfl hH ?_
                   refine tka 26 236 (.bool false) rfl hH ?_
                   refine tkga 27 237 26 236 false (.agg #[.slice (some ⟨bW,oW,none⟩) h.words.length cW,.int .i64 h.young,.int .i64 h.old,.int .i64 h.ytop,.int .i64 h.otop,.slice (some ⟨bN,oN,none⟩) h.noted.length cO,.int .i64 h.next]) rfl rfl hH ?_
                   refine tkga 28 238 26 236 false (.agg #[.slice aC d.classes.length cC,.slice aS d.supers.length cS,.slice aF d.fields.length cF,.slice aN d.names.length cN,.slice aT d.targets.length cT]) rfl rfl hH ?_
                   refine tkga 29 239 26 236 false (.pointer (some ⟨w.heap.size,5,none⟩)) rfl rfl hH ?_
                   refine tkga 30 240 26 236 false (.slice (some ⟨bN,oN,none⟩) h.noted.length cO) rfl rfl hH ?_
                   refine tkga 31 241 26 236 false (.int .i64 (k:Int)) rfl rfl hH ?_
                   refine tkga 32 242 26 236 false (.pointer (some ⟨bN,oN+k,none⟩)) rfl rfl hH ?_
                   refine tkga 33 243 26 236 false (.int .i64 n0) rfl rfl hH ?_
                   refine wpAnyH_ready (rs:=[34]) (by kernel_rfl) (by simp) ?_
                   refine AllReadyH.cons rfl (fun K34 hK34=>?_) AllReadyH.nil
                   go_simp
                   refine (HRW2.out _ (Below.refl _ _).drew).mono ?_
                   rintro r w5 ⟨hb5,a5,c5,rfl⟩
                   have hb6:Below wr.heap.size wr w5:=(Below.refl wr.heap.size wr).drew.trans hb5
                   refine hK34.out _ _ (fun p hp=>hb6.cell hp) fun hH=>?_
                   rw [zab]
                   refine tkga 35 245 26 236 false (.int .i64 (rl:Int)) rfl rfl hH ?_
                   refine tkga 36 246 26 236 false (.bool ((rl:Int)==0)) rfl rfl hH ?_
                   refine tka 37 247 (.bool ((rl:Int)==0)) rfl hH ?_
                   refine wpAnyH_done (by kernel_rfl) ?_ _
                   clear hH
                   rw [HA.out]
                   clear HA sza ta2 ta3 ta6 ta16
                   simp only [Act.put,List.setIfInBounds_toArray,List.set_cons_zero,List.set_cons_succ]
                   cases hrb:((rl:Int)==0)with
                   | true=>
                     have HR:=mk0 (HNO.out (HBA.out.trans (by have:=eq_of_beq hrb;simp;omega)))
                     go_wp2_with fail
                     go_ret
                     exact ⟨by rw [HR.out.1];rfl,HR.out.2 _ hb6⟩
                   | false=>
                     have HN:=mk0 (HNX.out (HBA.out.trans (by have:=ne_of_beq_false hrb;simp;omega)))
                     clear HNO HBA
                     go_wp2_with fail
                     go_roundw
                     case rel=>exact ⟨k+1,by omega,by go_num,HN.out.1,HN.out.2 _ hb6⟩
                     case measure=>simp [intOf];omega
                have H5:Hid ((List.range h.noted.length).any (bad5 d h os)=false):=zk5 fun j hj=>HQ.out.1 j (by omega)
                have HB5:=mk0 HQ.out.2
                clear HQ hr hD
                go_wp2_with fail
                clear hsr hk hlt p0 p1 p2 p3 p4 p5 p6 lp y0 y1 y2 y3 y4 ly
                go_loopw [17] (fun i wr=>∃k:Nat,k<=os.length/\i=.int .i64 k/\Hid ((os.take k).any (bad6 d h)=false/\Below W4.heap.size W4 wr)) (fun i _=>os.length - (intOf i).toNat)
                case atStart=>exact ⟨0,Nat.zero_le _,rfl,by simp,HB5.out⟩
                case round=>
                 rename World=>wr
                 obtain ⟨k,hk,rfl,HQ⟩:=hrel
                 have hsr:W4.heap.size<=wr.heap.size:=HQ.out.2.size
                 by_cases hlt:k<os.length
                 ·
                  obtain ⟨hr,-,hD⟩:=HX.out wr HQ.out.2
                  obtain ⟨ln,hln,hl2,hft,hth,-⟩:=HTS.out _ (HOS.out _ (List.getElem_mem hlt))
                  have p0:=cl0 hr.b0 0 (x:=.slice (some ⟨bW,oW,none⟩) h.words.length cW) rfl
                  have p1:=cl0 hr.b0 1 (x:=.int .i64 h.young) rfl
                  have p2:=cl0 hr.b0 2 (x:=.int .i64 h.old) rfl
                  have p3:=cl0 hr.b0 3 (x:=.int .i64 h.ytop) rfl
                  have p4:=cl0 hr.b0 4 (x:=.int .i64 h.otop) rfl
                  have p5:=cl0 hr.b0 5 (x:=.slice aO h.noted.length cO) rfl
                  have p6:=cl0 hr.b0 6 (x:=.int .i64 h.next) rfl
                  have lp:=lt0 hr.b0
                  have y0:=cl0 hr.b1 0 (x:=.slice aC d.classes.length cC) rfl
                  have y1:=cl0 hr.b1 1 (x:=.slice aS d.supers.length cS) rfl
                  have y2:=cl0 hr.b1 2 (x:=.slice aF d.fields.length cF) rfl
                  have y3:=cl0 hr.b1 3 (x:=.slice aN d.names.length cN) rfl
                  have y4:=cl0 hr.b1 4 (x:=.slice aT d.targets.length cT) rfl
                  have ly:=lt0 hr.b1
                  obtain ⟨bA,oA,rfl,hbA,eA⟩:=hD.atI k (by simpa using hlt)
                  rw [List.getElem_map,hln]at eA
                  have q1:(0:Int)<=k:=by omega
                  have q2:(k:Int)<os.length:=by omega
                  have HRW:Hid (∀V,Below wr.heap.size wr V->Calls Tryz.prog 87 #[.agg #[.slice (some ⟨bW,oW,none⟩) h.words.length cW,.int .i64 h.young,.int .i64 h.old,.int .i64 h.ytop,.int .i64 h.otop,.slice aO h.noted.length cO,.int .i64 h.next],.agg #[.slice aC d.classes.length cC,.slice aS d.supers.length cS,.slice aF d.fields.length cF,.slice aN d.names.length cN,.slice aT d.targets.length cT],.int .i64 (ln:Int)] V fun r w'=>Below V.heap.size V w'/\∃v,r=.returned v/\w'.ownsRow V.heap.size 3 1 v (refsOf d.fields os[k]).length (intV (refsOf d.fields os[k]))):=fun V hV=>by
                   have hr2:=hr.below hV
                   rw [hth]at hft ⊢
                   exact zkz V B _ _ _ _ _ _ _ h d hr2.sW hr2.sO hr2.lk (by have:=hr2.le;have:=lt0 hr2.b0;omega) ln hl2 (by have:=HWL.out;omega) hft
                  have HRI:Hid (∀a∈refsOf d.fields os[k],∃an:Nat,a=an/\an<h.words.length):=fun a ha=>by
                   have:=zh2 d.fields os[k] ha
                   have h2:=(HFN.out _ (HOS.out _ (List.getElem_mem hlt))).1
                   have h3:=(HFN.out _ (HOS.out _ (List.getElem_mem hlt))).2
                   have h4:os[k].fin=os[k].loc+3+os[k].len:=rfl
                   exact ⟨a.toNat,by omega,by omega⟩
                  have HRL:Hid ((refsOf d.fields os[k]).length<=1000000):=by
                   have:=zhr d.fields os[k] os[k].len.toNat
                   have h3:=hft.hi
                   have:(refsOf d.fields os[k]).length<=os[k].len.toNat:=this
                   show _<=_
                   omega
                  have HQ0:=mk0 HQ.out
                  have HST:Hid ((refsOf d.fields os[k]).any (bad6a h os[k])=bad6 d h os[k]):=rfl
                  have HLN:Hid (os[k].loc=ln):=hln
                  generalize refsOf d.fields os[k]=rf at*
                  clear hr hD HQ hft hth hln
                  go_wp2_with fail
                  refine wp_region_held_drew (S:=fun W'=>∀p:Addr,p.block<wr.heap.size->W'.cell? p=wr.cell? p) (by kernel_rfl) (fun p hp=>rfl) fun hH=>?_
                  refine zag 8 rfl fun a ha=>?_
                  have sza:a.tmps.size=288:=by rw [ha];rfl
                  have ta2:∀h,a.tmps[2]'h=.pointer (some ⟨w.heap.size,0,none⟩):=by rw [ha];exact fun _=>rfl
                  have ta3:∀h,a.tmps[3]'h=.pointer (some ⟨w.heap.size+1,0,none⟩):=by rw [ha];exact fun _=>rfl
                  have ta6:∀h,a.tmps[6]'h=.slice (some ⟨bA,oA,none⟩) os.length cD:=by rw [ha];exact fun _=>rfl
                  have ta17:∀h,a.tmps[17]'h=.int .i64 (k:Int):=by rw [ha];exact fun _=>rfl
                  have HA:=mk0 ha
                  clear ha
                  refine tka 0 254 (.agg #[.slice (some ⟨bW,oW,none⟩) h.words.length cW,.int .i64 h.young,.int .i64 h.old,.int .i64 h.ytop,.int .i64 h.otop,.slice aO h.noted.length cO,.int .i64 h.next]) rfl hH ?_
                  refine tka 1 255 (.agg #[.slice aC d.classes.length cC,.slice aS d.supers.length cS,.slice aF d.fields.length cF,.slice aN d.names.length cN,.slice aT d.targets.length cT]) rfl hH ?_
                  refine tka 2 256 (.slice (some ⟨bA,oA,none⟩) os.length cD) rfl hH ?_
                  refine tka 3 257 (.int .i64 (k:Int)) rfl hH ?_
                  refine tka 4 258 (.pointer (some ⟨bA,oA+k,none⟩)) rfl hH ?_
                  refine tka 5 259 (.int .i64 (ln:Int)) rfl hH ?_
                  refine wpAnyH_ready (rs:=[6]) (by kernel_rfl) (by simp) ?_
                  refine AllReadyH.cons rfl (fun K6 hK6=>?_) AllReadyH.nil
                  go_simp
                  refine (HRW.out _ (Below.refl _ _).drew).mono ?_
                  rintro r w5 ⟨hb5,v5,rfl,hown5⟩
                  have hb6:Below wr.heap.size wr w5:=(Below.refl wr.heap.size wr).drew.trans hb5
                  refine hK6.out _ _ (fun p hp=>hb6.cell hp) fun hH=>?_
                  rw [zab]
                  refine tka 7 18 (v5) rfl hH ?_
                  refine wpAnyH_done (by kernel_rfl) ?_ _
                  clear hH
                  rw [HA.out]
                  clear HA sza ta2 ta3 ta6 ta17
                  simp only [Act.put,List.setIfInBounds_toArray,List.set_cons_zero,List.set_cons_succ]
                  have HX5:Hid (∀V,Below w5.heap.size w5 V->Below W4.heap.size W4 V/\SL 1 RI (· <w5.heap.size) V v5 rf):=fun V hV=>by
                   have hs5:=hb6.size
                   refine ⟨HQ0.out.2.trans ((hb6.trans (hV.mono hs5)).mono hsr),?_⟩
                   exact ((zfb hown5 HRL.out).monoI (M':=(· <w5.heap.size)) fun k hk=>hk.lt).keptI (Kp.below hV)
                  obtain ⟨a5,c5,rfl⟩:=zfz hown5
                  have q9:rf.length<=1000000:=HRL.out
                  clear hb5 hb6 hown5 p0 p1 p2 p3 p4 p5 p6 y0 y1 y2 y3 y4 lp ly eA hbA HRW
                  go_wp2_with fail
                  go_loopw [19] (fun i wr=>∃j:Nat,j<=rf.length/\i=.int .i64 j/\Hid ((rf.take j).any (bad6a h os[k])=false/\Below w5.heap.size w5 wr)) (fun i _=>rf.length - (intOf i).toNat)
                  case atStart=>exact ⟨0,Nat.zero_le _,rfl,by simp,Below.refl _ _⟩
                  case round=>
                   rename World=>wr
                   obtain ⟨j,hj,rfl,HQ⟩:=hrel
                   by_cases hjt:j<rf.length
                   ·
                    obtain ⟨hB5,hR5⟩:=HX5.out wr HQ.out.2
                    obtain ⟨hr,-,hD⟩:=HX.out wr hB5
                    obtain ⟨an,han,hal⟩:=HRI.out _ (List.getElem_mem hjt)
                    have p0:=cl0 hr.b0 0 (x:=.slice (some ⟨bW,oW,none⟩) h.words.length cW) rfl
                    have p1:=cl0 hr.b0 1 (x:=.int .i64 h.young) rfl
                    have p5:=cl0 hr.b0 5 (x:=.slice aO h.noted.length cO) rfl
                    have lp:=lt0 hr.b0
                    obtain ⟨b5,o5,rfl,hb5,e5⟩:=hR5.atI j hjt
                    rw [han]at e5
                    obtain ⟨b'',o'',e'',hbA,eA⟩:=hD.atI k (by simpa using hlt)
                    cases e''
                    rw [List.getElem_map,HLN.out]at eA
                    obtain ⟨b',o',e',hbW,eW⟩:=hr.sW.atI an hal
                    cases e'
                    have r1:(0:Int)<=j:=by omega
                    have r2:(j:Int)<rf.length:=by omega
                    have q3:(0:Int)<=(an:Int):=by omega
                    have q4:(an:Int)<h.words.length:=by omega
                    have HHS:Hid (∀V,Below wr.heap.size wr V->Calls Tryz.prog 74 #[.slice aO h.noted.length cO,.int .i64 (ln:Int)] V fun r w'=>r=.returned (.bool (h.noted.contains (ln:Int)))/\w'=V):=fun V hV=>by
                     have hv:=hr.sO.keptI (Kp.below (hV.mono (by have:=hr.le;have:=lt0 hr.b0;omega)))
                     exact zkw _ _ _ _ hv ln
                    have HBA:Hid (bad6a h os[k] rf[j]=(btw h.words[an] 1 h.young&& !h.noted.contains (ln:Int))):=by
                     show bad6a h os[k] rf[j]=_
                     unfold bad6a
                     rw [han,zen hal,HLN.out]
                    have HNX:Hid (bad6a h os[k] rf[j]=false->(rf.take (j+1)).any (bad6a h os[k])=false/\∀n,Below w5.heap.size w5 (wr.drewN n)):=fun hb=>⟨zk1 hjt HQ.out.1 hb,fun n=>zdq HQ.out.2 n⟩
                    have HNO:Hid (bad6a h os[k] rf[j]=true->refRes d h=4/\∀n,Below w.heap.size w (wr.drewN n)):=fun hb=>⟨HRR.out.trans (by
                     unfold refThings
                     rw [if_neg (by rw [H1.out];decide),if_neg (by rw [decide_eq_true H2.out];decide),if_neg (by rw [H3.out];decide),if_neg (by rw [H4.out];decide),if_neg (by rw [H5.out];decide),if_pos (zk2 hlt (by rw [<-HST.out];exact zk2 hjt hb))]),fun n=>zdq (HBF.out wr hB5) n⟩
                    generalize rf[j]=a at*
                    generalize h.words[an]=x at*
                    generalize h.noted.contains (ln:Int)=ct at*
                    clear hr hD hR5 hB5 HQ han HQ0 HST
                    cases hbt:btw x 1 h.young with
                    | false=>
                      have HN:=mk0 (HNX.out (HBA.out.trans (by rw [hbt];rfl)))
                      clear HNX HNO HBA HHS
                      go_wp2_with fail
                      refine wp_region_held_drew (S:=fun W'=>∀p:Addr,p.block<wr.heap.size->W'.cell? p=wr.cell? p) (by kernel_rfl) (fun p hp=>rfl) fun hH=>?_
                      refine zag 21 rfl fun a ha=>?_
                      have sza:a.tmps.size=288:=by rw [ha];rfl
                      have ta2:∀h,a.tmps[2]'h=.pointer (some ⟨w.heap.size,0,none⟩):=by rw [ha];exact fun _=>rfl
                      have ta18:∀h,a.tmps[18]'h=.slice (some ⟨b5,o5,none⟩) rf.length c5:=by rw [ha];exact fun _=>rfl
                      have ta19:∀h,a.tmps[19]'h=.int .i64 (j:Int):=by rw [ha];exact fun _=>rfl
                      have ta6:∀h,a.tmps[6]'h=.slice (some ⟨bA,oA,none⟩) os.length cD:=by rw [ha];exact fun _=>rfl
                      have ta17:∀h,a.tmps[17]'h=.int .i64 (k:Int):=by rw [ha];exact fun _=>rfl
                      have HA:=mk0 ha
                      clear ha
                      refine tka 0 267 (.pointer (some ⟨w.heap.size,0,none⟩)) rfl hH ?_
                      refine tka 1 268 (.slice (some ⟨bW,oW,none⟩) h.words.length cW) rfl hH ?_
                      refine tka 2 269 (.slice (some ⟨b5,o5,none⟩) rf.length c5) rfl hH ?_
                      refine tka 3 270 (.int .i64 (j:Int)) rfl hH ?_
                      refine tka 4 271 (.pointer (some ⟨b5,o5+j,none⟩)) rfl hH ?_
                      refine tka 5 272 (.int .i64 (an:Int)) rfl hH ?_
                      refine tka 6 273 (.pointer (some ⟨bW,oW+an,none⟩)) rfl hH ?_
                      refine tka 7 274 (.int .i64 x) rfl hH ?_
                      refine tka 8 275 (.pointer (some ⟨w.heap.size,1,none⟩)) rfl hH ?_
                      refine tka 9 276 (.int .i64 h.young) rfl hH ?_
                      refine wpAnyH_ready (rs:=[10]) (by kernel_rfl) (by simp) ?_
                      refine AllReadyH.cons rfl (fun K10 hK10=>?_) AllReadyH.nil
                      go_simp
                      refine (zks _ _ _ _).mono ?_
                      rintro r _ ⟨rfl,rfl⟩
                      rw [hbt]
                      refine hK10.out _ _ (fun p hp=>rfl) fun hH=>?_
                      rw [zab]
                      refine tka 11 278 (.bool false) rfl hH ?_
                      refine tksa 12 279 11 278 true rfl rfl hH ?_
                      refine tksa 13 280 11 278 true rfl rfl hH ?_
                      refine tksa 14 281 11 278 true rfl rfl hH ?_
                      refine tksa 15 282 11 278 true rfl rfl hH ?_
                      refine tksa 16 283 11 278 true rfl rfl hH ?_
                      refine tksa 17 284 11 278 true rfl rfl hH ?_
                      refine tksa 18 285 11 278 true rfl rfl hH ?_
                      refine tksa 19 286 11 278 true rfl rfl hH ?_
                      refine tka 20 287 (.bool false) rfl hH ?_
                      refine wpAnyH_done (by kernel_rfl) ?_ _
                      clear hH
                      rw [HA.out]
                      clear HA sza ta2 ta18 ta19 ta6 ta17
                      simp only [Act.put,List.setIfInBounds_toArray,List.set_cons_zero,List.set_cons_succ]
                      go_wp2_with fail
                      go_roundw
                      case rel=>exact ⟨j+1,by omega,by go_num,HN.out.1,HN.out.2 1⟩
                      case measure=>simp [intOf];omega
                    | true=>
                      cases ct with
                      | true=>
                        have HN:=mk0 (HNX.out (HBA.out.trans (by rw [hbt];rfl)))
                        clear HNX HNO HBA
                        go_wp2_with fail
                        refine wp_region_held_drew (S:=fun W'=>∀p:Addr,p.block<wr.heap.size->W'.cell? p=wr.cell? p) (by kernel_rfl) (fun p hp=>rfl) fun hH=>?_
                        refine zag 21 rfl fun a ha=>?_
                        have sza:a.tmps.size=288:=by rw [ha];rfl
                        have ta2:∀h,a.tmps[2]'h=.pointer (some ⟨w.heap.size,0,none⟩):=by rw [ha];exact fun _=>rfl
                        have ta18:∀h,a.tmps[18]'h=.slice (some ⟨b5,o5,none⟩) rf.length c5:=by rw [ha];exact fun _=>rfl
                        have ta19:∀h,a.tmps[19]'h=.int .i64 (j:Int):=by rw [ha];exact fun _=>rfl
                        have ta6:∀h,a.tmps[6]'h=.slice (some ⟨bA,oA,none⟩) os.length cD:=by rw [ha];exact fun _=>rfl
                        have ta17:∀h,a.tmps[17]'h=.int .i64 (k:Int):=by rw [ha];exact fun _=>rfl
                        have HA:=mk0 ha
                        clear ha
                        refine tka 0 267 (.pointer (some ⟨w.heap.size,0,none⟩)) rfl hH ?_
                        refine tka 1 268 (.slice (some ⟨bW,oW,none⟩) h.words.length cW) rfl hH ?_
                        refine tka 2 269 (.slice (some ⟨b5,o5,none⟩) rf.length c5) rfl hH ?_
                        refine tka 3 270 (.int .i64 (j:Int)) rfl hH ?_
                        refine tka 4 271 (.pointer (some ⟨b5,o5+j,none⟩)) rfl hH ?_
                        refine tka 5 272 (.int .i64 (an:Int)) rfl hH ?_
                        refine tka 6 273 (.pointer (some ⟨bW,oW+an,none⟩)) rfl hH ?_
                        refine tka 7 274 (.int .i64 x) rfl hH ?_
                        refine tka 8 275 (.pointer (some ⟨w.heap.size,1,none⟩)) rfl hH ?_
                        refine tka 9 276 (.int .i64 h.young) rfl hH ?_
                        refine wpAnyH_ready (rs:=[10]) (by kernel_rfl) (by simp) ?_
                        refine AllReadyH.cons rfl (fun K10 hK10=>?_) AllReadyH.nil
                        go_simp
                        refine (zks _ _ _ _).mono ?_
                        rintro r _ ⟨rfl,rfl⟩
                        rw [hbt]
                        refine hK10.out _ _ (fun p hp=>rfl) fun hH=>?_
                        rw [zab]
                        refine tka 11 278 (.bool true) rfl hH ?_
                        refine tkga 12 279 11 278 true (.pointer (some ⟨w.heap.size,5,none⟩)) rfl rfl hH ?_
                        refine tkga 13 280 11 278 true (.slice aO h.noted.length cO) rfl rfl hH ?_
                        refine tkga 14 281 11 278 true (.slice (some ⟨bA,oA,none⟩) os.length cD) rfl rfl hH ?_
                        refine tkga 15 282 11 278 true (.int .i64 (k:Int)) rfl rfl hH ?_
                        refine tkga 16 283 11 278 true (.pointer (some ⟨bA,oA+k,none⟩)) rfl rfl hH ?_
                        refine tkga 17 284 11 278 true (.int .i64 (ln:Int)) rfl rfl hH ?_
                        refine wpAnyH_ready (rs:=[18]) (by kernel_rfl) (by simp) ?_
                        refine AllReadyH.cons rfl (fun K18 hK18=>?_) AllReadyH.nil
                        go_simp
                        refine (HHS.out _ (Below.refl _ _).drew).mono ?_
                        rintro r _ ⟨rfl,rfl⟩
                        refine hK18.out _ _ (fun p hp=>rfl) fun hH=>?_
                        rw [zab]
                        refine tkga 19 286 11 278 true (.bool false) rfl rfl hH ?_
                        refine tka 20 287 (.bool false) rfl hH ?_
                        refine wpAnyH_done (by kernel_rfl) ?_ _
                        clear hH
                        rw [HA.out]
                        clear HA sza ta2 ta18 ta19 ta6 ta17
                        simp only [Act.put,List.setIfInBounds_toArray,List.set_cons_zero,List.set_cons_succ]
                        go_wp2_with fail
                        go_roundw
                        case rel=>exact ⟨j+1,by omega,by go_num,HN.out.1,HN.out.2 1⟩
                        case measure=>simp [intOf];omega
                      | false=>
                        have HR:=mk0 (HNO.out (HBA.out.trans (by rw [hbt];rfl)))
                        clear HNX HNO HBA
                        go_wp2_with fail
                        refine wp_region_held_drew (S:=fun W'=>∀p:Addr,p.block<wr.heap.size->W'.cell? p=wr.cell? p) (by kernel_rfl) (fun p hp=>rfl) fun hH=>?_
                        refine zag 21 rfl fun a ha=>?_
                        have sza:a.tmps.size=288:=by rw [ha];rfl
                        have ta2:∀h,a.tmps[2]'h=.pointer (some ⟨w.heap.size,0,none⟩):=by rw [ha];exact fun _=>rfl
                        have ta18:∀h,a.tmps[18]'h=.slice (some ⟨b5,o5,none⟩) rf.length c5:=by rw [ha];exact fun _=>rfl
                        have ta19:∀h,a.tmps[19]'h=.int .i64 (j:Int):=by rw [ha];exact fun _=>rfl
                        have ta6:∀h,a.tmps[6]'h=.slice (some ⟨bA,oA,none⟩) os.length cD:=by rw [ha];exact fun _=>rfl
                        have ta17:∀h,a.tmps[17]'h=.int .i64 (k:Int):=by rw [ha];exact fun _=>rfl
                        have HA:=mk0 ha
                        clear ha
                        refine tka 0 267 (.pointer (some ⟨w.heap.size,0,none⟩)) rfl hH ?_
                        refine tka 1 268 (.slice (some ⟨bW,oW,none⟩) h.words.length cW) rfl hH ?_
                        refine tka 2 269 (.slice (some ⟨b5,o5,none⟩) rf.length c5) rfl hH ?_
                        refine tka 3 270 (.int .i64 (j:Int)) rfl hH ?_
                        refine tka 4 271 (.pointer (some ⟨b5,o5+j,none⟩)) rfl hH ?_
                        refine tka 5 272 (.int .i64 (an:Int)) rfl hH ?_
                        refine tka 6 273 (.pointer (some ⟨bW,oW+an,none⟩)) rfl hH ?_
                        refine tka 7 274 (.int .i64 x) rfl hH ?_
                        refine tka 8 275 (.pointer (some ⟨w.heap.size,1,none⟩)) rfl hH ?_
                        refine tka 9 276 (.int .i64 h.young) rfl hH ?_
                        refine wpAnyH_ready (rs:=[10]) (by kernel_rfl) (by simp) ?_
                        refine AllReadyH.cons rfl (fun K10 hK10=>?_) AllReadyH.nil
                        go_simp
                        refine (zks _ _ _ _).mono ?_
                        rintro r _ ⟨rfl,rfl⟩
                        rw [hbt]
                        refine hK10.out _ _ (fun p hp=>rfl) fun hH=>?_
                        rw [zab]
                        refine tka 11 278 (.bool true) rfl hH ?_
                        refine tkga 12 279 11 278 true (.pointer (some ⟨w.heap.size,5,none⟩)) rfl rfl hH ?_
                        refine tkga 13 280 11 278 true (.slice aO h.noted.length cO) rfl rfl hH ?_
                        refine tkga 14 281 11 278 true (.slice (some ⟨bA,oA,none⟩) os.length cD) rfl rfl hH ?_
                        refine tkga 15 282 11 278 true (.int .i64 (k:Int)) rfl rfl hH ?_
                        refine tkga 16 283 11 278 true (.pointer (some ⟨bA,oA+k,none⟩)) rfl rfl hH ?_
                        refine tkga 17 284 11 278 true (.int .i64 (ln:Int)) rfl rfl hH ?_
                        refine wpAnyH_ready (rs:=[18]) (by kernel_rfl) (by simp) ?_
                        refine AllReadyH.cons rfl (fun K18 hK18=>?_) AllReadyH.nil
                        go_simp
                        refine (HHS.out _ (Below.refl _ _).drew).mono ?_
                        rintro r _ ⟨rfl,rfl⟩
                        refine hK18.out _ _ (fun p hp=>rfl) fun hH=>?_
                        rw [zab]
                        refine tkga 19 286 11 278 true (.bool true) rfl rfl hH ?_
                        refine tka 20 287 (.bool true) rfl hH ?_
                        refine wpAnyH_done (by kernel_rfl) ?_ _
                        clear hH
                        rw [HA.out]
                        clear HA sza ta2 ta18 ta19 ta6 ta17
                        simp only [Act.put,List.setIfInBounds_toArray,List.set_cons_zero,List.set_cons_succ]
                        go_wp2_with fail
                        go_ret
                        exact ⟨by rw [HR.out.1];rfl,HR.out.2 1⟩
                   have HN:Hid ((os.take (k+1)).any (bad6 d h)=false/\Below W4.heap.size W4 wr):=⟨zk1 hlt HQ0.out.1 (by rw [<-HST.out];exact zk3 hjt HQ.out.1),(HX5.out wr HQ.out.2).1⟩
                   clear HQ HQ0
                   go_wp2_with fail
                   go_roundw
                   case rel=>exact ⟨k+1,by omega,by go_num,HN.out.1,HN.out.2⟩
                   case measure=>simp [intOf];omega
                 have HR:Hid (refRes d h=0/\Below w.heap.size w wr):=⟨HRR.out.trans (by
                  unfold refThings
                  rw [if_neg (by rw [H1.out];decide),if_neg (by rw [decide_eq_true H2.out];decide),if_neg (by rw [H3.out];decide),if_neg (by rw [H4.out];decide),if_neg (by rw [H5.out];decide),if_neg (by rw [zk3 hlt HQ.out.1];decide)]),HBF.out wr HQ.out.2⟩
                 clear HQ
                 go_wp2_with fail
                 go_ret
                 exact ⟨by rw [HR.out.1];rfl,HR.out.2⟩
          have HR:Hid (refRes d h=1):=by
           show refRes d h=1
           rw [HRM.out]
           unfold bothT at hno
           cases e1:walkT d.classes.length d.fields h.words 1 h.ytop with
           | none=>rfl
           | some ys=>
             rw [e1]at hno
             cases e2:walkT d.classes.length d.fields h.words (h.young+1) h.otop with
             | none=>rfl
             | some os=>rw [e2]at hno;cases hno
          clear hno HRM
          go_wp2_with fail
          go_ret
          exact ⟨by rw [HR.out];rfl,HF1.out⟩
     have hwb:((h.words.length:Int)==1+h.young+h.old)=false:=beq_eq_false_iff_ne.2 hw
     have HR:Hid (refRes d h=1):=by show refRes d h=1;rw [HRP.out];unfold wordsB;rw [decide_eq_false hw];rfl
     have hw2:¬(h.words.length:Int)=1+h.young+h.old:=hw
     go_enter Tryz.func55,Tryz.ntmps55
     go_wp2_with (first | (go_at_call 78;refine (zks _ _ _ _).mono ?_;rintro r _ ⟨rfl,rfl⟩))
     go_ret
     exact ⟨by rw [HR.out];rfl,HB0.out⟩
end Go.Proofs.YtjdnmblggdobgaaGreat
