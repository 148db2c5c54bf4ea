import Derived.Test.YtjdnmblggdobgaaGreatJHzJHzK
import Derived.Test.YtjdnmblggdobgaaGreatJHtHHuC
set_option maxHeartbeats 4000000
set_option maxRecDepth 100000
namespace Go.Proofs.YtjdnmblggdobgaaGreat
open Go.RowKit Go.Maps
def fulD:HeapD:=makeD begD0 1 5 false
section
theorem zx5:openErr (linkD baseD) begD0 [0]=0:=by kernel_rfl
theorem zx6:isTagB (linkD baseD).classes.length 1=true:=by kernel_rfl
theorem zx7:mayHaveB (linkD baseD).fields 1 5=true:=by kernel_rfl
theorem zx8:roomB begD0 false 5=true:=by kernel_rfl
theorem zx9:openErr (linkD baseD) fulD [1]=0:=by kernel_rfl
theorem zya:liveN (linkD baseD) fulD [1]=8:=by kernel_rfl
theorem zyb:wfL fulD.words=true:=by kernel_rfl
theorem zyc:fulD.noted= []:=by kernel_rfl
theorem zyd:fulD.words.length=41:=by kernel_rfl
end
theorem zye (w:World) (B:Nat) (vW vO kC kS kF kN kT:Value) (d:LinkD) (hd:d=linkD baseD) (g:Hd B w vW vO kC kS kF kN kT begD0 d) (vR:Value) (hs:SL 1 RI (· <B) w vR [0]):
 Calls Tryz.prog 46 #[.agg #[vW,.int .i64 20,.int .i64 20,.int .i64 1,.int .i64 21,vO,.int .i64 1],.agg #[kC,kS,kF,kN,kT],vR,.int .i64 1,.int .i64 5] w fun r w'=>Below w.heap.size w w'/\∃nW dW nO dO nR dR,r=.returned (.tuple #[.agg #[.slice nW 41 dW,.int .i64 20,.int .i64 20,.int .i64 9,.int .i64 21,.slice nO 0 dO,.int .i64 2],.slice nR 1 dR,.int .i64 1,.bool true,.int .i64 0])/\OwnV w.heap.size w' (.slice nW 41 dW) (.slice nO 0 dO) fulD:=by
 subst hd
 refine (zx4 w B _ _ _ _ _ _ _ begD0 (linkD baseD) g vR [0] hs (by intro x hx;rw [List.mem_singleton]at hx;subst hx;decide) 1 5 zx5 zx6 zx7 zx8).mono ?_
 rintro r w' ⟨hb,nW,dW,nO,dO,nR,dR,rfl,hov,-⟩
 exact ⟨hb,nW,dW,nO,dO,nR,dR,by kernel_rfl,hov⟩
theorem zyf (w:World) (B:Nat) (vW vO kC kS kF kN kT:Value) (d:LinkD) (hd:d=linkD baseD) (g:Hd B w vW vO kC kS kF kN kT fulD d) (vR:Value) (hs:SL 1 RI (· <B) w vR [1]):
 Calls Tryz.prog 40 #[.agg #[vW,.int .i64 20,.int .i64 20,.int .i64 9,.int .i64 21,vO,.int .i64 2],.agg #[kC,kS,kF,kN,kT],vR] w fun r w'=>Below w.heap.size w w'/\r=.returned (.tuple #[.int .i64 8,.int .i64 0]):=by
 subst hd
 refine (zxx w B _ _ _ _ _ _ _ fulD (linkD baseD) g vR [1] hs (by intro x hx;rw [List.mem_singleton]at hx;subst hx;decide)).mono ?_
 rintro r w' ⟨hb,⟨-,rfl⟩ | ⟨hc,rfl⟩⟩
 ·
  exact ⟨hb,by rw [zya]⟩
 exact absurd zx9 hc
theorem zyg (w:World):Calls Tryz.prog 42 #[] w fun r w'=>r=.returned (.bool true)/\Below w.heap.size w w':=by
 go_enter Tryz.func42,Tryz.ntmps42
 go_wp2_with fail
 refine (znz w).mono ?_
 rintro r w1 ⟨hb1,v,rfl,hv⟩
 have HL:=mk0 (zkb w1 w1.heap.size baseD v hv (Nat.le_refl _))
 obtain ⟨ao,cl,rfl,-⟩:=hv
 have HB1:=mk0 hb1
 clear hb1
 go_wp2_with fail
 refine HL.out.mono ?_
 rintro r w2 ⟨hb2,⟨-,kC,kS,kF,kN,kT,rfl,hlk⟩ | ⟨h0,rfl⟩⟩
 rotate_left
 ·
  exact absurd znx h0
 obtain ⟨LD,hLD⟩:∃LD,LD=linkD baseD:=⟨_,rfl⟩
 rw [<-hLD]at hlk
 have hl2:=hlk.mono (M':=(· <w2.heap.size)) (fun _ hk=>hk.2)
 obtain ⟨aC,cC,aS,cS,aF,cF,aN,cN,aT,cT,rfl,rfl,rfl,rfl,rfl⟩:=hlk.agg
 have HD:=mk0 hLD
 have HB2:Hid (Below w.heap.size w w2):=HB1.out.trans (hb2.mono HB1.out.size)
 obtain ⟨W3,hW3⟩:∃W3,W3=w2.alloc (.cells #[.slice aC LD.classes.length cC,.slice aS LD.supers.length cS,.slice aF LD.fields.length cF,.slice aN LD.names.length cN,.slice aT LD.targets.length cT] 36):=⟨_,rfl⟩
 have hA3:Below w2.heap.size w2 W3:=hW3 ▸ (Below.refl _ _).alloc (Nat.le_refl _) _
 have k3:W3.heap[w2.heap.size]? =some (.cells #[.slice aC LD.classes.length cC,.slice aS LD.supers.length cS,.slice aF LD.fields.length cF,.slice aN LD.names.length cN,.slice aT LD.targets.length cT] 36 (0,0)):=hW3 ▸ heap_alloc_new w2 _
 have HL3:=mk0 (hl2.kept (Kp.below hA3))
 have HK3:=mk0 k3
 have HB3:Hid (Below w.heap.size w W3):=HB2.out.trans (hA3.mono HB2.out.size)
 have HW3:=mk0 hW3
 clear HL hb2 hlk hl2 hLD hA3 k3 hW3 HB1
 go_wp2_with fail
 rw [<-HW3.out]
 refine (zoe W3).mono ?_
 rintro r w4 ⟨hb4,n4,c4,rfl,hov4⟩
 have hs4:=hb4.size
 obtain ⟨W5,hW5⟩:∃W5,W5=w4.alloc (.cells #[.slice n4 41 c4,.int .i64 20,.int .i64 20,.int .i64 1,.int .i64 21,.slice none 0 0,.int .i64 1] 24):=⟨_,rfl⟩
 have hA5:Below w4.heap.size w4 W5:=hW5 ▸ (Below.refl _ _).alloc (Nat.le_refl _) _
 have k5:W5.heap[w4.heap.size]? =some (.cells #[.slice n4 41 c4,.int .i64 20,.int .i64 20,.int .i64 1,.int .i64 21,.slice none 0 0,.int .i64 1] 24 (0,0)):=hW5 ▸ heap_alloc_new w4 _
 have hs5:W5.heap.size=w4.heap.size+1:=by rw [hW5];simp
 have hb35:Below W3.heap.size W3 W5:=hb4.trans (hA5.mono hs4)
 have lk3:=lt0 HK3.out
 have k5':=(hb35.block _ lk3).trans HK3.out
 have g5:Hd W5.heap.size W5 (.slice n4 41 c4) (.slice none 0 0) (.slice aC LD.classes.length cC) (.slice aS LD.supers.length cS) (.slice aF LD.fields.length cF) (.slice aN LD.names.length cN) (.slice aT LD.targets.length cT) begD0 LD:=Hd.of_own (hov4.below hA5) (HL3.out.kept (Kp.below (hb35.mono (by omega)))) (by omega) (by rw [zoc.1];omega) (by rw [zob.1];simp) (zn7 zn8) (by rw [zob.1];simp)
 obtain ⟨WA,hWA⟩:∃WA,WA=W5.alloc (.cells #[.int .i64 0] 3):=⟨_,rfl⟩
 have hAA:Below W5.heap.size W5 WA:=hWA ▸ (Below.refl _ _).alloc (Nat.le_refl _) _
 have kWA:WA.heap[W5.heap.size]? =some (.cells #[.int .i64 0] 3 (0,0)):=hWA ▸ heap_alloc_new W5 _
 have hzA:WA.heap.size=W5.heap.size+1:=by rw [hWA];simp
 have hSLA:SL 1 RI (· <WA.heap.size) WA (.slice (some ⟨W5.heap.size,0,none⟩) 1 1) [0]:=by
  have ho:WA.ownsRow 0 3 1 (.slice (some ⟨W5.heap.size,0,none⟩) 1 1) 1 (intV [0]):=⟨rfl,Or.inr ⟨W5.heap.size,1,_,rfl,Nat.zero_le _,kWA,Nat.le_refl _,by unfold maxLen;omega,rfl,rfl⟩⟩
  exact (zfb (ns:=[0]) ho (by simp)).monoI fun _ hk=>hk.lt
 rw [hs5]at hSLA
 have g5A:=g5.below hAA
 have HMK:=mk0 (zye WA _ _ _ _ _ _ _ _ LD HD.out ⟨g5A.sW.monoI fun _ hk=>by have:_<W5.heap.size:=hk;show _<WA.heap.size;omega,g5A.sO.monoI fun _ hk=>by have:_<W5.heap.size:=hk;show _<WA.heap.size;omega,g5A.lk.mono fun _ hk=>by have:_<W5.heap.size:=hk;show _<WA.heap.size;omega,Nat.le_refl _,g5A.ww,g5A.wn⟩ _ hSLA)
 have HWA:=mk0 hWA
 have HAA:=mk0 hAA
 clear hWA kWA hSLA g5A
 have l4:w2.heap.size<w4.heap.size:=by omega
 have e0:=(hb4.cell (p:=⟨w2.heap.size,0,none⟩) lk3).trans (cl0 HK3.out 0 (x:=.slice aC LD.classes.length cC) rfl)
 have e1:=(hb4.cell (p:=⟨w2.heap.size,1,none⟩) lk3).trans (cl0 HK3.out 1 (x:=.slice aS LD.supers.length cS) rfl)
 have e2:=(hb4.cell (p:=⟨w2.heap.size,2,none⟩) lk3).trans (cl0 HK3.out 2 (x:=.slice aF LD.fields.length cF) rfl)
 have e3:=(hb4.cell (p:=⟨w2.heap.size,3,none⟩) lk3).trans (cl0 HK3.out 3 (x:=.slice aN LD.names.length cN) rfl)
 have e4:=(hb4.cell (p:=⟨w2.heap.size,4,none⟩) lk3).trans (cl0 HK3.out 4 (x:=.slice aT LD.targets.length cT) rfl)
 have HK5:=mk0 k5
 have HB5:Hid (Below w.heap.size w W5):=HB3.out.trans (hb35.mono HB3.out.size)
 have HB35:=mk0 hb35
 have HL5:=mk0 (HL3.out.kept (Kp.below (hb35.mono (by omega))))
 have HK5':=mk0 k5'
 have HW5:=mk0 hW5
 clear hb4 hov4 hA5 k5 hb35 k5' g5 hW5
 go_wp2_with fail
 rw [<-HW5.out,<-HWA.out]
 refine HMK.out.mono ?_
 rintro r w6 ⟨hb6A,nW,dW,nO,dO,nR,dR,rfl,hov6⟩
 have hb6:Below W5.heap.size W5 w6:=HAA.out.trans (hb6A.mono HAA.out.size)
 have hs6:=hb6.size
 have k6:=(hb6.block _ (lt0 HK5.out)).trans HK5.out
 have k6':=(hb6.block _ (lt0 HK5'.out)).trans HK5'.out
 have hB6:Below w.heap.size w w6:=HB5.out.trans (hb6.mono HB5.out.size)
 have hwz:=HB3.out.size
 have hwz2:=HB2.out.size
 obtain ⟨W9,h9,hgS,hq,hr,rz,rl⟩:=setN (zs:=[.slice n4 41 c4,.int .i64 20,.int .i64 20,.int .i64 1,.int .i64 21,.slice none 0 0,.int .i64 1]) k6 [.slice nW 41 dW,.int .i64 20,.int .i64 20,.int .i64 9,.int .i64 21,.slice nO 0 dO,.int .i64 2] rfl
 have r0:=hr 0 _ rfl
 have r1:=hr 1 _ rfl
 have r2:=hr 2 _ rfl
 have r3:=hr 3 _ rfl
 have r4:=hr 4 _ rfl
 have r5:=hr 5 _ rfl
 have r6:=hr 6 _ rfl
 have q0:=hq 0 _ rfl
 have q1:=hq 1 _ rfl
 have q2:=hq 2 _ rfl
 have q3:=hq 3 _ rfl
 have q4:=hq 4 _ rfl
 have q5:=hq 5 _ rfl
 have q6:=hq 6 _ rfl
 have hw9:=hgS.size
 have HB9:=mk0 (bg0 (hB6) hgS (by omega))
 have HG9:=mk0 hgS
 simp only [setL,Nat.reduceAdd]at h9
 have H9:=mk0 h9
 clear hgS hq hr h9
 have ho9:OwnV WA.heap.size W9 (.slice nW 41 dW) (.slice nO 0 dO) fulD:=hov6.grown HG9.out (fun e=>by have:=(hov6.rW.lt _ e).1;omega) (fun e=>by have:=(hov6.rO.lt _ e).1;omega)
 have hl9:=(HL5.out.kept (Kp.below (hb6.mono (by omega)))).kept (M:=(· <w2.heap.size)) ⟨HG9.out.size,fun k hk hl=>HG9.out.block k hl (by have:=hk;intro e;injection e;omega)⟩
 have k9:=(HG9.out.block w2.heap.size (by omega) (by intro e;injection e;omega)).trans k6'
 have g9:Hd W9.heap.size W9 (.slice nW 41 dW) (.slice nO 0 dO) (.slice aC LD.classes.length cC) (.slice aS LD.supers.length cS) (.slice aF LD.fields.length cF) (.slice aN LD.names.length cN) (.slice aT LD.targets.length cT) fulD LD:=Hd.of_own ho9 hl9 (by omega) (by rw [zyd];omega) (by rw [zyc];simp) (zn7 zyb) (by rw [zyc];simp)
 obtain ⟨WB,hWB⟩:∃WA,WA=W9.alloc (.cells #[.int .i64 1] 3):=⟨_,rfl⟩
 have hAB:Below W9.heap.size W9 WB:=hWB ▸ (Below.refl _ _).alloc (Nat.le_refl _) _
 have kWB:WB.heap[W9.heap.size]? =some (.cells #[.int .i64 1] 3 (0,0)):=hWB ▸ heap_alloc_new W9 _
 have hzB:WB.heap.size=W9.heap.size+1:=by rw [hWB];simp
 have hSLB:SL 1 RI (· <WB.heap.size) WB (.slice (some ⟨W9.heap.size,0,none⟩) 1 1) [1]:=by
  have ho:WB.ownsRow 0 3 1 (.slice (some ⟨W9.heap.size,0,none⟩) 1 1) 1 (intV [1]):=⟨rfl,Or.inr ⟨W9.heap.size,1,_,rfl,Nat.zero_le _,kWB,Nat.le_refl _,by unfold maxLen;omega,rfl,rfl⟩⟩
  exact (zfb (ns:=[1]) ho (by simp)).monoI fun _ hk=>hk.lt
 have gB:=Hd.of_own (ho9.below hAB) (hl9.kept (Kp.below (hAB.mono (by omega)))) (by omega) (by rw [zyd];omega) (by rw [zyc];simp) (zn7 zyb) (by rw [zyc];simp)
 have HST:=mk0 (zyf WB _ _ _ _ _ _ _ _ LD HD.out gB _ hSLB)
 have HWB:=mk0 hWB
 have HAB:=mk0 hAB
 clear hWB kWB hSLB gB
 have o0:=cl0 k9 0 (x:=.slice aC LD.classes.length cC) rfl
 have o1:=cl0 k9 1 (x:=.slice aS LD.supers.length cS) rfl
 have o2:=cl0 k9 2 (x:=.slice aF LD.fields.length cF) rfl
 have o3:=cl0 k9 3 (x:=.slice aN LD.names.length cN) rfl
 have o4:=cl0 k9 4 (x:=.slice aT LD.targets.length cT) rfl
 have rz9:∀j,W9.frozen? ⟨w4.heap.size,j,none⟩=false:=by rw [<-H9.out];exact zod _ [.slice nW 41 dW,.int .i64 20,.int .i64 20,.int .i64 9,.int .i64 21,.slice nO 0 dO,.int .i64 2] w6 0 rz
 have HK9':=mk0 k9
 have HL9:=mk0 hl9
 have hwz3:=HB9.out.size
 have h9v:=H9.out
 clear hb6 hb6A hov6 k6 k6' hB6 ho9 hl9 k9 g9 HMK e0 e1 e2 e3 e4
 go_wp2_with fail
 rw [<-HWB.out]
 refine HST.out.mono ?_
 rintro r w10 ⟨hb10A,rfl⟩
 have hb10:Below W9.heap.size W9 w10:=HAB.out.trans (hb10A.mono HAB.out.size)
 have HBE:Hid (Below w.heap.size w w10):=HB9.out.trans (hb10.mono HB9.out.size)
 clear hb10 hb10A HST h9v
 go_wp2_with fail
 go_ret
 exact ⟨rfl,HBE.out⟩
theorem fullLives_any (w:World) (B:Nat) (vW vO kC kS kF kN kT:Value) (h:HeapD) (d:LinkD) (g:Hd B w vW vO kC kS kF kN kT h d) (hnb:h.next<=9223372036854775807) (vR:Value) (rs:List Int) (hs:SL 1 RI (· <B) w vR rs) (hwr:∀x∈rs,(Lit.int .i64 x).wf=true):
 Calls Tryz.prog 12 #[.agg #[vW,.int .i64 h.young,.int .i64 h.old,.int .i64 h.ytop,.int .i64 h.otop,vO,.int .i64 h.next],.agg #[kC,kS,kF,kN,kT],vR] w fun r w'=>r=.returned (.bool true)/\Below w.heap.size w w':=by
 have HG:=mk0 g
 have HSR:=mk0 hs
 obtain ⟨aW,cW,aO,cO,aC,cC,aS,cS,aF,cF,aN,cN,aT,cT,rfl,rfl,rfl,rfl,rfl,rfl,rfl⟩:=g.agg
 obtain ⟨aR,cR,rfl,-⟩:=hs
 clear g
 obtain ⟨W0,hW0,hB0,hs0,k0,k1⟩:=boxes2 w #[.slice aW h.words.length cW,.int .i64 h.young,.int .i64 h.old,.int .i64 h.ytop,.int .i64 h.otop,.slice aO h.noted.length cO,.int .i64 h.next] #[.slice aC d.classes.length cC,.slice aS d.supers.length cS,.slice aF d.fields.length cF,.slice aN d.names.length cN,.slice aT d.targets.length cT] 24 36
 have lk0:=lt0 k0
 have lk1:=lt0 k1
 have HB0:=mk0 hB0
 have HE0:=mk0 hW0
 have HK0:=mk0 (And.intro k0 k1)
 have HGV:Hid (∀V,Below W0.heap.size W0 V->Hd B V (.slice aW h.words.length cW) (.slice aO h.noted.length cO) (.slice aC d.classes.length cC) (.slice aS d.supers.length cS) (.slice aF d.fields.length cF) (.slice aN d.names.length cN) (.slice aT d.targets.length cT) h d):=fun V hV=>HG.out.below ((hB0.trans (hV.mono hB0.size)).mono HG.out.le)
 have HSV:Hid (∀V,Below W0.heap.size W0 V->SL 1 RI (· <B) V (.slice aR rs.length cR) rs):=fun V hV=>HSR.out.keptI (Kp.below ((hB0.trans (hV.mono hB0.size)).mono HG.out.le))
 have HRM:=mk0 (zxx W0 B _ _ _ _ _ _ _ h d (HGV.out W0 (Below.refl _ _)) _ rs (HSV.out W0 (Below.refl _ _)) hwr)
 have HOH:Hid (∀V,Below W0.heap.size W0 V->Calls Tryz.prog 34 #[.agg #[.slice aW h.words.length cW,.int .i64 h.young,.int .i64 h.old,.int .i64 h.ytop,.int .i64 h.otop,.slice aO h.noted.length cO,.int .i64 h.next],.agg #[.slice aC d.classes.length cC,.slice aS d.supers.length cS,.slice aF d.fields.length cF,.slice aN d.names.length cN,.slice aT d.targets.length cT],.slice aR rs.length cR] V fun r w'=>r=.returned (.int .i64 (openErr d h rs))/\Below V.heap.size V w'):=fun V hV=>zwz V B _ _ _ _ _ _ _ h d (HGV.out V hV) hnb _ rs (HSV.out V hV)
 have hE:openErr d h rs=0\/openErr d h rs≠0:=by omega
 clear hB0 hW0 hs0 hnb k0 k1 hwr
 rcases hE with hE | hE
 ·
  have HLO:Hid (∀V,Below W0.heap.size W0 V->Calls Tryz.prog 41 #[.agg #[.slice aW h.words.length cW,.int .i64 h.young,.int .i64 h.old,.int .i64 h.ytop,.int .i64 h.otop,.slice aO h.noted.length cO,.int .i64 h.next],.agg #[.slice aC d.classes.length cC,.slice aS d.supers.length cS,.slice aF d.fields.length cF,.slice aN d.names.length cN,.slice aT d.targets.length cT],.slice aR rs.length cR] V fun r w'=>r=.returned (.int .i64 (liveN d h rs))/\Below V.heap.size V w'):=fun V hV=>by
   obtain ⟨ts,rt,hrl,hrd⟩:=zxu hE
   exact zxk V B _ _ _ _ _ _ _ h d (HGV.out V hV) ts rt _ rs (HSV.out V hV) hrd (by omega)
  have HRM0:Hid (Calls Tryz.prog 40 #[.agg #[.slice aW h.words.length cW,.int .i64 h.young,.int .i64 h.old,.int .i64 h.ytop,.int .i64 h.otop,.slice aO h.noted.length cO,.int .i64 h.next],.agg #[.slice aC d.classes.length cC,.slice aS d.supers.length cS,.slice aF d.fields.length cF,.slice aN d.names.length cN,.slice aT d.targets.length cT],.slice aR rs.length cR] W0 fun r w'=>Below W0.heap.size W0 w'/\r=.returned (.tuple #[.int .i64 (liveN d h rs),.int .i64 0])):=HRM.out.mono fun r w' ⟨hb,q⟩=>by
   rcases q with ⟨-,q⟩ | ⟨q,-⟩
   ·
    exact ⟨hb,q⟩
   exact absurd hE q
  rw [hE]at HOH
  generalize liveN d h rs=lf at*
  clear HRM hE
  rw [HE0.out]at HRM0
  go_enter Tryz.func12,Tryz.ntmps12
  go_wp2_with fail
  refine HRM0.out.mono ?_
  rw [<-HE0.out]
  rintro r w1 ⟨hb1,rfl⟩
  have j0:=(hb1.block _ lk0).trans HK0.out.1
  have j1:=(hb1.block _ lk1).trans HK0.out.2
  obtain ⟨a0,a1,a2,a3,a4,a5,a6,az,al⟩:=cells7 j0
  obtain ⟨b0,b1,b2,b3,b4,bl⟩:=cells5 j1
  clear j0 j1
  have HB1:=mk0 hb1
  have HO1:=mk0 (HOH.out w1 hb1)
  clear hb1 HRM0
  go_wp2_with fail
  refine HO1.out.mono ?_
  rintro r w2 ⟨rfl,hb2⟩
  have hb02:Below W0.heap.size W0 w2:=HB1.out.trans (hb2.mono HB1.out.size)
  clear a0 a1 a2 a3 a4 a5 a6 az al b0 b1 b2 b3 b4 bl
  have j0:=(hb02.block _ lk0).trans HK0.out.1
  have j1:=(hb02.block _ lk1).trans HK0.out.2
  obtain ⟨a0,a1,a2,a3,a4,a5,a6,az,al⟩:=cells7 j0
  obtain ⟨b0,b1,b2,b3,b4,bl⟩:=cells5 j1
  clear j0 j1
  have HB2:=mk0 hb02
  have HL2:=mk0 (HLO.out w2 hb02)
  clear hb2 hb02 HO1
  go_wp2_with fail
  refine HL2.out.mono ?_
  rintro r w3 ⟨rfl,hb3⟩
  have HB3:Hid (Below W0.heap.size W0 w3):=HB2.out.trans (hb3.mono HB2.out.size)
  clear a0 a1 a2 a3 a4 a5 a6 az al b0 b1 b2 b3 b4 bl
  clear hb3
  go_wp2_with fail
  refine (zyg w3).mono ?_
  rintro r w4 ⟨rfl,hb4⟩
  have HB4:Hid (Below w.heap.size w w4):=HB0.out.trans ((HB3.out.trans (hb4.mono HB3.out.size)).mono HB0.out.size)
  clear hb4
  go_wp2_with fail
  go_ret
  exact ⟨by simp,HB4.out⟩
 have HRM0:Hid (Calls Tryz.prog 40 #[.agg #[.slice aW h.words.length cW,.int .i64 h.young,.int .i64 h.old,.int .i64 h.ytop,.int .i64 h.otop,.slice aO h.noted.length cO,.int .i64 h.next],.agg #[.slice aC d.classes.length cC,.slice aS d.supers.length cS,.slice aF d.fields.length cF,.slice aN d.names.length cN,.slice aT d.targets.length cT],.slice aR rs.length cR] W0 fun r w'=>Below W0.heap.size W0 w'/\r=.returned (.tuple #[.int .i64 0,.int .i64 (openErr d h rs)])):=HRM.out.mono fun r w' ⟨hb,q⟩=>by
  rcases q with ⟨q,-⟩ | ⟨-,q⟩
  ·
   exact absurd q hE
  exact ⟨hb,q⟩
 have hne:(openErr d h rs==0)=false:=by simpa using hE
 generalize openErr d h rs=er at*
 clear HRM hE
 rw [HE0.out]at HRM0
 go_enter Tryz.func12,Tryz.ntmps12
 go_wp2_with fail
 refine HRM0.out.mono ?_
 rw [<-HE0.out]
 rintro r w1 ⟨hb1,rfl⟩
 have j0:=(hb1.block _ lk0).trans HK0.out.1
 have j1:=(hb1.block _ lk1).trans HK0.out.2
 obtain ⟨a0,a1,a2,a3,a4,a5,a6,az,al⟩:=cells7 j0
 obtain ⟨b0,b1,b2,b3,b4,bl⟩:=cells5 j1
 clear j0 j1
 have HB1:=mk0 hb1
 have HO1:=mk0 (HOH.out w1 hb1)
 clear hb1 HRM0
 go_wp2_with fail
 refine HO1.out.mono ?_
 rintro r w2 ⟨rfl,hb2⟩
 have HB2:Hid (Below W0.heap.size W0 w2):=HB1.out.trans (hb2.mono HB1.out.size)
 clear a0 a1 a2 a3 a4 a5 a6 az al b0 b1 b2 b3 b4 bl
 clear hb2 HO1
 go_wp2_with fail
 refine (zyg w2).mono ?_
 rintro r w4 ⟨rfl,hb4⟩
 have HB4:Hid (Below w.heap.size w w4):=HB0.out.trans ((HB2.out.trans (hb4.mono HB2.out.size)).mono HB0.out.size)
 clear hb4
 go_wp2_with fail
 go_ret
 exact ⟨by simp,HB4.out⟩
end Go.Proofs.YtjdnmblggdobgaaGreat
