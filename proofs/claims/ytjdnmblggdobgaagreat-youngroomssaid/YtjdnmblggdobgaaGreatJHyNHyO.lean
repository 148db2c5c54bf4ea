import Derived.Test.YtjdnmblggdobgaaGreatJHyRHyL
import Derived.Test.YtjdnmblggdobgaaGreatJHtHHuC
import Derived.Test.YtjdnmblggdobgaaGreatJLPu5HuE
set_option maxHeartbeats 4000000
set_option maxRecDepth 100000
namespace Go.Proofs.YtjdnmblggdobgaaGreat
open Go.RowKit Go.Maps
def yngD:HeapD:=collectD (linkD baseD) begD1 [1]
section
theorem zv9:colErr (linkD baseD) begD1 [1]=0:=by kernel_rfl
theorem zwa:collectR begD1 [1]= [21]:=by kernel_rfl
theorem zwb:heapErr (linkD baseD) yngD=0:=by kernel_rfl
theorem zwc:leftD yngD=15:=by kernel_rfl
theorem zwd:wfL yngD.words=true:=by kernel_rfl
theorem zwe:yngD.noted= []:=by kernel_rfl
theorem zwf:yngD.words.length=41:=by kernel_rfl
end
theorem zwg (w:World) (B:Nat) (vW vO kC kS kF kN kT:Value) (d:LinkD) (hd:d=linkD baseD) (g:Hd B w vW vO kC kS kF kN kT begD1 d) (vR:Value) (hs:SL 1 RI (· <B) w vR [1]):
 Calls Tryz.prog 33 #[.agg #[vW,.int .i64 20,.int .i64 20,.int .i64 6,.int .i64 21,vO,.int .i64 2],.agg #[kC,kS,kF,kN,kT],vR] w fun r w'=>Below w.heap.size w w'/\∃nW dW nO dO nR dR,r=.returned (.tuple #[.agg #[.slice nW 41 dW,.int .i64 20,.int .i64 20,.int .i64 1,.int .i64 26,.slice nO 0 dO,.int .i64 2],.slice (some ⟨nR,0,none⟩) 1 dR,.int .i64 0])/\OwnV w.heap.size w' (.slice nW 41 dW) (.slice nO 0 dO) yngD/\w'.ownsRow w.heap.size 3 1 (.slice (some ⟨nR,0,none⟩) 1 dR) 1 [.int .i64 21]:=by
 subst hd
 refine (zv8 w B _ _ _ _ _ _ _ begD1 (linkD baseD) g vR [1] hs (by intro x hx;rw [List.mem_singleton]at hx;subst hx;decide)).mono ?_
 rintro r w' ⟨hb,⟨-,nW,dW,nO,dO,nR,dR,rfl,hov,hor⟩ | ⟨hc,rfl⟩⟩
 ·
  rw [zwa]at hor
  obtain ⟨gR,hgR⟩:∃gR,nR=some ⟨gR,0,none⟩:=by
   rcases hor.2 with ⟨e,h0⟩ | ⟨g,cap,cur,e,-⟩
   ·
    cases h0
   injection e with e1;exact ⟨g,e1⟩
  subst hgR
  exact ⟨hb,nW,dW,nO,dO,gR,dR,by rw [zwa];kernel_rfl,hov,hor⟩
 exact absurd zv9 hc
theorem zwh (w:World) (B:Nat) (vW vO kC kS kF kN kT:Value) (d:LinkD) (hd:d=linkD baseD) (g:Hd B w vW vO kC kS kF kN kT yngD d):
 Calls Tryz.prog 38 #[.agg #[vW,.int .i64 20,.int .i64 20,.int .i64 1,.int .i64 26,vO,.int .i64 2],.agg #[kC,kS,kF,kN,kT]] w fun r w'=>Below w.heap.size w w'/\r=.returned (.tuple #[.int .i64 15,.int .i64 0]):=by
 subst hd
 refine (zv5 w B _ _ _ _ _ _ _ yngD (linkD baseD) g).mono ?_
 rintro r w' ⟨hb,⟨-,rfl⟩ | ⟨hc,rfl⟩⟩
 ·
  exact ⟨hb,by rw [zwc]⟩
 exact absurd zwb hc
theorem zwi (w:World):Calls Tryz.prog 37 #[] w fun r w'=>r=.returned (.bool true)/\Below w.heap.size w w':=by
 go_enter Tryz.func37,Tryz.ntmps37
 go_wp2_with fail
 refine (znz w).mono ?_
 rintro r w1 ⟨hb1,v,rfl,hv⟩
 have HL:=mk0 (zkb w1 w1.heap.size baseD v hv (Nat.le_refl _))
 obtain ⟨ao,cl,rfl,-⟩:=hv
 have HB1:=mk0 hb1
 clear hb1
 go_wp2_with fail
 refine HL.out.mono ?_
 rintro r w2 ⟨hb2,⟨-,kC,kS,kF,kN,kT,rfl,hlk⟩ | ⟨h0,rfl⟩⟩
 rotate_left
 ·
  exact absurd znx h0
 obtain ⟨LD,hLD⟩:∃LD,LD=linkD baseD:=⟨_,rfl⟩
 rw [<-hLD]at hlk
 have hl2:=hlk.mono (M':=(· <w2.heap.size)) (fun _ hk=>hk.2)
 obtain ⟨aC,cC,aS,cS,aF,cF,aN,cN,aT,cT,rfl,rfl,rfl,rfl,rfl⟩:=hlk.agg
 have HD:=mk0 hLD
 have HB2:Hid (Below w.heap.size w w2):=HB1.out.trans (hb2.mono HB1.out.size)
 obtain ⟨W3,hW3⟩:∃W3,W3=w2.alloc (.cells #[.slice aC LD.classes.length cC,.slice aS LD.supers.length cS,.slice aF LD.fields.length cF,.slice aN LD.names.length cN,.slice aT LD.targets.length cT] 36):=⟨_,rfl⟩
 have hA3:Below w2.heap.size w2 W3:=hW3 ▸ (Below.refl _ _).alloc (Nat.le_refl _) _
 have k3:W3.heap[w2.heap.size]? =some (.cells #[.slice aC LD.classes.length cC,.slice aS LD.supers.length cS,.slice aF LD.fields.length cF,.slice aN LD.names.length cN,.slice aT LD.targets.length cT] 36 (0,0)):=hW3 ▸ heap_alloc_new w2 _
 have HL3:=mk0 (hl2.kept (Kp.below hA3))
 have HK3:=mk0 k3
 have HB3:Hid (Below w.heap.size w W3):=HB2.out.trans (hA3.mono HB2.out.size)
 have HW3:=mk0 hW3
 clear HL hb2 hlk hl2 hLD hA3 k3 hW3 HB1
 go_wp2_with fail
 rw [<-HW3.out]
 refine (zoe W3).mono ?_
 rintro r w4 ⟨hb4,n4,c4,rfl,hov4⟩
 have hs4:=hb4.size
 obtain ⟨W5,hW5⟩:∃W5,W5=w4.alloc (.cells #[.slice n4 41 c4,.int .i64 20,.int .i64 20,.int .i64 1,.int .i64 21,.slice none 0 0,.int .i64 1] 24):=⟨_,rfl⟩
 have hA5:Below w4.heap.size w4 W5:=hW5 ▸ (Below.refl _ _).alloc (Nat.le_refl _) _
 have k5:W5.heap[w4.heap.size]? =some (.cells #[.slice n4 41 c4,.int .i64 20,.int .i64 20,.int .i64 1,.int .i64 21,.slice none 0 0,.int .i64 1] 24 (0,0)):=hW5 ▸ heap_alloc_new w4 _
 have hs5:W5.heap.size=w4.heap.size+1:=by rw [hW5];simp
 have hb35:Below W3.heap.size W3 W5:=hb4.trans (hA5.mono hs4)
 have lk3:=lt0 HK3.out
 have k5':=(hb35.block _ lk3).trans HK3.out
 have g5:Hd W5.heap.size W5 (.slice n4 41 c4) (.slice none 0 0) (.slice aC LD.classes.length cC) (.slice aS LD.supers.length cS) (.slice aF LD.fields.length cF) (.slice aN LD.names.length cN) (.slice aT LD.targets.length cT) begD0 LD:=Hd.of_own (hov4.below hA5) (HL3.out.kept (Kp.below (hb35.mono (by omega)))) (by omega) (by rw [zoc.1];omega) (by rw [zob.1];simp) (zn7 zn8) (by rw [zob.1];simp)
 have HMK:=mk0 (zof W5 _ _ _ _ _ _ _ _ LD HD.out g5)
 have l4:w2.heap.size<w4.heap.size:=by omega
 have e0:=(hb4.cell (p:=⟨w2.heap.size,0,none⟩) lk3).trans (cl0 HK3.out 0 (x:=.slice aC LD.classes.length cC) rfl)
 have e1:=(hb4.cell (p:=⟨w2.heap.size,1,none⟩) lk3).trans (cl0 HK3.out 1 (x:=.slice aS LD.supers.length cS) rfl)
 have e2:=(hb4.cell (p:=⟨w2.heap.size,2,none⟩) lk3).trans (cl0 HK3.out 2 (x:=.slice aF LD.fields.length cF) rfl)
 have e3:=(hb4.cell (p:=⟨w2.heap.size,3,none⟩) lk3).trans (cl0 HK3.out 3 (x:=.slice aN LD.names.length cN) rfl)
 have e4:=(hb4.cell (p:=⟨w2.heap.size,4,none⟩) lk3).trans (cl0 HK3.out 4 (x:=.slice aT LD.targets.length cT) rfl)
 have HK5:=mk0 k5
 have HB5:Hid (Below w.heap.size w W5):=HB3.out.trans (hb35.mono HB3.out.size)
 have HB35:=mk0 hb35
 have HL5:=mk0 (HL3.out.kept (Kp.below (hb35.mono (by omega))))
 have HK5':=mk0 k5'
 have HW5:=mk0 hW5
 clear hb4 hov4 hA5 k5 hb35 k5' g5 hW5
 go_wp2_with fail
 rw [<-HW5.out]
 refine HMK.out.mono ?_
 rintro r w6 ⟨hb6,nW,dW,nO,dO,rfl,hov6⟩
 have hs6:=hb6.size
 have k6:=(hb6.block _ (lt0 HK5.out)).trans HK5.out
 have k6':=(hb6.block _ (lt0 HK5'.out)).trans HK5'.out
 have hB6:Below w.heap.size w w6:=HB5.out.trans (hb6.mono HB5.out.size)
 have hwz:=HB3.out.size
 have hwz2:=HB2.out.size
 obtain ⟨W9,h9,hgS,hq,hr,rz,rl⟩:=setN (zs:=[.slice n4 41 c4,.int .i64 20,.int .i64 20,.int .i64 1,.int .i64 21,.slice none 0 0,.int .i64 1]) k6 [.slice nW 41 dW,.int .i64 20,.int .i64 20,.int .i64 6,.int .i64 21,.slice nO 0 dO,.int .i64 2] rfl
 have r0:=hr 0 _ rfl
 have r1:=hr 1 _ rfl
 have r2:=hr 2 _ rfl
 have r3:=hr 3 _ rfl
 have r4:=hr 4 _ rfl
 have r5:=hr 5 _ rfl
 have r6:=hr 6 _ rfl
 have q0:=hq 0 _ rfl
 have q1:=hq 1 _ rfl
 have q2:=hq 2 _ rfl
 have q3:=hq 3 _ rfl
 have q4:=hq 4 _ rfl
 have q5:=hq 5 _ rfl
 have q6:=hq 6 _ rfl
 have hw9:=hgS.size
 have HB9:=mk0 (bg0 (hB6) hgS (by omega))
 have HG9:=mk0 hgS
 simp only [setL,Nat.reduceAdd]at h9
 have H9:=mk0 h9
 clear hgS hq hr h9
 have ho9:OwnV W5.heap.size W9 (.slice nW 41 dW) (.slice nO 0 dO) begD1:=hov6.grown HG9.out (fun e=>by have:=(hov6.rW.lt _ e).1;omega) (fun e=>by have:=(hov6.rO.lt _ e).1;omega)
 have hl9:=(HL5.out.kept (Kp.below (hb6.mono (by omega)))).kept (M:=(· <w2.heap.size)) ⟨HG9.out.size,fun k hk hl=>HG9.out.block k hl (by have:=hk;intro e;injection e;omega)⟩
 have k9:=(HG9.out.block w2.heap.size (by omega) (by intro e;injection e;omega)).trans k6'
 have g9:Hd W9.heap.size W9 (.slice nW 41 dW) (.slice nO 0 dO) (.slice aC LD.classes.length cC) (.slice aS LD.supers.length cS) (.slice aF LD.fields.length cF) (.slice aN LD.names.length cN) (.slice aT LD.targets.length cT) begD1 LD:=Hd.of_own ho9 hl9 (by omega) (by rw [zoc.2.1];omega) (by rw [zob.2.1];simp) (zn7 zn9) (by rw [zob.2.1];simp)
 obtain ⟨WA,hWA⟩:∃WA,WA=W9.alloc (.cells #[.int .i64 1] 3):=⟨_,rfl⟩
 have hAA:Below W9.heap.size W9 WA:=hWA ▸ (Below.refl _ _).alloc (Nat.le_refl _) _
 have kA:WA.heap[W9.heap.size]? =some (.cells #[.int .i64 1] 3 (0,0)):=hWA ▸ heap_alloc_new W9 _
 have hsA:WA.heap.size=W9.heap.size+1:=by rw [hWA];simp
 have hSL:SL 1 RI (· <WA.heap.size) WA (.slice (some ⟨W9.heap.size,0,none⟩) 1 1) [1]:=by
  have ho:WA.ownsRow 0 3 1 (.slice (some ⟨W9.heap.size,0,none⟩) 1 1) 1 (intV [1]):=⟨rfl,Or.inr ⟨W9.heap.size,1,_,rfl,Nat.zero_le _,kA,Nat.le_refl _,by unfold maxLen;omega,rfl,rfl⟩⟩
  exact (zfb (ns:=[1]) ho (by simp)).monoI fun _ hk=>hk.lt
 have gA:=Hd.of_own (ho9.below hAA) (hl9.kept (Kp.below (hAA.mono (by omega)))) (by omega) (by rw [zoc.2.1];omega) (by rw [zob.2.1];simp) (zn7 zn9) (by rw [zob.2.1];simp)
 have HST:=mk0 (zwg WA _ _ _ _ _ _ _ _ LD HD.out gA _ hSL)
 have HWA:=mk0 hWA
 have HAA:=mk0 hAA
 clear hWA kA hSL gA
 have o0:=cl0 k9 0 (x:=.slice aC LD.classes.length cC) rfl
 have o1:=cl0 k9 1 (x:=.slice aS LD.supers.length cS) rfl
 have o2:=cl0 k9 2 (x:=.slice aF LD.fields.length cF) rfl
 have o3:=cl0 k9 3 (x:=.slice aN LD.names.length cN) rfl
 have o4:=cl0 k9 4 (x:=.slice aT LD.targets.length cT) rfl
 have rz9:∀j,W9.frozen? ⟨w4.heap.size,j,none⟩=false:=by rw [<-H9.out];exact zod _ [.slice nW 41 dW,.int .i64 20,.int .i64 20,.int .i64 6,.int .i64 21,.slice nO 0 dO,.int .i64 2] w6 0 rz
 have HK9':=mk0 k9
 have HL9:=mk0 hl9
 have hwz3:=HB9.out.size
 have h9v:=H9.out
 clear hb6 hov6 k6 k6' hB6 ho9 hl9 k9 g9 HMK e0 e1 e2 e3 e4
 go_wp2_with fail
 rw [<-HWA.out]
 refine HST.out.mono ?_
 rintro r w10 ⟨hb10A,nV,dV,nP,dP,gR,cR,rfl,hov10,hor10⟩
 have hb10:Below W9.heap.size W9 w10:=HAA.out.trans (hb10A.mono HAA.out.size)
 have hs10:=hb10.size
 have lR:w4.heap.size<W9.heap.size:=by omega
 have hB10:Below w.heap.size w w10:=HB9.out.trans (hb10.mono HB9.out.size)
 have rb0:=(hb10.cell (p:=⟨w4.heap.size,0,none⟩) lR).trans q0
 have rb1:=(hb10.cell (p:=⟨w4.heap.size,1,none⟩) lR).trans q1
 have rb2:=(hb10.cell (p:=⟨w4.heap.size,2,none⟩) lR).trans q2
 have rb3:=(hb10.cell (p:=⟨w4.heap.size,3,none⟩) lR).trans q3
 have rb4:=(hb10.cell (p:=⟨w4.heap.size,4,none⟩) lR).trans q4
 have rb5:=(hb10.cell (p:=⟨w4.heap.size,5,none⟩) lR).trans q5
 have rb6:=(hb10.cell (p:=⟨w4.heap.size,6,none⟩) lR).trans q6
 have rzb:∀j,w10.frozen? ⟨w4.heap.size,j,none⟩=false:=fun j=>(World.frozen?_of_block (a:=⟨w4.heap.size,j,none⟩) (hb10.block (w4.heap.size) lR)).trans (rz9 j)
 have rlb:w4.heap.size<w10.heap.size:=Nat.lt_of_lt_of_le lR hb10.size
 obtain ⟨hgSb,hcSb,-⟩:=zl9 (w4.heap.size) [.slice nV 41 dV,.int .i64 20,.int .i64 20,.int .i64 1,.int .i64 26,.slice nP 0 dP,.int .i64 2] w10 0 (fun j hj=>by
  rw [Nat.zero_add]
  match j,hj with
  | 0,_=>exact ⟨_,rb0⟩
  | 1,_=>exact ⟨_,rb1⟩
  | 2,_=>exact ⟨_,rb2⟩
  | 3,_=>exact ⟨_,rb3⟩
  | 4,_=>exact ⟨_,rb4⟩
  | 5,_=>exact ⟨_,rb5⟩
  | 6,_=>exact ⟨_,rb6⟩
  )
 obtain ⟨W9b,h9b⟩:∃W9,setL w10 (w4.heap.size) 0 [.slice nV 41 dV,.int .i64 20,.int .i64 20,.int .i64 1,.int .i64 26,.slice nP 0 dP,.int .i64 2]=W9:=⟨_,rfl⟩
 rw [h9b]at hgSb hcSb
 have hw9b:=hgSb.size
 have qb0:W9b.cell? ⟨w4.heap.size,0,none⟩=some (.slice nV 41 dV):=(hcSb 0 (by simp)).trans rfl
 have qb1:W9b.cell? ⟨w4.heap.size,1,none⟩=some (.int .i64 20):=(hcSb 1 (by simp)).trans rfl
 have qb2:W9b.cell? ⟨w4.heap.size,2,none⟩=some (.int .i64 20):=(hcSb 2 (by simp)).trans rfl
 have qb3:W9b.cell? ⟨w4.heap.size,3,none⟩=some (.int .i64 1):=(hcSb 3 (by simp)).trans rfl
 have qb4:W9b.cell? ⟨w4.heap.size,4,none⟩=some (.int .i64 26):=(hcSb 4 (by simp)).trans rfl
 have qb5:W9b.cell? ⟨w4.heap.size,5,none⟩=some (.slice nP 0 dP):=(hcSb 5 (by simp)).trans rfl
 have qb6:W9b.cell? ⟨w4.heap.size,6,none⟩=some (.int .i64 2):=(hcSb 6 (by simp)).trans rfl
 have HB9b:=mk0 (bg0 (hB10) hgSb (by omega))
 have HG9b:=mk0 hgSb
 have H9b:Hid ((((((((w10.setCell ⟨w4.heap.size,0,none⟩ (.slice nV 41 dV)).setCell ⟨w4.heap.size,1,none⟩ (.int .i64 20)).setCell ⟨w4.heap.size,2,none⟩ (.int .i64 20)).setCell ⟨w4.heap.size,3,none⟩ (.int .i64 1)).setCell ⟨w4.heap.size,4,none⟩ (.int .i64 26)).setCell ⟨w4.heap.size,5,none⟩ (.slice nP 0 dP)).setCell ⟨w4.heap.size,6,none⟩ (.int .i64 2))=W9b):=h9b
 clear hgSb hcSb h9b
 have l2:w2.heap.size<W9.heap.size:=by omega
 have ho9:OwnV WA.heap.size W9b (.slice nV 41 dV) (.slice nP 0 dP) yngD:=hov10.grown HG9b.out (fun e=>by have:=(hov10.rW.lt _ e).1;omega) (fun e=>by have:=(hov10.rO.lt _ e).1;omega)
 have hl9:=(HL9.out.kept (Kp.below (hb10.mono (by omega)))).kept (M:=(· <w2.heap.size)) ⟨HG9b.out.size,fun k hk hl=>HG9b.out.block k hl (by have:=hk;intro e;injection e;omega)⟩
 have k9:=(HG9b.out.block w2.heap.size (by omega) (by intro e;injection e;omega)).trans ((hb10.block _ l2).trans HK9'.out)
 have hszb:=HG9b.out.size
 have g9:Hd W9b.heap.size W9b (.slice nV 41 dV) (.slice nP 0 dP) (.slice aC LD.classes.length cC) (.slice aS LD.supers.length cS) (.slice aF LD.fields.length cF) (.slice aN LD.names.length cN) (.slice aT LD.targets.length cT) yngD LD:=Hd.of_own ho9 hl9 (by omega) (by rw [zwf];omega) (by rw [zwe];simp) (zn7 zwd) (by rw [zwe];simp)
 have HGT:=mk0 (zwh W9b _ _ _ _ _ _ _ _ LD HD.out g9)
 have hor9:W9b.ownsRow WA.heap.size 3 1 (.slice (some ⟨gR,0,none⟩) 1 cR) 1 [.int .i64 21]:=hor10.kept HG9b.out (Or.inr fun e=>by have:=(hor10.lt _ e).1;omega)
 have HOR:=mk0 hor9
 have s0:=cl0 k9 0 (x:=.slice aC LD.classes.length cC) rfl
 have s1:=cl0 k9 1 (x:=.slice aS LD.supers.length cS) rfl
 have s2:=cl0 k9 2 (x:=.slice aF LD.fields.length cF) rfl
 have s3:=cl0 k9 3 (x:=.slice aN LD.names.length cN) rfl
 have s4:=cl0 k9 4 (x:=.slice aT LD.targets.length cT) rfl
 have h9w:=H9b.out
 have lRb:w4.heap.size<W9b.heap.size:=by omega
 have lLb:w2.heap.size<W9b.heap.size:=by omega
 clear h9v hb10 hb10A hov10 hor10 hor9 hB10 ho9 hl9 k9 g9 HST o0 o1 o2 o3 o4 q0 q1 q2 q3 q4 q5 q6 rz9 r0 r1 r2 r3 r4 r5 r6 rz rl
 go_wp2_with fail
 refine HGT.out.mono ?_
 rintro r w11 ⟨hb11,rfl⟩
 have hor11:=zhj HOR.out hb11
 have t0:=(hor11.cellAt 0 (by decide)).trans (rfl: [Value.int .i64 21][0]? =some (.int .i64 21))
 have l11:gR<w11.heap.size:=(hor11.lt gR rfl).2
 clear hor11
 have HBE:Hid (Below w.heap.size w w11):=HB9b.out.trans (hb11.mono HB9b.out.size)
 clear hb11 h9w
 go_wp2_with fail
 go_ret
 exact ⟨rfl,HBE.out⟩
def leftR (h:HeapD):Int:=h.young+h.old+1 - h.otop - h.ytop+1
theorem zwj (w:World) (vW vO:Value) (h:HeapD) (h1:0<=h.young/\h.young<=1000000) (h2:0<=h.old/\h.old<=1000000) (h3:0<=h.ytop/\h.ytop<=1000000) (h4:0<=h.otop/\h.otop<=1000000):
 Calls Tryz.prog 35 #[.agg #[vW,.int .i64 h.young,.int .i64 h.old,.int .i64 h.ytop,.int .i64 h.otop,vO,.int .i64 h.next]] w fun r w'=>r=.returned (.int .i64 (leftR h))/\Below w.heap.size w w':=by
 have w1:IntKind.i64.wrap (h.young+h.old)=h.young+h.old:=by rw [IntKind.wrap_i64];omega
 have w2:IntKind.i64.wrap (h.young+h.old+1)=h.young+h.old+1:=by rw [IntKind.wrap_i64];omega
 have w3:IntKind.i64.wrap (h.young+h.old+1 - h.otop)=h.young+h.old+1 - h.otop:=by rw [IntKind.wrap_i64];omega
 have w4:IntKind.i64.wrap (h.young+h.old+1 - h.otop - h.ytop)=h.young+h.old+1 - h.otop - h.ytop:=by rw [IntKind.wrap_i64];omega
 have w5:IntKind.i64.wrap (h.young+h.old+1 - h.otop - h.ytop+1)=leftR h:=by unfold leftR;rw [IntKind.wrap_i64];omega
 go_enter Tryz.func35,Tryz.ntmps35
 go_wp2_with fail
 go_ret
 exact ⟨rfl,(Below.refl _ _).alloc (Nat.le_refl _) _⟩
theorem zwk {d:LinkD} {h:HeapD} (h0:heapErr d h=0):leftR h=leftD h:=by
 obtain ⟨ts,rt⟩:=zs6 h0
 have:=rt.sized.len
 unfold leftR leftD
 omega
theorem youngRooms_any (w:World) (B:Nat) (vW vO kC kS kF kN kT:Value) (h:HeapD) (d:LinkD) (g:Hd B w vW vO kC kS kF kN kT h d) (hnb:h.next<=9223372036854775807):
 Calls Tryz.prog 10 #[.agg #[vW,.int .i64 h.young,.int .i64 h.old,.int .i64 h.ytop,.int .i64 h.otop,vO,.int .i64 h.next],.agg #[kC,kS,kF,kN,kT]] w fun r w'=>r=.returned (.bool true)/\Below w.heap.size w w':=by
 have HG:=mk0 g
 obtain ⟨aW,cW,aO,cO,aC,cC,aS,cS,aF,cF,aN,cN,aT,cT,rfl,rfl,rfl,rfl,rfl,rfl,rfl⟩:=g.agg
 clear g
 obtain ⟨W0,hW0,hB0,hs0,k0,k1⟩:=boxes2 w #[.slice aW h.words.length cW,.int .i64 h.young,.int .i64 h.old,.int .i64 h.ytop,.int .i64 h.otop,.slice aO h.noted.length cO,.int .i64 h.next] #[.slice aC d.classes.length cC,.slice aS d.supers.length cS,.slice aF d.fields.length cF,.slice aN d.names.length cN,.slice aT d.targets.length cT] 24 36
 have lk0:=lt0 k0
 have lk1:=lt0 k1
 have HB0:=mk0 hB0
 have HE0:=mk0 hW0
 have HK0:=mk0 (And.intro k0 k1)
 have HGV:Hid (∀V,Below W0.heap.size W0 V->Hd B V (.slice aW h.words.length cW) (.slice aO h.noted.length cO) (.slice aC d.classes.length cC) (.slice aS d.supers.length cS) (.slice aF d.fields.length cF) (.slice aN d.names.length cN) (.slice aT d.targets.length cT) h d):=fun V hV=>HG.out.below ((hB0.trans (hV.mono hB0.size)).mono HG.out.le)
 have HRM:=mk0 (zv5 W0 B _ _ _ _ _ _ _ h d (HGV.out W0 (Below.refl _ _)))
 have HOH:Hid (∀V,Below W0.heap.size W0 V->Calls Tryz.prog 21 #[.agg #[.slice aW h.words.length cW,.int .i64 h.young,.int .i64 h.old,.int .i64 h.ytop,.int .i64 h.otop,.slice aO h.noted.length cO,.int .i64 h.next],.agg #[.slice aC d.classes.length cC,.slice aS d.supers.length cS,.slice aF d.fields.length cF,.slice aN d.names.length cN,.slice aT d.targets.length cT]] V fun r w'=>r=.returned (.int .i64 (heapErr d h))/\Below V.heap.size V w'):=fun V hV=>zro V B _ _ _ _ _ _ _ h d (HGV.out V hV) hnb
 have hE:heapErr d h=0\/heapErr d h≠0:=by omega
 clear hB0 hW0 hs0 hnb k0 k1
 rcases hE with hE | hE
 ·
  have HLO:Hid (∀V,Calls Tryz.prog 35 #[.agg #[.slice aW h.words.length cW,.int .i64 h.young,.int .i64 h.old,.int .i64 h.ytop,.int .i64 h.otop,.slice aO h.noted.length cO,.int .i64 h.next]] V fun r w'=>r=.returned (.int .i64 (leftD h))/\Below V.heap.size V w'):=fun V=>by
   obtain ⟨ts,rt⟩:=zs6 hE
   have z1:=rt.sized.young
   have z2:=rt.sized.old
   have z4:=rt.sized.ytop
   have z5:=rt.sized.otop
   rw [<-zwk hE]
   exact zwj V _ _ h (by omega) (by omega) (by omega) (by omega)
  have HRM0:Hid (Calls Tryz.prog 38 #[.agg #[.slice aW h.words.length cW,.int .i64 h.young,.int .i64 h.old,.int .i64 h.ytop,.int .i64 h.otop,.slice aO h.noted.length cO,.int .i64 h.next],.agg #[.slice aC d.classes.length cC,.slice aS d.supers.length cS,.slice aF d.fields.length cF,.slice aN d.names.length cN,.slice aT d.targets.length cT]] W0 fun r w'=>Below W0.heap.size W0 w'/\r=.returned (.tuple #[.int .i64 (leftD h),.int .i64 0])):=HRM.out.mono fun r w' ⟨hb,q⟩=>by
   rcases q with ⟨-,q⟩ | ⟨q,-⟩
   ·
    exact ⟨hb,q⟩
   exact absurd hE q
  rw [hE]at HOH
  generalize leftD h=lf at*
  clear HRM hE
  rw [HE0.out]at HRM0
  go_enter Tryz.func10,Tryz.ntmps10
  go_wp2_with fail
  refine HRM0.out.mono ?_
  rw [<-HE0.out]
  rintro r w1 ⟨hb1,rfl⟩
  have j0:=(hb1.block _ lk0).trans HK0.out.1
  have j1:=(hb1.block _ lk1).trans HK0.out.2
  obtain ⟨a0,a1,a2,a3,a4,a5,a6,az,al⟩:=cells7 j0
  obtain ⟨b0,b1,b2,b3,b4,bl⟩:=cells5 j1
  clear j0 j1
  have HB1:=mk0 hb1
  have HO1:=mk0 (HOH.out w1 hb1)
  clear hb1 HRM0
  go_wp2_with fail
  refine HO1.out.mono ?_
  rintro r w2 ⟨rfl,hb2⟩
  have hb02:Below W0.heap.size W0 w2:=HB1.out.trans (hb2.mono HB1.out.size)
  clear a0 a1 a2 a3 a4 a5 a6 az al b0 b1 b2 b3 b4 bl
  have j0:=(hb02.block _ lk0).trans HK0.out.1
  have j1:=(hb02.block _ lk1).trans HK0.out.2
  obtain ⟨a0,a1,a2,a3,a4,a5,a6,az,al⟩:=cells7 j0
  obtain ⟨b0,b1,b2,b3,b4,bl⟩:=cells5 j1
  clear j0 j1
  have HB2:=mk0 hb02
  clear hb2 hb02 HO1
  go_wp2_with fail
  refine (HLO.out w2).mono ?_
  rintro r w3 ⟨rfl,hb3⟩
  have HB3:Hid (Below W0.heap.size W0 w3):=HB2.out.trans (hb3.mono HB2.out.size)
  clear a0 a1 a2 a3 a4 a5 a6 az al b0 b1 b2 b3 b4 bl
  clear hb3
  go_wp2_with fail
  refine (zwi w3).mono ?_
  rintro r w4 ⟨rfl,hb4⟩
  have HB4:Hid (Below w.heap.size w w4):=HB0.out.trans ((HB3.out.trans (hb4.mono HB3.out.size)).mono HB0.out.size)
  clear hb4
  go_wp2_with fail
  go_ret
  exact ⟨by simp,HB4.out⟩
 have HRM0:Hid (Calls Tryz.prog 38 #[.agg #[.slice aW h.words.length cW,.int .i64 h.young,.int .i64 h.old,.int .i64 h.ytop,.int .i64 h.otop,.slice aO h.noted.length cO,.int .i64 h.next],.agg #[.slice aC d.classes.length cC,.slice aS d.supers.length cS,.slice aF d.fields.length cF,.slice aN d.names.length cN,.slice aT d.targets.length cT]] W0 fun r w'=>Below W0.heap.size W0 w'/\r=.returned (.tuple #[.int .i64 0,.int .i64 (heapErr d h)])):=HRM.out.mono fun r w' ⟨hb,q⟩=>by
  rcases q with ⟨q,-⟩ | ⟨-,q⟩
  ·
   exact absurd q hE
  exact ⟨hb,q⟩
 have hne:(heapErr d h==0)=false:=by simpa using hE
 generalize heapErr d h=er at*
 clear HRM hE
 rw [HE0.out]at HRM0
 go_enter Tryz.func10,Tryz.ntmps10
 go_wp2_with fail
 refine HRM0.out.mono ?_
 rw [<-HE0.out]
 rintro r w1 ⟨hb1,rfl⟩
 have j0:=(hb1.block _ lk0).trans HK0.out.1
 have j1:=(hb1.block _ lk1).trans HK0.out.2
 obtain ⟨a0,a1,a2,a3,a4,a5,a6,az,al⟩:=cells7 j0
 obtain ⟨b0,b1,b2,b3,b4,bl⟩:=cells5 j1
 clear j0 j1
 have HB1:=mk0 hb1
 have HO1:=mk0 (HOH.out w1 hb1)
 clear hb1 HRM0
 go_wp2_with fail
 refine HO1.out.mono ?_
 rintro r w2 ⟨rfl,hb2⟩
 have HB2:Hid (Below W0.heap.size W0 w2):=HB1.out.trans (hb2.mono HB1.out.size)
 clear a0 a1 a2 a3 a4 a5 a6 az al b0 b1 b2 b3 b4 bl
 clear hb2 HO1
 go_wp2_with fail
 refine (zwi w2).mono ?_
 rintro r w4 ⟨rfl,hb4⟩
 have HB4:Hid (Below w.heap.size w w4):=HB0.out.trans ((HB2.out.trans (hb4.mono HB2.out.size)).mono HB0.out.size)
 clear hb4
 go_wp2_with fail
 go_ret
 exact ⟨by simp,HB4.out⟩
end Go.Proofs.YtjdnmblggdobgaaGreat
