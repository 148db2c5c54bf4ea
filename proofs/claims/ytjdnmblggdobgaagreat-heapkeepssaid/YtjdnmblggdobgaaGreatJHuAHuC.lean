import Derived.Test.YtjdnmblggdobgaaGreatHtN
import Derived.Test.YtjdnmblggdobgaaGreatJLLkLBas
set_option maxHeartbeats 4000000
set_option maxRecDepth 100000
namespace Go.Proofs.YtjdnmblggdobgaaGreat
open Go.RowKit Go.Maps
def begD0:HeapD:=newD 20 20
def begD1:HeapD:=makeD begD0 1 2 false
def begD2:HeapD:=setH (linkD baseD) begD1 1 1 7
theorem zm6:makeRes (linkD baseD) begD0 1 2 false=0:=by kernel_rfl
theorem zm8:setErr (linkD baseD) begD1 1 1 7=0:=by kernel_rfl
theorem zm9:plAt (tsOf (linkD baseD) begD1) 1=some ⟨1,1,2,1⟩:=by kernel_rfl
theorem zna:noteB (linkD baseD) begD1 ⟨1,1,2,1⟩ 1 7=false:=by kernel_rfl
theorem znb:getErr (linkD baseD) begD2 1 1=0:=by kernel_rfl
theorem znc:getVal (linkD baseD) begD2 1 1=7:=by kernel_rfl
def wfL (l:List Int):Bool:=l.all fun x=>(Lit.int .i64 x).wf
theorem znd {l:List Int} (h:wfL l=true):∀x∈l,(Lit.int .i64 x).wf=true:=by
 unfold wfL at h
 rw [List.all_eq_true]at h
 exact h
theorem zne:wfL begD0.words=true:=by kernel_rfl
theorem znf:wfL begD1.words=true:=by kernel_rfl
theorem zng:wfL begD2.words=true:=by kernel_rfl
theorem znh:begD0.noted= []/\begD1.noted= []/\begD2.noted= []:=⟨by kernel_rfl,by kernel_rfl,by kernel_rfl⟩
theorem zni:begD0.words.length=41/\begD1.words.length=41/\begD2.words.length=41:=⟨by kernel_rfl,by kernel_rfl,by kernel_rfl⟩
theorem znj (Q:Nat):∀(cs:List Value) (w:World) (o:Nat),(∀j,w.frozen? ⟨Q,j,none⟩=false)->∀j,(setL w Q o cs).frozen? ⟨Q,j,none⟩=false
 | [],_,_,h=>h
 | c::cs,w,o,h=>znj Q cs (w.setCell ⟨Q,o,none⟩ c) (o+1) (fun j=>by rw [World.frozen?_setCell];exact h j)
theorem Hd.of_own {b B:Nat} {w:World} {nW nO kC kS kF kN kT:Value} {h:HeapD} {d:LinkD} (o:OwnV b w nW nO h) (lk:RLk (· <B) w kC kS kF kN kT d) (hB:B<=w.heap.size) (h1:h.words.length<=1000000) (h2:h.noted.length<=1000000) (hw:∀x∈h.words,(Lit.int .i64 x).wf=true) (hn:∀x∈h.noted,(Lit.int .i64 x).wf=true):Hd w.heap.size w nW nO kC kS kF kN kT h d:=
 ⟨(zfb o.rW h1).monoI fun _ hk=>hk.lt,(zfb o.rO h2).monoI fun _ hk=>hk.lt,lk.mono fun _ hk=>Nat.lt_of_lt_of_le hk hB,Nat.le_refl _,hw,hn⟩
theorem znk (w:World):Calls Tryz.prog 17 #[.int .i64 20,.int .i64 20] w fun r w'=>Below w.heap.size w w'/\∃n4 c4,r=.returned (.tuple #[.agg #[.slice n4 41 c4,.int .i64 20,.int .i64 20,.int .i64 1,.int .i64 21,.slice none 0 0,.int .i64 1],.int .i64 0])/\OwnV w.heap.size w' (.slice n4 41 c4) (.slice none 0 0) begD0:=by
 refine (zli w 20 20).mono ?_
 rintro r w' ⟨hb,⟨-,-,v,rfl,hrow⟩ | ⟨hc,rfl⟩⟩
 ·obtain ⟨n,c,rfl⟩:=zmr hrow
  exact ⟨hb,n,c,by kernel_rfl,⟨hrow,World.ownsRow_nil _ _ _ _,fun k _ e=>by cases e⟩⟩
 exact absurd hc (by decide)
theorem znl (w:World) (B:Nat) (vW vO kC kS kF kN kT:Value) (d:LinkD) (hd:d=linkD baseD) (g:Hd B w vW vO kC kS kF kN kT begD0 d):
 Calls Tryz.prog 22 #[.agg #[vW,.int .i64 20,.int .i64 20,.int .i64 1,.int .i64 21,vO,.int .i64 1],.agg #[kC,kS,kF,kN,kT],.int .i64 1,.int .i64 2,.bool false] w fun r w'=>Below w.heap.size w w'/\∃nW dW nO dO,r=.returned (.tuple #[.agg #[.slice nW 41 dW,.int .i64 20,.int .i64 20,.int .i64 6,.int .i64 21,.slice nO 0 dO,.int .i64 2],.int .i64 1,.int .i64 0])/\OwnV w.heap.size w' (.slice nW 41 dW) (.slice nO 0 dO) begD1:=by
 subst hd
 refine (zme w B _ _ _ _ _ _ _ begD0 (linkD baseD) g 1 2 false).mono ?_
 rintro r w' ⟨hb,⟨-,nW,dW,nO,dO,rfl,hov⟩ | ⟨hc,rfl⟩⟩
 ·exact ⟨hb,nW,dW,nO,dO,by kernel_rfl,hov⟩
 exact absurd zm6 hc
theorem znm (w:World) (B:Nat) (vW vO kC kS kF kN kT:Value) (d:LinkD) (hd:d=linkD baseD) (g:Hd B w vW vO kC kS kF kN kT begD1 d):
 Calls Tryz.prog 30 #[.agg #[vW,.int .i64 20,.int .i64 20,.int .i64 6,.int .i64 21,vO,.int .i64 2],.agg #[kC,kS,kF,kN,kT],.int .i64 1,.int .i64 1,.int .i64 7] w fun r w'=>Below w.heap.size w w'/\∃nW dW nO dO,r=.returned (.tuple #[.agg #[.slice nW 41 dW,.int .i64 20,.int .i64 20,.int .i64 6,.int .i64 21,.slice nO 0 dO,.int .i64 2],.int .i64 0])/\OwnV w.heap.size w' (.slice nW 41 dW) (.slice nO 0 dO) begD2:=by
 subst hd
 refine (zm2 w B _ _ _ _ _ _ _ begD1 (linkD baseD) g 1 1 7 ⟨by decide,by decide⟩ ?_).mono ?_
 ·intro _ t k hp hk hkl hn
  rw [zm9]at hp
  have e:k=1:=by omega
  subst e
  rw [<-Option.some.inj hp,zna]at hn
  cases hn
 rintro r w' ⟨hb,⟨-,nW,dW,nO,dO,rfl,hov⟩ | ⟨hc,rfl⟩⟩
 ·exact ⟨hb,nW,dW,nO,dO,by kernel_rfl,hov⟩
 exact absurd zm8 hc
theorem znn (w:World) (B:Nat) (vW vO kC kS kF kN kT:Value) (d:LinkD) (hd:d=linkD baseD) (g:Hd B w vW vO kC kS kF kN kT begD2 d):
 Calls Tryz.prog 26 #[.agg #[vW,.int .i64 20,.int .i64 20,.int .i64 6,.int .i64 21,vO,.int .i64 2],.agg #[kC,kS,kF,kN,kT],.int .i64 1,.int .i64 1] w fun r w'=>Below w.heap.size w w'/\r=.returned (.tuple #[.int .i64 7,.int .i64 0]):=by
 subst hd
 refine (zmn w B _ _ _ _ _ _ _ begD2 (linkD baseD) g 1 1 (by decide)).mono ?_
 rintro r w' ⟨hb,rfl⟩
 exact ⟨hb,by rw [znb,znc]⟩
theorem zno (w:World):Calls Tryz.prog 18 #[] w fun r w'=>r=.returned (.bool true)/\Below w.heap.size w w':=by
 go_enter Tryz.func18,Tryz.ntmps18
 go_wp2_with fail
 refine (zm5 w).mono ?_
 rintro r w1 ⟨hb1,v,rfl,hv⟩
 have HL:=mk0 (zkb w1 w1.heap.size baseD v hv (Nat.le_refl _))
 obtain ⟨ao,cl,rfl,-⟩:=hv
 have HB1:=mk0 hb1
 clear hb1
 go_wp2_with fail
 refine HL.out.mono ?_
 rintro r w2 ⟨hb2,⟨-,kC,kS,kF,kN,kT,rfl,hlk⟩ | ⟨h0,rfl⟩⟩
 rotate_left
 ·exact absurd zm3 h0
 obtain ⟨LD,hLD⟩:∃LD,LD=linkD baseD:=⟨_,rfl⟩
 rw [<-hLD]at hlk
 have hl2:=hlk.mono (M':=(· <w2.heap.size)) (fun _ hk=>hk.2)
 obtain ⟨aC,cC,aS,cS,aF,cF,aN,cN,aT,cT,rfl,rfl,rfl,rfl,rfl⟩:=hlk.agg
 have HD:=mk0 hLD
 have HB2:Hid (Below w.heap.size w w2):=HB1.out.trans (hb2.mono HB1.out.size)
 obtain ⟨W3,hW3⟩:∃W3,W3=w2.alloc (.cells #[.slice aC LD.classes.length cC,.slice aS LD.supers.length cS,.slice aF LD.fields.length cF,.slice aN LD.names.length cN,.slice aT LD.targets.length cT] 36):=⟨_,rfl⟩
 have hA3:Below w2.heap.size w2 W3:=hW3 ▸ (Below.refl _ _).alloc (Nat.le_refl _) _
 have k3:W3.heap[w2.heap.size]? =some (.cells #[.slice aC LD.classes.length cC,.slice aS LD.supers.length cS,.slice aF LD.fields.length cF,.slice aN LD.names.length cN,.slice aT LD.targets.length cT] 36 (0,0)):=hW3 ▸ heap_alloc_new w2 _
 have HL3:=mk0 (hl2.kept (Kp.below hA3))
 have HK3:=mk0 k3
 have HB3:Hid (Below w.heap.size w W3):=HB2.out.trans (hA3.mono HB2.out.size)
 have HW3:=mk0 hW3
 clear HL hb2 hlk hl2 hLD hA3 k3 hW3 HB1
 go_wp2_with fail
 rw [<-HW3.out]
 refine (znk W3).mono ?_
 rintro r w4 ⟨hb4,n4,c4,rfl,hov4⟩
 have hs4:=hb4.size
 obtain ⟨W5,hW5⟩:∃W5,W5=w4.alloc (.cells #[.slice n4 41 c4,.int .i64 20,.int .i64 20,.int .i64 1,.int .i64 21,.slice none 0 0,.int .i64 1] 24):=⟨_,rfl⟩
 have hA5:Below w4.heap.size w4 W5:=hW5 ▸ (Below.refl _ _).alloc (Nat.le_refl _) _
 have k5:W5.heap[w4.heap.size]? =some (.cells #[.slice n4 41 c4,.int .i64 20,.int .i64 20,.int .i64 1,.int .i64 21,.slice none 0 0,.int .i64 1] 24 (0,0)):=hW5 ▸ heap_alloc_new w4 _
 have hs5:W5.heap.size=w4.heap.size+1:=by rw [hW5];simp
 have hb35:Below W3.heap.size W3 W5:=hb4.trans (hA5.mono hs4)
 have lk3:=lt0 HK3.out
 have k5':=(hb35.block _ lk3).trans HK3.out
 have g5:Hd W5.heap.size W5 (.slice n4 41 c4) (.slice none 0 0) (.slice aC LD.classes.length cC) (.slice aS LD.supers.length cS) (.slice aF LD.fields.length cF) (.slice aN LD.names.length cN) (.slice aT LD.targets.length cT) begD0 LD:=Hd.of_own (hov4.below hA5) (HL3.out.kept (Kp.below (hb35.mono (by omega)))) (by omega) (by rw [zni.1];omega) (by rw [znh.1];simp) (znd zne) (by rw [znh.1];simp)
 have HMK:=mk0 (znl W5 _ _ _ _ _ _ _ _ LD HD.out g5)
 have l4:w2.heap.size<w4.heap.size:=by omega
 have e0:=(hb4.cell (p:=⟨w2.heap.size,0,none⟩) lk3).trans (cl0 HK3.out 0 (x:=.slice aC LD.classes.length cC) rfl)
 have e1:=(hb4.cell (p:=⟨w2.heap.size,1,none⟩) lk3).trans (cl0 HK3.out 1 (x:=.slice aS LD.supers.length cS) rfl)
 have e2:=(hb4.cell (p:=⟨w2.heap.size,2,none⟩) lk3).trans (cl0 HK3.out 2 (x:=.slice aF LD.fields.length cF) rfl)
 have e3:=(hb4.cell (p:=⟨w2.heap.size,3,none⟩) lk3).trans (cl0 HK3.out 3 (x:=.slice aN LD.names.length cN) rfl)
 have e4:=(hb4.cell (p:=⟨w2.heap.size,4,none⟩) lk3).trans (cl0 HK3.out 4 (x:=.slice aT LD.targets.length cT) rfl)
 have HK5:=mk0 k5
 have HB5:Hid (Below w.heap.size w W5):=HB3.out.trans (hb35.mono HB3.out.size)
 have HB35:=mk0 hb35
 have HL5:=mk0 (HL3.out.kept (Kp.below (hb35.mono (by omega))))
 have HK5':=mk0 k5'
 have HW5:=mk0 hW5
 clear hb4 hov4 hA5 k5 hb35 k5' g5 hW5
 go_wp2_with fail
 rw [<-HW5.out]
 refine HMK.out.mono ?_
 rintro r w6 ⟨hb6,nW,dW,nO,dO,rfl,hov6⟩
 have hs6:=hb6.size
 have k6:=(hb6.block _ (lt0 HK5.out)).trans HK5.out
 have k6':=(hb6.block _ (lt0 HK5'.out)).trans HK5'.out
 have hB6:Below w.heap.size w w6:=HB5.out.trans (hb6.mono HB5.out.size)
 have hwz:=HB3.out.size
 have hwz2:=HB2.out.size
 obtain ⟨W9,h9,hgS,hq,hr,rz,rl⟩:=setN (zs:=[.slice n4 41 c4,.int .i64 20,.int .i64 20,.int .i64 1,.int .i64 21,.slice none 0 0,.int .i64 1]) k6 [.slice nW 41 dW,.int .i64 20,.int .i64 20,.int .i64 6,.int .i64 21,.slice nO 0 dO,.int .i64 2] rfl
 have r0:=hr 0 _ rfl
 have r1:=hr 1 _ rfl
 have r2:=hr 2 _ rfl
 have r3:=hr 3 _ rfl
 have r4:=hr 4 _ rfl
 have r5:=hr 5 _ rfl
 have r6:=hr 6 _ rfl
 have q0:=hq 0 _ rfl
 have q1:=hq 1 _ rfl
 have q2:=hq 2 _ rfl
 have q3:=hq 3 _ rfl
 have q4:=hq 4 _ rfl
 have q5:=hq 5 _ rfl
 have q6:=hq 6 _ rfl
 have hw9:=hgS.size
 have HB9:=mk0 (bg0 (hB6) hgS (by omega))
 have HG9:=mk0 hgS
 simp only [setL,Nat.reduceAdd]at h9
 have H9:=mk0 h9
 clear hgS hq hr h9
 have ho9:OwnV W5.heap.size W9 (.slice nW 41 dW) (.slice nO 0 dO) begD1:=hov6.grown HG9.out (fun e=>by have:=(hov6.rW.lt _ e).1;omega) (fun e=>by have:=(hov6.rO.lt _ e).1;omega)
 have hl9:=(HL5.out.kept (Kp.below (hb6.mono (by omega)))).kept (M:=(· <w2.heap.size)) ⟨HG9.out.size,fun k hk hl=>HG9.out.block k hl (by have:=hk;intro e;injection e;omega)⟩
 have k9:=(HG9.out.block w2.heap.size (by omega) (by intro e;injection e;omega)).trans k6'
 have g9:Hd W9.heap.size W9 (.slice nW 41 dW) (.slice nO 0 dO) (.slice aC LD.classes.length cC) (.slice aS LD.supers.length cS) (.slice aF LD.fields.length cF) (.slice aN LD.names.length cN) (.slice aT LD.targets.length cT) begD1 LD:=Hd.of_own ho9 hl9 (by omega) (by rw [zni.2.1];omega) (by rw [znh.2.1];simp) (znd znf) (by rw [znh.2.1];simp)
 have HST:=mk0 (znm W9 _ _ _ _ _ _ _ _ LD HD.out g9)
 have o0:=cl0 k9 0 (x:=.slice aC LD.classes.length cC) rfl
 have o1:=cl0 k9 1 (x:=.slice aS LD.supers.length cS) rfl
 have o2:=cl0 k9 2 (x:=.slice aF LD.fields.length cF) rfl
 have o3:=cl0 k9 3 (x:=.slice aN LD.names.length cN) rfl
 have o4:=cl0 k9 4 (x:=.slice aT LD.targets.length cT) rfl
 have rz9:∀j,W9.frozen? ⟨w4.heap.size,j,none⟩=false:=by rw [<-H9.out];exact znj _ [.slice nW 41 dW,.int .i64 20,.int .i64 20,.int .i64 6,.int .i64 21,.slice nO 0 dO,.int .i64 2] w6 0 rz
 have HK9':=mk0 k9
 have HL9:=mk0 hl9
 have hwz3:=HB9.out.size
 have h9v:=H9.out
 clear hb6 hov6 k6 k6' hB6 ho9 hl9 k9 g9 HMK e0 e1 e2 e3 e4
 go_wp2_with fail
 refine HST.out.mono ?_
 rintro r w10 ⟨hb10,nV,dV,nP,dP,rfl,hov10⟩
 have hs10:=hb10.size
 have lR:w4.heap.size<W9.heap.size:=by omega
 have hB10:Below w.heap.size w w10:=HB9.out.trans (hb10.mono HB9.out.size)
 have rb0:=(hb10.cell (p:=⟨w4.heap.size,0,none⟩) lR).trans q0
 have rb1:=(hb10.cell (p:=⟨w4.heap.size,1,none⟩) lR).trans q1
 have rb2:=(hb10.cell (p:=⟨w4.heap.size,2,none⟩) lR).trans q2
 have rb3:=(hb10.cell (p:=⟨w4.heap.size,3,none⟩) lR).trans q3
 have rb4:=(hb10.cell (p:=⟨w4.heap.size,4,none⟩) lR).trans q4
 have rb5:=(hb10.cell (p:=⟨w4.heap.size,5,none⟩) lR).trans q5
 have rb6:=(hb10.cell (p:=⟨w4.heap.size,6,none⟩) lR).trans q6
 have rzb:∀j,w10.frozen? ⟨w4.heap.size,j,none⟩=false:=fun j=>(World.frozen?_of_block (a:=⟨w4.heap.size,j,none⟩) (hb10.block (w4.heap.size) lR)).trans (rz9 j)
 have rlb:w4.heap.size<w10.heap.size:=Nat.lt_of_lt_of_le lR hb10.size
 obtain ⟨hgSb,hcSb,-⟩:=zlf (w4.heap.size) [.slice nV 41 dV,.int .i64 20,.int .i64 20,.int .i64 6,.int .i64 21,.slice nP 0 dP,.int .i64 2] w10 0 (fun j hj=>by
  rw [Nat.zero_add]
  match j,hj with
  | 0,_=>exact ⟨_,rb0⟩
  | 1,_=>exact ⟨_,rb1⟩
  | 2,_=>exact ⟨_,rb2⟩
  | 3,_=>exact ⟨_,rb3⟩
  | 4,_=>exact ⟨_,rb4⟩
  | 5,_=>exact ⟨_,rb5⟩
  | 6,_=>exact ⟨_,rb6⟩
  )
 obtain ⟨W9b,h9b⟩:∃W9,setL w10 (w4.heap.size) 0 [.slice nV 41 dV,.int .i64 20,.int .i64 20,.int .i64 6,.int .i64 21,.slice nP 0 dP,.int .i64 2]=W9:=⟨_,rfl⟩
 rw [h9b]at hgSb hcSb
 have hw9b:=hgSb.size
 have qb0:W9b.cell? ⟨w4.heap.size,0,none⟩=some (.slice nV 41 dV):=(hcSb 0 (by simp)).trans rfl
 have qb1:W9b.cell? ⟨w4.heap.size,1,none⟩=some (.int .i64 20):=(hcSb 1 (by simp)).trans rfl
 have qb2:W9b.cell? ⟨w4.heap.size,2,none⟩=some (.int .i64 20):=(hcSb 2 (by simp)).trans rfl
 have qb3:W9b.cell? ⟨w4.heap.size,3,none⟩=some (.int .i64 6):=(hcSb 3 (by simp)).trans rfl
 have qb4:W9b.cell? ⟨w4.heap.size,4,none⟩=some (.int .i64 21):=(hcSb 4 (by simp)).trans rfl
 have qb5:W9b.cell? ⟨w4.heap.size,5,none⟩=some (.slice nP 0 dP):=(hcSb 5 (by simp)).trans rfl
 have qb6:W9b.cell? ⟨w4.heap.size,6,none⟩=some (.int .i64 2):=(hcSb 6 (by simp)).trans rfl
 have HB9b:=mk0 (bg0 (hB10) hgSb (by omega))
 have HG9b:=mk0 hgSb
 have H9b:Hid ((((((((w10.setCell ⟨w4.heap.size,0,none⟩ (.slice nV 41 dV)).setCell ⟨w4.heap.size,1,none⟩ (.int .i64 20)).setCell ⟨w4.heap.size,2,none⟩ (.int .i64 20)).setCell ⟨w4.heap.size,3,none⟩ (.int .i64 6)).setCell ⟨w4.heap.size,4,none⟩ (.int .i64 21)).setCell ⟨w4.heap.size,5,none⟩ (.slice nP 0 dP)).setCell ⟨w4.heap.size,6,none⟩ (.int .i64 2))=W9b):=h9b
 clear hgSb hcSb h9b
 have l2:w2.heap.size<W9.heap.size:=by omega
 have ho9:OwnV W9.heap.size W9b (.slice nV 41 dV) (.slice nP 0 dP) begD2:=hov10.grown HG9b.out (fun e=>by have:=(hov10.rW.lt _ e).1;omega) (fun e=>by have:=(hov10.rO.lt _ e).1;omega)
 have hl9:=(HL9.out.kept (Kp.below (hb10.mono (by omega)))).kept (M:=(· <w2.heap.size)) ⟨HG9b.out.size,fun k hk hl=>HG9b.out.block k hl (by have:=hk;intro e;injection e;omega)⟩
 have k9:=(HG9b.out.block w2.heap.size (by omega) (by intro e;injection e;omega)).trans ((hb10.block _ l2).trans HK9'.out)
 have hszb:=HG9b.out.size
 have g9:Hd W9b.heap.size W9b (.slice nV 41 dV) (.slice nP 0 dP) (.slice aC LD.classes.length cC) (.slice aS LD.supers.length cS) (.slice aF LD.fields.length cF) (.slice aN LD.names.length cN) (.slice aT LD.targets.length cT) begD2 LD:=Hd.of_own ho9 hl9 (by omega) (by rw [zni.2.2];omega) (by rw [znh.2.2];simp) (znd zng) (by rw [znh.2.2];simp)
 have HGT:=mk0 (znn W9b _ _ _ _ _ _ _ _ LD HD.out g9)
 have s0:=cl0 k9 0 (x:=.slice aC LD.classes.length cC) rfl
 have s1:=cl0 k9 1 (x:=.slice aS LD.supers.length cS) rfl
 have s2:=cl0 k9 2 (x:=.slice aF LD.fields.length cF) rfl
 have s3:=cl0 k9 3 (x:=.slice aN LD.names.length cN) rfl
 have s4:=cl0 k9 4 (x:=.slice aT LD.targets.length cT) rfl
 have h9w:=H9b.out
 have lRb:w4.heap.size<W9b.heap.size:=by omega
 have lLb:w2.heap.size<W9b.heap.size:=by omega
 clear h9v hb10 hov10 hB10 ho9 hl9 k9 g9 HST o0 o1 o2 o3 o4 q0 q1 q2 q3 q4 q5 q6 rz9 r0 r1 r2 r3 r4 r5 r6 rz rl
 go_wp2_with fail
 refine HGT.out.mono ?_
 rintro r w11 ⟨hb11,rfl⟩
 have t0:=(hb11.cell (p:=⟨w4.heap.size,0,none⟩) lRb).trans qb0
 have l11:w4.heap.size<w11.heap.size:=by have:=hb11.size;omega
 have HBE:Hid (Below w.heap.size w w11):=HB9b.out.trans (hb11.mono HB9b.out.size)
 clear hb11 h9w
 go_wp2_with fail
 go_ret
 exact ⟨rfl,HBE.out⟩
theorem zrg (w:World) (M M':Nat->Prop) (u v:Value) (l m:List Int) (hu:SL 1 RI M w u l) (hv:SL 1 RI M' w v m):
 Calls Tryz.prog 29 #[u,v] w fun r w'=>r=.returned (.bool (eqL sameI l m))/\∃n,w'=w.drewN n:=by
 have HU:=mk0 hu
 have HV:=mk0 hv
 obtain ⟨au,cu,rfl,_,hl,-⟩:=hu
 obtain ⟨av,cv,rfl,_,hm,-⟩:=hv
 unfold maxLen at hl hm
 by_cases hlen:l.length=m.length
 rotate_left
 ·have h0:¬(l.length:Int)=m.length:=by omega
  have HR:=mk0 (zd9 sameI l m hlen)
  clear hlen
  go_enter Tryz.func29,Tryz.ntmps29
  go_wp2
  go_ret
  exact ⟨by rw [HR.out];rfl,0,rfl⟩
 rw [<-hlen]at HV ⊢
 have HLEN:=mk0 hlen
 clear hm hlen
 go_enter Tryz.func29,Tryz.ntmps29
 go_wp2
 go_loopw [5] (fun i wr=>∃k:Nat,k<=l.length/\i=.int .i64 k/\Hid (eqL sameI l m=eqL sameI (l.drop k) (m.drop k))/\∃n,wr=w.drewN n) (fun i _=>l.length - (intOf i).toNat)
 case atStart=>exact ⟨0,Nat.zero_le _,rfl,rfl,0,rfl⟩
 case round=>
  obtain ⟨k,hk,rfl,HQ,n,rfl⟩:=hrel
  by_cases hlt:k<l.length
  ·have hlm:k<m.length:=by have:=HLEN.out;omega
   obtain ⟨b,off,rfl,_,c0⟩:=HU.out.atI k hlt
   obtain ⟨b2,off2,rfl,_,d0⟩:=HV.out.atI k hlm
   have HST:=mk0 (zea sameI l m k hlt hlm)
   generalize l[k]=x at*
   generalize m[k]=y at*
   cases hs:sameI x y with
   | true=>
     have hs':x=y:=by simpa [sameI]using hs
     have HQ':Hid (eqL sameI l m=eqL sameI (l.drop (k+1)) (m.drop (k+1))):=HQ.out.trans (by rw [HST.out,hs,Bool.true_and])
     go_wp2
     go_quiet (fail)
     go_wp2
     go_roundw
     case rel=>exact ⟨k+1,by omega,by go_num,HQ'.out,_,rfl⟩
     case measure=>simp [intOf];omega
   | false=>
     have hs':¬x=y:=by simpa [sameI]using hs
     have HQ':Hid (eqL sameI l m=false):=HQ.out.trans (by rw [HST.out,hs,Bool.false_and])
     go_wp2
     go_quiet (fail)
     go_wp2
     go_ret
     exact ⟨by rw [HQ'.out];rfl,_,World.drewN_drewN _ _ _⟩
  have HQ':Hid (eqL sameI l m=true):=HQ.out.trans (zeb sameI l m k hlt HLEN.out)
  go_wp2
  go_ret
  exact ⟨by rw [HQ'.out];rfl,n,rfl⟩
theorem zrh {B:Nat} {w w':World} (h:Below B w w') (n:Nat):Below B w (w'.drewN n):=⟨h.os,h.tape,h.output,h.size,h.block⟩
theorem nilI (M:Nat->Prop) (w:World):SL 1 RI M w (.slice none 0 0) []:=⟨none,0,rfl,Nat.le_refl _,by unfold maxLen;simp,fun k hk=>by cases hk⟩
theorem zri (l:List Int):eqL sameI l l=true:=by
 induction l with
 | nil=>rfl
 | cons x l ih=>simp [eqL,sameI,ih]
theorem zrj (w:World) (h:HeapD) (aX aP aY aQ:Option Addr) (cX cP cY cQ:Nat) (s1:SL 1 RI (· <w.heap.size) w (.slice aX h.words.length cX) h.words) (s2:SL 1 RI (· <w.heap.size) w (.slice aP h.noted.length cP) h.noted) (s3:SL 1 RI (· <w.heap.size) w (.slice aY h.words.length cY) h.words) (s4:SL 1 RI (· <w.heap.size) w (.slice aQ h.noted.length cQ) h.noted):
 Calls Tryz.prog 45 #[.agg #[.slice aX h.words.length cX,.int .i64 h.young,.int .i64 h.old,.int .i64 h.ytop,.int .i64 h.otop,.slice aP h.noted.length cP,.int .i64 h.next],.agg #[.slice aY h.words.length cY,.int .i64 h.young,.int .i64 h.old,.int .i64 h.ytop,.int .i64 h.otop,.slice aQ h.noted.length cQ,.int .i64 h.next]] w fun r w'=>r=.returned (.bool true)/\Below w.heap.size w w':=by
 obtain ⟨W0,hW0,hB0,hs0,k0,k1⟩:=boxes2 w #[.slice aX h.words.length cX,.int .i64 h.young,.int .i64 h.old,.int .i64 h.ytop,.int .i64 h.otop,.slice aP h.noted.length cP,.int .i64 h.next] #[.slice aY h.words.length cY,.int .i64 h.young,.int .i64 h.old,.int .i64 h.ytop,.int .i64 h.otop,.slice aQ h.noted.length cQ,.int .i64 h.next] 24 24
 have x0:=cl0 k0 0 (x:=.slice aX h.words.length cX) rfl
 have x1:=cl0 k0 1 (x:=.int .i64 h.young) rfl
 have x2:=cl0 k0 2 (x:=.int .i64 h.old) rfl
 have x3:=cl0 k0 3 (x:=.int .i64 h.ytop) rfl
 have x4:=cl0 k0 4 (x:=.int .i64 h.otop) rfl
 have x5:=cl0 k0 5 (x:=.slice aP h.noted.length cP) rfl
 have x6:=cl0 k0 6 (x:=.int .i64 h.next) rfl
 have y0:=cl0 k1 0 (x:=.slice aY h.words.length cY) rfl
 have y1:=cl0 k1 1 (x:=.int .i64 h.young) rfl
 have y2:=cl0 k1 2 (x:=.int .i64 h.old) rfl
 have y3:=cl0 k1 3 (x:=.int .i64 h.ytop) rfl
 have y4:=cl0 k1 4 (x:=.int .i64 h.otop) rfl
 have y5:=cl0 k1 5 (x:=.slice aQ h.noted.length cQ) rfl
 have y6:=cl0 k1 6 (x:=.int .i64 h.next) rfl
 have lk0:=lt0 k0
 have lk1:=lt0 k1
 have HS1:Hid (∀n,Calls Tryz.prog 29 #[.slice aX h.words.length cX,.slice aY h.words.length cY] (W0.drewN n) fun r w'=>r=.returned (.bool true)/\∃n,w'=W0.drewN n):=fun n=>by
  have hb:Below w.heap.size w (W0.drewN n):=zrh hB0 n
  refine (zrg _ _ _ _ _ _ _ (s1.keptI (Kp.below hb)) (s3.keptI (Kp.below hb))).mono ?_
  rintro r w' ⟨rfl,m,rfl⟩
  exact ⟨by rw [zri],_,World.drewN_drewN _ _ _⟩
 have HS2:Hid (∀n,Calls Tryz.prog 29 #[.slice aP h.noted.length cP,.slice aQ h.noted.length cQ] (W0.drewN n) fun r w'=>r=.returned (.bool true)/\∃n,w'=W0.drewN n):=fun n=>by
  have hb:Below w.heap.size w (W0.drewN n):=zrh hB0 n
  refine (zrg _ _ _ _ _ _ _ (s2.keptI (Kp.below hb)) (s4.keptI (Kp.below hb))).mono ?_
  rintro r w' ⟨rfl,m,rfl⟩
  exact ⟨by rw [zri],_,World.drewN_drewN _ _ _⟩
 have HE0:=mk0 hW0
 have HB0:Hid (∀n,Below w.heap.size w (W0.drewN n)):=fun n=>zrh hB0 n
 clear s1 s2 s3 s4 hW0 hB0 hs0 k0 k1
 go_enter Tryz.func45,Tryz.ntmps45
 go_wp2_with fail
 rw [<-HE0.out]
 refine (HS1.out 0).mono ?_
 rintro r _ ⟨rfl,n,rfl⟩
 go_wp2_with fail
 refine (HS2.out _).mono ?_
 rintro r _ ⟨rfl,m,rfl⟩
 go_wp2_with fail
 go_ret
 exact ⟨rfl,HB0.out _⟩
theorem zrk (w:World) (h:HeapD) (aX aP aY aQ:Option Addr) (cX cP cY cQ:Nat) (s1:SL 1 RI (· <w.heap.size) w (.slice aX h.words.length cX) h.words) (s2:SL 1 RI (· <w.heap.size) w (.slice aP h.noted.length cP) h.noted) (s3:SL 1 RI (· <w.heap.size) w (.slice aY h.words.length cY) h.words) (s4:SL 1 RI (· <w.heap.size) w (.slice aQ h.noted.length cQ) h.noted):
 Calls Tryz.prog 19 #[.agg #[.slice aX h.words.length cX,.int .i64 h.young,.int .i64 h.old,.int .i64 h.ytop,.int .i64 h.otop,.slice aP h.noted.length cP,.int .i64 h.next],.int .i64 0,.int .i64 0,.agg #[.slice aY h.words.length cY,.int .i64 h.young,.int .i64 h.old,.int .i64 h.ytop,.int .i64 h.otop,.slice aQ h.noted.length cQ,.int .i64 h.next]] w fun r w'=>r=.returned (.bool true)/\Below w.heap.size w w':=by
 obtain ⟨W0,hW0,hB0,hs0,k0,k1⟩:=boxes2 w #[.slice aX h.words.length cX,.int .i64 h.young,.int .i64 h.old,.int .i64 h.ytop,.int .i64 h.otop,.slice aP h.noted.length cP,.int .i64 h.next] #[.slice aY h.words.length cY,.int .i64 h.young,.int .i64 h.old,.int .i64 h.ytop,.int .i64 h.otop,.slice aQ h.noted.length cQ,.int .i64 h.next] 24 24
 have x0:=cl0 k0 0 (x:=.slice aX h.words.length cX) rfl
 have x1:=cl0 k0 1 (x:=.int .i64 h.young) rfl
 have x2:=cl0 k0 2 (x:=.int .i64 h.old) rfl
 have x3:=cl0 k0 3 (x:=.int .i64 h.ytop) rfl
 have x4:=cl0 k0 4 (x:=.int .i64 h.otop) rfl
 have x5:=cl0 k0 5 (x:=.slice aP h.noted.length cP) rfl
 have x6:=cl0 k0 6 (x:=.int .i64 h.next) rfl
 have y0:=cl0 k1 0 (x:=.slice aY h.words.length cY) rfl
 have y1:=cl0 k1 1 (x:=.int .i64 h.young) rfl
 have y2:=cl0 k1 2 (x:=.int .i64 h.old) rfl
 have y3:=cl0 k1 3 (x:=.int .i64 h.ytop) rfl
 have y4:=cl0 k1 4 (x:=.int .i64 h.otop) rfl
 have y5:=cl0 k1 5 (x:=.slice aQ h.noted.length cQ) rfl
 have y6:=cl0 k1 6 (x:=.int .i64 h.next) rfl
 have lk0:=lt0 k0
 have lk1:=lt0 k1
 have HS1:Hid (Calls Tryz.prog 45 #[.agg #[.slice aX h.words.length cX,.int .i64 h.young,.int .i64 h.old,.int .i64 h.ytop,.int .i64 h.otop,.slice aP h.noted.length cP,.int .i64 h.next],.agg #[.slice aY h.words.length cY,.int .i64 h.young,.int .i64 h.old,.int .i64 h.ytop,.int .i64 h.otop,.slice aQ h.noted.length cQ,.int .i64 h.next]] W0 fun r w'=>r=.returned (.bool true)/\Below W0.heap.size W0 w'):=by
  have hk:=Kp.below hB0
  have hm:∀b,b<w.heap.size->b<W0.heap.size:=fun b hb=>Nat.lt_of_lt_of_le hb hB0.size
  exact zrj W0 h _ _ _ _ _ _ _ _ ((s1.keptI hk).monoI hm) ((s2.keptI hk).monoI hm) ((s3.keptI hk).monoI hm) ((s4.keptI hk).monoI hm)
 have HE0:=mk0 hW0
 have HB0:=mk0 hB0
 clear s1 s2 s3 s4 hW0 hB0 hs0 k0 k1
 go_enter Tryz.func19,Tryz.ntmps19
 go_wp2_with fail
 rw [<-HE0.out]
 refine HS1.out.mono ?_
 rintro r w1 ⟨rfl,hb1⟩
 have HB1:=mk0 (HB0.out.trans (hb1.mono HB0.out.size))
 clear hb1 HS1
 go_wp2_with fail
 go_ret
 exact ⟨rfl,HB1.out⟩
theorem zrl (w:World) (h:HeapD) (aY aQ:Option Addr) (cY cQ:Nat) (e:Int) (he:e≠0):
 Calls Tryz.prog 19 #[.agg #[.slice none 0 0,.int .i64 0,.int .i64 0,.int .i64 0,.int .i64 0,.slice none 0 0,.int .i64 0],.int .i64 e,.int .i64 e,.agg #[.slice aY h.words.length cY,.int .i64 h.young,.int .i64 h.old,.int .i64 h.ytop,.int .i64 h.otop,.slice aQ h.noted.length cQ,.int .i64 h.next]] w fun r w'=>r=.returned (.bool true)/\Below w.heap.size w w':=by
 obtain ⟨W0,hW0,hB0,hs0,k0,k1⟩:=boxes2 w #[.slice none 0 0,.int .i64 0,.int .i64 0,.int .i64 0,.int .i64 0,.slice none 0 0,.int .i64 0] #[.slice none 0 0,.int .i64 0,.int .i64 0,.int .i64 0,.int .i64 0,.slice none 0 0,.int .i64 0] 24 24
 have HS1:Hid (Calls Tryz.prog 45 #[.agg #[.slice none 0 0,.int .i64 0,.int .i64 0,.int .i64 0,.int .i64 0,.slice none 0 0,.int .i64 0],.agg #[.slice none 0 0,.int .i64 0,.int .i64 0,.int .i64 0,.int .i64 0,.slice none 0 0,.int .i64 0]] W0 fun r w'=>r=.returned (.bool true)/\Below W0.heap.size W0 w'):=zrj W0 ⟨[],0,0,0,0,[],0⟩ none none none none 0 0 0 0 (nilI _ _) (nilI _ _) (nilI _ _) (nilI _ _)
 have hen:(e==0)=false:=beq_eq_false_iff_ne.2 he
 have HE0:=mk0 hW0
 have HB0:=mk0 hB0
 clear hW0 hB0 hs0 k0 k1
 go_enter Tryz.func19,Tryz.ntmps19
 go_wp2_with fail
 rw [<-HE0.out]
 refine HS1.out.mono ?_
 rintro r w1 ⟨rfl,hb1⟩
 have HB1:=mk0 (HB0.out.trans (hb1.mono HB0.out.size))
 clear hb1 HS1
 go_wp2_with fail
 go_ret
 exact ⟨rfl,HB1.out⟩
end Go.Proofs.YtjdnmblggdobgaaGreat
