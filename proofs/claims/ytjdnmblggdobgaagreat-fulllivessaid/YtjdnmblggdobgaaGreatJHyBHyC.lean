import Derived.Test.YtjdnmblggdobgaaGreatJHyDHyF
import Derived.Test.YtjdnmblggdobgaaGreatJTk2Dies
import Derived.Test.YtjdnmblggdobgaaGreatJTilHvE
set_option maxHeartbeats 8000000
set_option maxRecDepth 100000
namespace Go.Proofs.YtjdnmblggdobgaaGreat
open Go.RowKit Go.Maps
def rootErr (ts:List ThD) (rs:List Int):Int:=if decide ((rs.length:Int)<=1000) then (if !rs.any fun x=>!leadB ts x then 0 else 5) else 2
def openErr (d:LinkD) (h:HeapD) (rs:List Int):Int:=if heapErr d h=0 then rootErr (tsOf d h) rs else heapErr d h
def rootQ (ts:List ThD) (rs:List Int):List QD:=[⟨135,2,decide ((rs.length:Int)<=1000)⟩,⟨136,5,!rs.any fun x=>!leadB ts x⟩]
theorem zvw (ts:List ThD) (rs:List Int):askRes (rootQ ts rs)=rootErr ts rs:=by
 unfold rootQ rootErr
 simp only [askRes]
theorem zvx (ts:List ThD) (rs:List Int):∀q∈rootQ ts rs,∀args w,(callFunc q.g args).run Tryz.prog w=.ok (.enter q.g args) w:=by
 intro q hq args w
 simp only [rootQ,List.mem_cons,List.not_mem_nil,or_false]at hq
 rcases hq with rfl | rfl<;>kernel_rfl
theorem zvy (ts:List ThD) (rs:List Int):∀q∈rootQ ts rs,q.e≠0:=by
 intro q hq
 simp only [rootQ,List.mem_cons,List.not_mem_nil,or_false]at hq
 rcases hq with rfl | rfl<;>simp
theorem zvz (w:World) (X B C:Nat) (vW vO kC kS kF kN kT vA:Value) (h:HeapD) (d:LinkD) (ts:List ThD) (hc:Cht X B w vW vO kC kS kF kN kT vA h d ts) (aR:Option Addr) (cR:Nat) (rs:List Int) (hs:SL 1 RI (· <C) w (.slice aR rs.length cR) rs) (hC:C<=w.heap.size) (hwr:∀x∈rs,(Lit.int .i64 x).wf=true) (k:Nat) (hk:k<(rootQ ts rs).length):
 Calls Tryz.prog (rootQ ts rs)[k].g #[.agg #[.pointer (some ⟨X+1,0,none⟩),.slice aR rs.length cR]] w fun r w'=>r=.returned (.bool (rootQ ts rs)[k].ans)/\Below w.heap.size w w':=by
 match k,hk with
 | 0,_=>exact zu0 w _ aR rs.length cR
 | 1,_=>exact zu3 w X B C _ _ _ _ _ _ _ vA h d ts hc _ rs hs hC hwr
def SwOut (w:World) (d:LinkD) (h:HeapD) (rs:List Int) (kC kS kF kN kT:Value) (r:Ending) (w':World):Prop:=
 (openErr d h rs=0/\∃nW dW nO dO nR dR,r=.returned (.agg #[.slice nW h.words.length dW,.int .i64 h.young,.int .i64 h.old,.int .i64 h.ytop,.int .i64 h.otop,.slice nO h.noted.length dO,.int .i64 h.next,kC,kS,kF,kN,kT,.slice nR rs.length dR])/\OwnV w.heap.size w' (.slice nW h.words.length dW) (.slice nO h.noted.length dO) h/\
  w'.ownsRow w.heap.size 3 1 (.slice nR rs.length dR) rs.length (intV rs)/\∀k,(Value.slice nR rs.length dR).ownBlock=some k->(Value.slice nW h.words.length dW).ownBlock≠some k/\(Value.slice nO h.noted.length dO).ownBlock≠some k)\/
 (openErr d h rs≠0/\r=.panicked [wrongV (openErr d h rs) 0])
theorem zv0 (w:World) (B:Nat) (vW vO kC kS kF kN kT:Value) (h:HeapD) (d:LinkD) (g:Hd B w vW vO kC kS kF kN kT h d) (vR:Value) (rs:List Int) (hs:SL 1 RI (· <B) w vR rs) (hwr:∀x∈rs,(Lit.int .i64 x).wf=true):
 Calls Tryz.prog 81 #[.agg #[vW,.int .i64 h.young,.int .i64 h.old,.int .i64 h.ytop,.int .i64 h.otop,vO,.int .i64 h.next],.agg #[kC,kS,kF,kN,kT],vR] w fun r w'=>Below w.heap.size w w'/\SwOut w d h rs kC kS kF kN kT r w':=by
 have hmf:=mkf Tryz.prog
 have HG:=mk0 g
 have HSR:=mk0 hs
 obtain ⟨aW,cW,aO,cO,aC,cC,aS,cS,aF,cF,aN,cN,aT,cT,rfl,rfl,rfl,rfl,rfl,rfl,rfl⟩:=g.agg
 obtain ⟨aR,cR,rfl,-⟩:=hs
 clear g
 obtain ⟨W0,hW0,hB0,hs0,k0,k1,k2⟩:=boxes3 w #[.slice aW h.words.length cW,.int .i64 h.young,.int .i64 h.old,.int .i64 h.ytop,.int .i64 h.otop,.slice aO h.noted.length cO,.int .i64 h.next] #[.slice aC d.classes.length cC,.slice aS d.supers.length cS,.slice aF d.fields.length cF,.slice aN d.names.length cN,.slice aT d.targets.length cT] #[.slice none 0 0,.int .i64 0,.int .i64 0,.int .i64 0,.int .i64 0,.slice none 0 0,.int .i64 0,.slice none 0 0,.slice none 0 0,.slice none 0 0,.slice none 0 0,.slice none 0 0,.slice none 0 0] 24 36 131
 have lk0:=lt0 k0
 have lk1:=lt0 k1
 have lk2:=lt0 k2
 have HB0:=mk0 hB0
 have HK0:=mk0 (And.intro k0 (And.intro k1 k2))
 have HGV:Hid (∀V,Below W0.heap.size W0 V->Hd B V (.slice aW h.words.length cW) (.slice aO h.noted.length cO) (.slice aC d.classes.length cC) (.slice aS d.supers.length cS) (.slice aF d.fields.length cF) (.slice aN d.names.length cN) (.slice aT d.targets.length cT) h d):=fun V hV=>HG.out.below ((hB0.trans (hV.mono hB0.size)).mono HG.out.le)
 have HSV:Hid (∀V,Below W0.heap.size W0 V->SL 1 RI (· <B) V (.slice aR rs.length cR) rs):=fun V hV=>HSR.out.keptI (Kp.below ((hB0.trans (hV.mono hB0.size)).mono HG.out.le))
 have HCK:=mk0 (zl8 W0 B _ _ _ _ _ _ _ h d (HGV.out W0 (Below.refl _ _)))
 have HE0:=mk0 hW0
 have HWR:=mk0 hwr
 clear hW0 k0 k1 k2 hB0 hs0 hwr
 by_cases hE:heapErr d h=0
 rotate_left
 ·
  have HR:Hid (openErr d h rs=heapErr d h):=by show _=_;unfold openErr;rw [if_neg hE]
  have hne:(heapErr d h==0)=false:=by simpa using hE
  have HNE:=mk0 hE
  generalize heapErr d h=he at*
  clear hE
  go_enter Tryz.func81,Tryz.ntmps81
  go_wp2_with fail
  rw [<-HE0.out]
  refine HCK.out.mono ?_
  rintro r w1 ⟨rfl,hb1⟩
  have HB1:=mk0 hb1
  clear hb1
  go_wp2_with fail
  refine (dm0 _ _ _).mono ?_
  rintro r w3 ⟨rfl,⟨hb,rfl⟩ | ⟨hb,rfl⟩⟩
  ·
   exact ⟨rfl,HB0.out.trans (HB1.out.mono HB0.out.size),Or.inr ⟨by rw [HR.out];exact HNE.out,by rw [HR.out]⟩⟩
  exact absurd hb (by simp)
 have HEZ:=mk0 hE
 rw [hE]at HCK
 clear hE
 go_enter Tryz.func81,Tryz.ntmps81
 go_wp2_with fail
 rw [<-HE0.out]
 refine HCK.out.mono ?_
 rintro r wa ⟨rfl,hb1⟩
 have HB1:=mk0 hb1
 clear hb1 HCK
 go_wp2_with fail
 refine (dm0 _ _ _).mono ?_
 rintro r w1 ⟨rfl,⟨hb,rfl⟩ | ⟨-,rfl⟩⟩
 ·
  exact absurd hb (by simp)
 obtain ⟨ts,rt⟩:=zs6 HEZ.out
 have h3:=zm4 HEZ.out rt.both HG.out.ww
 have g1:=HGV.out w1 HB1.out
 have HF:=mk0 (zho w1 B _ _ _ _ _ _ _ h d g1.le g1.sW g1.sO g1.lk h3.1)
 have HRT:=mk0 rt.both
 have HH3:=mk0 h3
 have j0:=(HB1.out.block _ lk0).trans HK0.out.1
 have j1:=(HB1.out.block _ lk1).trans HK0.out.2.1
 obtain ⟨a0,a1,a2,a3,a4,a5,a6,az,al⟩:=cells7 j0
 obtain ⟨b0,b1,b2,b3,b4,bl⟩:=cells5 j1
 clear rt h3 g1 j0 j1
 go_wp2_with fail
 refine HF.out.mono ?_
 rintro r w4 ⟨hb4,⟨ts',vA,hts,rfl,hch⟩ | ⟨hn,rfl⟩⟩
 rotate_left
 ·
  rw [HRT.out]at hn;cases hn
 obtain rfl:ts=ts':=Option.some.inj (HRT.out.symm.trans hts)
 clear HF hts
 clear a0 a1 a2 a3 a4 a5 a6 al az
 clear b0 b1 b2 b3 b4 bl
 have hb04:Below W0.heap.size W0 w4:=HB1.out.trans (hb4.mono HB1.out.size)
 obtain ⟨W5,hW5,hB5,hs5,q0⟩:=boxes1 w4 #[.pointer (some ⟨w1.heap.size+1+1+1,0,none⟩),.slice aR rs.length cR] 188
 have HQ:Hid (SL 2 (RQ #[.agg #[.pointer (some ⟨w1.heap.size+1+1+1,0,none⟩),.slice aR rs.length cR]]) (· <w4.heap.size+1+1) (W5.alloc (.cells #[.func (.func 135) #[.agg #[.pointer (some ⟨w1.heap.size+1+1+1,0,none⟩),.slice aR rs.length cR]] #[],.int .i64 2,.func (.func 136) #[.agg #[.pointer (some ⟨w1.heap.size+1+1+1,0,none⟩),.slice aR rs.length cR]] #[],.int .i64 5] 170)) (.slice (some ⟨w4.heap.size+1,0,none⟩) 2 2) (rootQ ts rs)):=by
  rw [<-hs5]
  exact qsSL W5 170 #[.agg #[.pointer (some ⟨w1.heap.size+1+1+1,0,none⟩),.slice aR rs.length cR]] (rootQ ts rs) (by simp [rootQ])
 have hb05:Below W0.heap.size W0 W5:=hb04.trans (hB5.mono hb04.size)
 have HA:=mk0 (fun o=>(Below.refl W5.heap.size W5).alloc (Nat.le_refl _) o)
 have HB05:=mk0 hb05
 have HCH:=mk0 (hch.below hB5)
 have HS5:=mk0 hs5
 have HW5:=mk0 hW5
 have HR:Hid (openErr d h rs=rootErr ts rs):=by
  show _=_
  unfold openErr tsOf
  rw [if_pos HEZ.out,HRT.out];rfl
 clear hb4 hch hb04 hW5 hB5 hs5 q0 hb05
 go_wp2_with fail
 rw [<-HW5.out]
 refine (zje _ (w4.heap.size+1+1) _ _ (rootQ ts rs) HQ.out (by simp [HS5.out]) (zvx ts rs) (zvy ts rs) ?_).mono ?_
 ·
  intro k hk _ V hV
  have hVB:=(HA.out _).trans (hV.mono (HA.out _).size)
  have hV0:=HB05.out.trans (hVB.mono HB05.out.size)
  exact zvz V _ B B _ _ _ _ _ _ _ vA h d ts (HCH.out.below hVB) aR cR rs (HSV.out V hV0) (HGV.out V hV0).le HWR.out k hk
 rintro r w6 ⟨⟨hc,rfl⟩ | ⟨hc,rfl⟩,hb6⟩
 ·
  rw [zvw]at hc
  exact ⟨rfl,HB0.out.trans ((HB05.out.trans (((HA.out _).trans (hb6.mono (HA.out _).size)).mono HB05.out.size)).mono HB0.out.size),Or.inr ⟨by rw [HR.out];exact hc,by rw [HR.out,zvw]⟩⟩
 rw [zvw]at hc
 have HOK:Hid (openErr d h rs=0):=HR.out.trans hc
 have hb06:Below W0.heap.size W0 w6:=HB05.out.trans (((HA.out _).trans (hb6.mono (HA.out _).size)).mono HB05.out.size)
 have hrl:rs.length<=1000000:=by
  unfold rootErr at hc
  cases hd1:decide ((rs.length:Int)<=1000)
  ·
   rw [hd1]at hc;simp at hc
  have:=of_decide_eq_true hd1;omega
 have g6:=HGV.out w6 hb06
 have HOWN:=mk0 (zmg w6 B _ _ _ _ _ _ _ h d g6.sW g6.sO g6.lk g6.le (by have:=HH3.out.1.len;have:=HH3.out.1.young;have:=HH3.out.1.old;omega) HH3.out.2.2)
 have HRL:=mk0 hrl
 have j0:=(hb06.block _ lk0).trans HK0.out.1
 have j1:=(hb06.block _ lk1).trans HK0.out.2.1
 obtain ⟨a0,a1,a2,a3,a4,a5,a6,az,al⟩:=cells7 j0
 obtain ⟨b0,b1,b2,b3,b4,bl⟩:=cells5 j1
 have HB06:=mk0 hb06
 clear hb6 hb06 g6 j0 j1 hc hrl HQ HR
 go_wp2_with fail
 refine HOWN.out.mono ?_
 rintro r w7 ⟨hb7,nW,dW,nO,dO,rfl,hov⟩
 have hb07:Below W0.heap.size W0 w7:=HB06.out.trans (hb7.mono HB06.out.size)
 have HCL:=mk0 (zmf w7 (· <B) _ rs (HSV.out w7 hb07) HRL.out)
 have HB07:=mk0 hb07
 have HOV:=mk0 hov
 have hs7:=hb7.size
 clear a0 a1 a2 a3 a4 a5 a6 al az
 clear b0 b1 b2 b3 b4 bl
 clear HOWN hb7 hov hb07
 go_wp2_with fail
 refine HCL.out.mono ?_
 rintro r w8 ⟨hb8,nR,dR,rfl,hor⟩
 have hb08:Below W0.heap.size W0 w8:=HB07.out.trans (hb8.mono HB07.out.size)
 have k8:=(hb08.block _ lk2).trans HK0.out.2.2
 have hB8:Below w.heap.size w w8:=HB0.out.trans (hb08.mono HB0.out.size)
 have hs8:=hb8.size
 have hs6:=HB06.out.size
 obtain ⟨W9,h9,hgS,hq,hr,rz,rl⟩:=setN (zs:=[.slice none 0 0,.int .i64 0,.int .i64 0,.int .i64 0,.int .i64 0,.slice none 0 0,.int .i64 0,.slice none 0 0,.slice none 0 0,.slice none 0 0,.slice none 0 0,.slice none 0 0,.slice none 0 0]) k8 [.slice nW h.words.length dW,.int .i64 h.young,.int .i64 h.old,.int .i64 h.ytop,.int .i64 h.otop,.slice nO h.noted.length dO,.int .i64 h.next,.slice aC d.classes.length cC,.slice aS d.supers.length cS,.slice aF d.fields.length cF,.slice aN d.names.length cN,.slice aT d.targets.length cT,.slice nR rs.length dR] rfl
 have r0:=hr 0 _ rfl
 have r1:=hr 1 _ rfl
 have r2:=hr 2 _ rfl
 have r3:=hr 3 _ rfl
 have r4:=hr 4 _ rfl
 have r5:=hr 5 _ rfl
 have r6:=hr 6 _ rfl
 have r7:=hr 7 _ rfl
 have r8:=hr 8 _ rfl
 have r9:=hr 9 _ rfl
 have r10:=hr 10 _ rfl
 have r11:=hr 11 _ rfl
 have r12:=hr 12 _ rfl
 have q0:=hq 0 _ rfl
 have q1:=hq 1 _ rfl
 have q2:=hq 2 _ rfl
 have q3:=hq 3 _ rfl
 have q4:=hq 4 _ rfl
 have q5:=hq 5 _ rfl
 have q6:=hq 6 _ rfl
 have q7:=hq 7 _ rfl
 have q8:=hq 8 _ rfl
 have q9:=hq 9 _ rfl
 have q10:=hq 10 _ rfl
 have q11:=hq 11 _ rfl
 have q12:=hq 12 _ rfl
 have hw9:=hgS.size
 have HB9:=mk0 (bg0 (hB8) hgS (by omega))
 have HG9:=mk0 hgS
 simp only [setL,Nat.reduceAdd]at h9
 have H9:=mk0 h9
 clear hgS hq hr h9
 have HOF:Hid (OwnV w.heap.size W9 (.slice nW h.words.length dW) (.slice nO h.noted.length dO) h):=((HOV.out.below hb8).grown HG9.out (fun e=>by have:=(HOV.out.rW.lt _ e).1;omega) (fun e=>by have:=(HOV.out.rO.lt _ e).1;omega)).mono (by have:=HB0.out.size;omega)
 have HRF:Hid (W9.ownsRow w.heap.size 3 1 (.slice nR rs.length dR) rs.length (intV rs)):=zhp (hor.kept HG9.out (Or.inr fun e=>by have:=(hor.lt _ e).1;omega)) (by have:=HB0.out.size;omega)
 have HAP:Hid (∀k,(Value.slice nR rs.length dR).ownBlock=some k->(Value.slice nW h.words.length dW).ownBlock≠some k/\(Value.slice nO h.noted.length dO).ownBlock≠some k):=fun k e=>⟨fun e2=>by have:=(hor.lt _ e).1;have:=(HOV.out.rW.lt _ e2).2;omega,fun e2=>by have:=(hor.lt _ e).1;have:=(HOV.out.rO.lt _ e2).2;omega⟩
 clear hor hb8 hb08 k8 hB8 HCL HOV
 go_wp2_with fail
 rw [H9.out]
 exact bodyPost_ret (v:=.agg #[.slice nW h.words.length dW,.int .i64 h.young,.int .i64 h.old,.int .i64 h.ytop,.int .i64 h.otop,.slice nO h.noted.length dO,.int .i64 h.next,.slice aC d.classes.length cC,.slice aS d.supers.length cS,.slice aF d.fields.length cF,.slice aN d.names.length cN,.slice aT d.targets.length cT,.slice nR rs.length dR]) (by simp [results,Tryz.results81,go_sem,q0,q1,q2,q3,q4,q5,q6,q7,q8,q9,q10,q11,q12]) rfl ⟨HB9.out,Or.inl ⟨HOK.out,_,_,_,_,_,_,rfl,HOF.out,HRF.out,HAP.out⟩⟩
end Go.Proofs.YtjdnmblggdobgaaGreat
