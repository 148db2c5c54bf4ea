import Derived.Test.YtcddpmappmjilaaGreatDoorLPu5
namespace Go.Proofs.YtcddpmappmjilaaGreatDoor
open Go.RowKit Go.Maps
theorem eqL_symm {α:Type} {p:α->α->Bool} (h:∀x y,p x y=p y x):∀l m:List α,eqL p l m=eqL p m l
 | [],[]=>rfl
 | [],_::_=>rfl
 | _::_,[]=>rfl
 | x::l,y::m=>by rw [eqL,eqL,h,eqL_symm h l m]
theorem sameK_symm (x y:KindD):sameK x y=sameK y x:=by
 rw [Bool.eq_iff_iff,sameK_iff,sameK_iff]
 exact ⟨Eq.symm,Eq.symm⟩
theorem sameRest_symm (d e:LinkD):sameRest d e=sameRest e d:=by
 rw [sameRest,sameRest,eqL_symm (fun x y=>by rw [Bool.eq_iff_iff,sameI,sameI,beq_iff_eq,beq_iff_eq];exact eq_comm) d.supers,eqL_symm (eqL_symm fun x y=>by simp only [sameF];rw [sameK_symm x.kind,decide_eq_decide.2 eq_comm]) d.fields,eqL_symm (eqL_symm fun x y=>by rw [Bool.eq_iff_iff,sameS,sameS,beq_iff_eq,beq_iff_eq];exact eq_comm) d.names,eqL_symm (eqL_symm fun x y=>by rw [Bool.eq_iff_iff,sameT,sameT,Bool.and_eq_true,Bool.and_eq_true,beq_iff_eq,beq_iff_eq,beq_iff_eq,beq_iff_eq,eq_comm (a:=x.cls),eq_comm (a:=x.meth)]) d.targets]
def linkedErr (d:LinkD):Int:=if linkErr d.classes=0/\sameRest d (refD d.classes)=true then 0 else 4
theorem linkedErr_chk (d:LinkD):linkedErr d=chkRes d []:=by
 have e:okLk d=true↔(linkErr d.classes=0/\sameRest d (refD d.classes)=true):=by
  rw [okLk,Bool.and_eq_true,decide_eq_true_iff,tie_link]
  constructor
  ·
   rintro ⟨h1,h2⟩
   refine ⟨h1,?_⟩
   rw [<-linkD_refD ((tie_link _).trans h1),sameRest_symm]
   exact h2
  rintro ⟨h1,h2⟩
  refine ⟨h1,?_⟩
  rw [<-linkD_refD ((tie_link _).trans h1),sameRest_symm]at h2
  exact h2
 unfold linkedErr chkRes
 by_cases h:okLk d=true
 ·
  rw [if_pos (e.1 h),if_pos h];rfl
 rw [if_neg (fun hh=>h (e.2 hh)),if_neg h]
set_option maxRecDepth 100000 in
set_option maxHeartbeats 2000000 in
theorem CheckLinked_any (w:World) (B:Nat) (kC kS kF kN kT:Value) (d:LinkD) (hk:RLk (· <B) w kC kS kF kN kT d) (hB:B<=w.heap.size):
 Calls Tryz.prog 4 #[.agg #[kC,kS,kF,kN,kT]] w fun r w'=>r=.returned (.int .i64 (linkedErr d))/\Below w.heap.size w w':=by
 have HK:=mkHid hk
 obtain ⟨aC,cC,aS,cS,aF,cF,aN,cN,aT,cT,rfl,rfl,rfl,rfl,rfl⟩:=hk.agg
 clear hk
 have HA:=mkHid (fun o=>(Below.refl w.heap.size w).alloc (Nat.le_refl _) o)
 go_enter Tryz.func4,Tryz.ntmps4
 go_wp2_with fail
 refine (LinkOf_any _ B d.classes _ (HK.out.C.keptC (Kp.below ((HA.out _).mono hB))) (Nat.le_trans hB (HA.out _).size)).mono ?_
 rintro r w1 ⟨hb1,⟨h0,jC,jS,jF,jN,jT,rfl,hj⟩ | ⟨h0,rfl⟩⟩
 ·
  have hK1:=(hb1.block w.heap.size (by simp)).trans (heap_alloc_new w _)
  have hB1:Below w.heap.size w w1:=(HA.out _).trans (hb1.mono (HA.out _).size)
  have hj1:=hj.mono (M':=(· <w1.heap.size)) fun k h=>h.2
  obtain ⟨bC,eC,bS,eS,bF,eF,bN,eN,bT,eT,rfl,rfl,rfl,rfl,rfl⟩:=hj.agg
  have lk1:=lt_of hK1
  have x0:=cell_of hK1 0 (x:=.slice aC d.classes.length cC) rfl
  have x1:=cell_of hK1 1 (x:=.slice aS d.supers.length cS) rfl
  have x2:=cell_of hK1 2 (x:=.slice aF d.fields.length cF) rfl
  have x3:=cell_of hK1 3 (x:=.slice aN d.names.length cN) rfl
  have x4:=cell_of hK1 4 (x:=.slice aT d.targets.length cT) rfl
  have HA1:=mkHid (fun o=>(Below.refl w1.heap.size w1).alloc (Nat.le_refl _) o)
  have HSM:Hid (∀W,Below w1.heap.size w1 W->Calls Tryz.prog 9 #[.agg #[.slice aC d.classes.length cC,.slice aS d.supers.length cS,.slice aF d.fields.length cF,.slice aN d.names.length cN,.slice aT d.targets.length cT],.agg #[.slice bC (refD d.classes).classes.length eC,.slice bS (refD d.classes).supers.length eS,.slice bF (refD d.classes).fields.length eF,.slice bN (refD d.classes).names.length eN,.slice bT (refD d.classes).targets.length eT]] W fun r w'=>r=.returned (.bool (sameRest d (refD d.classes)))/\Below W.heap.size W w'):=fun W hW=>SameLinked_any W w1.heap.size _ _ _ _ _ _ _ _ _ _ d (refD d.classes) ((HK.out.kept (Kp.below ((hB1.trans (hW.mono hB1.size)).mono hB))).mono fun k hk=>Nat.lt_of_lt_of_le hk (Nat.le_trans hB hB1.size)) (hj1.kept (Kp.below hW)) rfl hW.size
  have HL:Hid (linkedErr d=if sameRest d (refD d.classes)=true then 0 else 4):=by show linkedErr d=_;simp [linkedErr,h0]
  have HB1:=mkHid hB1
  clear hb1 hj hj1 h0 hK1 hB1
  generalize sameRest d (refD d.classes)=sr at*
  generalize hrd:refD d.classes=rd at*
  clear hrd
  cases sr with
  | true=>
    go_wp2_with (go_at_call 9;refine (HSM.out _ (HA1.out _)).mono ?_;rintro r w2 ⟨rfl,hb2⟩;have HB2:=mkHid (HB1.out.trans (((HA1.out _).trans (hb2.mono (HA1.out _).size)).mono HB1.out.size));clear hb2)
    go_ret
    exact ⟨by rw [HL.out];rfl,HB2.out⟩
  | false=>
    go_wp2_with (go_at_call 9;refine (HSM.out _ (HA1.out _)).mono ?_;rintro r w2 ⟨rfl,hb2⟩;have HB2:=mkHid (HB1.out.trans (((HA1.out _).trans (hb2.mono (HA1.out _).size)).mono HB1.out.size));clear hb2)
    go_ret
    exact ⟨by rw [HL.out];rfl,HB2.out⟩
 have hB1:Below w.heap.size w w1:=(HA.out _).trans (hb1.mono (HA.out _).size)
 have HB1:=mkHid (hB1.alloc hB1.size (.cells #[.slice none 0 0,.slice none 0 0,.slice none 0 0,.slice none 0 0,.slice none 0 0] 28))
 have HL:Hid (linkedErr d=4):=by show linkedErr d=4;simp [linkedErr,h0]
 have hne:(linkErr d.classes==0)=false:=beq_eq_false_iff_ne.2 h0
 clear hb1 h0 hB1
 generalize linkErr d.classes=le at*
 have hne2:¬le=0:=fun e=>by rw [e]at hne;simp at hne
 unfold nilLk
 go_wp2_with fail
 go_ret
 exact ⟨by rw [HL.out];rfl,HB1.out⟩
end Go.Proofs.YtcddpmappmjilaaGreatDoor
