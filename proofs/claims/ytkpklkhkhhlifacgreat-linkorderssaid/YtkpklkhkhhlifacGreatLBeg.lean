/- The contract of what must be in any case, of linked classes. -/
import Derived.Test.YtkpklkhkhhlifacGreatLBas
namespace Go.Proofs.YtkpklkhkhhlifacGreat
open Go.RowKit Go.Maps

set_option maxRecDepth 100000 in
set_option maxHeartbeats 2000000 in
theorem linkBegun_any (w : World) : Calls Tryz.prog 4 #[] w fun r w' => r = .returned (.bool true) ∧ Below w.heap.size w w' := by
  obtain ⟨bl, bd, hbl, hbd, hT, hE, hV, hIE, hIV, hl1, hl2⟩ := base_facts
  have HBA : Hid (Calls Tryz.prog 9 #[] w fun r w' => Below w.heap.size w w' ∧ ∃ v, r = .returned v ∧ SL 4 RC (· < w'.heap.size) w' v bl) := by
    show Calls _ _ _ _ _
    rw [hbl]
    exact base_any w
  have HLK : Hid (∀ w B v, SL 4 RC (· < B) w v bl → B ≤ w.heap.size → Calls Tryz.prog 5 #[v] w fun r w' => Below w.heap.size w w' ∧ ∃ kC kS kF kN kT, r = .returned (.tuple #[.agg #[kC, kS, kF, kN, kT], .int .i64 0]) ∧ RLk (· < w'.heap.size) w' kC kS kF kN kT bd) := fun w B v h hB => (Link_any w B bl v h hB).mono fun r w' ⟨hb, h⟩ => by
    rcases h with ⟨-, kC, kS, kF, kN, kT, h1, h2⟩ | ⟨h0, -⟩
    · exact ⟨hb, kC, kS, kF, kN, kT, h1, hbd ▸ h2.mono fun k h => h.2⟩
    · exact absurd hT h0
  have HE := mkHid hE
  have HV := mkHid hV
  have HIE := mkHid hIE
  have HIV := mkHid hIV
  have HL1 := mkHid hl1
  have HL2 := mkHid hl2
  clear hbl hbd hT hE hV hIE hIV hl1 hl2
  go_enter Tryz.func4, Tryz.ntmps4
  go_wp2_with fail
  refine HBA.out.mono ?_
  rintro r w1 ⟨hb1, v, rfl, sv⟩
  have HB1 := mkHid hb1
  have HSV := mkHid sv
  obtain ⟨a0, c0, rfl, -⟩ := sv
  clear hb1
  go_wp2_with fail
  refine (HLK.out w1 w1.heap.size _ HSV.out (Nat.le_refl _)).mono ?_
  rintro r w2 ⟨hb2, kC, kS, kF, kN, kT, rfl, hk⟩
  obtain ⟨aC, cC, aS, cS, aF, cF, aN, cN, aT, cT, rfl, rfl, rfl, rfl, rfl⟩ := hk.agg
  have HB2 := mkHid (HB1.out.trans (hb2.mono HB1.out.size))
  have HB3 := mkHid (fun o => (Below.refl w2.heap.size w2).alloc (Nat.le_refl _) o)
  have HKA : Hid (∀ W, Below w2.heap.size w2 W → RLk (· < w2.heap.size) W (.slice aC bd.classes.length cC) (.slice aS bd.supers.length cS) (.slice aF bd.fields.length cF) (.slice aN bd.names.length cN) (.slice aT bd.targets.length cT) bd) := fun W hW => hk.kept (Kp.below hW)
  clear hk hb2 HSV
  go_wp2_with fail
  refine (Find_any _ w2.heap.size _ _ _ _ _ bd errName (HKA.out _ (HB3.out _)) (HB3.out _).size (by decide)).mono ?_
  rintro r w3 ⟨rfl, hb3⟩
  have hB3 := (HB3.out (.cells #[.slice aC bd.classes.length cC, .slice aS bd.supers.length cS, .slice aF bd.fields.length cF, .slice aN bd.names.length cN, .slice aT bd.targets.length cT] 29)).trans (hb3.mono (HB3.out _).size)
  have hK3 := (hb3.block w2.heap.size (by simp)).trans (heap_alloc_new w2 _)
  rw [HE.out, HV.out]
  have d0 := cell_of hK3 0 (x := .slice aC bd.classes.length cC) rfl
  have d1 := cell_of hK3 1 (x := .slice aS bd.supers.length cS) rfl
  have d2 := cell_of hK3 2 (x := .slice aF bd.fields.length cF) rfl
  have d3 := cell_of hK3 3 (x := .slice aN bd.names.length cN) rfl
  have d4 := cell_of hK3 4 (x := .slice aT bd.targets.length cT) rfl
  have lk3 := lt_of hK3
  have HK3 := mkHid hK3
  have HB4 := mkHid hB3
  clear hb3 hB3 hK3
  go_wp2_with fail
  refine (Is_any _ w2.heap.size _ _ _ _ _ bd 1 0 (HKA.out _ HB4.out) HB4.out.size).mono ?_
  rintro r w4 ⟨rfl, hb4⟩
  have hK4 := (hb4.block w2.heap.size lk3).trans HK3.out
  rw [HIE.out, HIV.out]
  have f1 := cell_of hK4 1 (x := .slice aS bd.supers.length cS) rfl
  have f2 := cell_of hK4 2 (x := .slice aF bd.fields.length cF) rfl
  have lk4 := lt_of hK4
  have HB5 := mkHid (HB2.out.trans ((HB4.out.trans (hb4.mono HB4.out.size)).mono HB2.out.size))
  clear d0 d1 d2 d3 d4 hb4 hK4 HK3 HKA
  have hl1 := HL1.out
  have hl2 := HL2.out
  rw [hl1] at f1
  rw [hl2] at f2
  go_wp2_with fail
  go_ret
  exact ⟨rfl, HB5.out⟩
end Go.Proofs.YtkpklkhkhhlifacGreat
