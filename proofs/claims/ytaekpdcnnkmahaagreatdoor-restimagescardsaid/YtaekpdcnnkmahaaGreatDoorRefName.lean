/- The contracts of the document's own check: names and kinds. -/
import Derived.Test.YtaekpdcnnkmahaaGreatDoorJChkLeafChkClass
namespace Go.Proofs.YtaekpdcnnkmahaaGreatDoor
open Go.RowKit

theorem betweenOf_any (w : World) (n m : Int) :
    Calls Tryz.prog 72 #[.int .i64 n, .int .i64 0, .int .i64 m] w fun r w' => r = .returned (.bool (win n m)) ∧ w' = w := by
  by_cases h0 : 0 ≤ n
  · by_cases h1 : n ≤ m
    · go_enter Tryz.func72, Tryz.ntmps72
      go_wp2
      go_ret
      simp [win, h0, h1]
    · go_enter Tryz.func72, Tryz.ntmps72
      go_wp2
      go_ret
      simp [win, h1]
  · go_enter Tryz.func72, Tryz.ntmps72
    go_wp2
    go_ret
    simp [win]; omega

set_option maxHeartbeats 2000000 in
theorem isNameOf_any (w : World) (s : ByteArray) (hs : s.size ≤ maxLen) :
    Calls Tryz.prog 39 #[.string s] w fun r w' => r = .returned (.bool (isNameB s)) ∧ w' = w := by
  unfold maxLen at hs
  have HV : Hid (isNameB s = (decide (1 ≤ s.size) && decide (s.size ≤ 20) && nameAll s)) := rfl
  go_enter Tryz.func39, Tryz.ntmps39
  go_wp2
  go_loop [3] (fun i => ∃ k : Nat, k ≤ s.size ∧ i = .int .i64 k ∧ ∀ j, j < k → nameByte (bt s j) = true) (fun i => s.size - (intOf i).toNat)
  case atStart => exact ⟨0, Nat.zero_le _, rfl, fun j hj => by omega⟩
  case round =>
    obtain ⟨k, hk, rfl, HK0⟩ := hrel
    have HK := mkHid HK0
    clear HK0
    by_cases hlt : k < s.size
    · have eb : (s[k].toNat) = bt s k := (bt_eq s k hlt).symm
      have HE := mkHid eb
      generalize hn : bt s k = n at *
      have HN := mkHid hn
      clear hn
      rcases (by omega : (n < 48) ∨ (48 ≤ n ∧ n ≤ 57) ∨ (57 < n ∧ n < 65) ∨ (65 ≤ n ∧ n ≤ 90) ∨ (90 < n ∧ n < 97 ∧ n ≠ 95) ∨ (n = 95) ∨ (97 ≤ n ∧ n ≤ 122) ∨ (122 < n)) with h | h | h | h | h | h | h | h
      · have hv : nameByte n = false := by simp [nameByte]; omega
        have a0 : ¬ (97 : Int) ≤ n := by omega
        have a1 : ¬ (65 : Int) ≤ n := by omega
        have a2 : ¬ (48 : Int) ≤ n := by omega
        have a3 : ((n : Int) == 95) = false := by simp; omega
        have HW := mkHid hv
        clear hv h
        have HF : Hid (nameAll s = false) := nameAll_no hlt (by rw [HN.out]; exact HW.out)
        go_wp2
        go_ret
        exact ⟨by rw [HV.out, HF.out, Bool.and_false]; rfl, rfl⟩
      · have hv : nameByte n = true := by simp [nameByte]; omega
        have a0 : ¬ (97 : Int) ≤ n := by omega
        have a1 : ¬ (65 : Int) ≤ n := by omega
        have a2 : (48 : Int) ≤ n := by omega
        have a3 : (n : Int) ≤ 57 := by omega
        have HW := mkHid hv
        clear hv h
        go_wp2
        go_round
        case rel => exact ⟨k + 1, by omega, by go_num, fun j hj => if hjk : j = k then (by rw [hjk, HN.out]; exact HW.out) else HK.out j (by omega)⟩
        case measure => simp [intOf]; omega
      · have hv : nameByte n = false := by simp [nameByte]; omega
        have a0 : ¬ (97 : Int) ≤ n := by omega
        have a1 : ¬ (65 : Int) ≤ n := by omega
        have a2 : (48 : Int) ≤ n := by omega
        have a3 : ¬ (n : Int) ≤ 57 := by omega
        have a4 : ((n : Int) == 95) = false := by simp; omega
        have HW := mkHid hv
        clear hv h
        have HF : Hid (nameAll s = false) := nameAll_no hlt (by rw [HN.out]; exact HW.out)
        go_wp2
        go_ret
        exact ⟨by rw [HV.out, HF.out, Bool.and_false]; rfl, rfl⟩
      · have hv : nameByte n = true := by simp [nameByte]; omega
        have a0 : ¬ (97 : Int) ≤ n := by omega
        have a1 : (65 : Int) ≤ n := by omega
        have a2 : (n : Int) ≤ 90 := by omega
        have HW := mkHid hv
        clear hv h
        go_wp2
        go_round
        case rel => exact ⟨k + 1, by omega, by go_num, fun j hj => if hjk : j = k then (by rw [hjk, HN.out]; exact HW.out) else HK.out j (by omega)⟩
        case measure => simp [intOf]; omega
      · have hv : nameByte n = false := by simp [nameByte]; omega
        have a0 : ¬ (97 : Int) ≤ n := by omega
        have a1 : (65 : Int) ≤ n := by omega
        have a2 : ¬ (n : Int) ≤ 90 := by omega
        have a3 : (48 : Int) ≤ n := by omega
        have a4 : ¬ (n : Int) ≤ 57 := by omega
        have a5 : ((n : Int) == 95) = false := by simp; omega
        have HW := mkHid hv
        clear hv h
        have HF : Hid (nameAll s = false) := nameAll_no hlt (by rw [HN.out]; exact HW.out)
        go_wp2
        go_ret
        exact ⟨by rw [HV.out, HF.out, Bool.and_false]; rfl, rfl⟩
      · have hv : nameByte n = true := by simp [nameByte]; omega
        have a0 : ¬ (97 : Int) ≤ n := by omega
        have a1 : (65 : Int) ≤ n := by omega
        have a2 : ¬ (n : Int) ≤ 90 := by omega
        have a3 : (48 : Int) ≤ n := by omega
        have a4 : ¬ (n : Int) ≤ 57 := by omega
        have a5 : ((n : Int) == 95) = true := by simp; omega
        have HW := mkHid hv
        clear hv h
        go_wp2
        go_round
        case rel => exact ⟨k + 1, by omega, by go_num, fun j hj => if hjk : j = k then (by rw [hjk, HN.out]; exact HW.out) else HK.out j (by omega)⟩
        case measure => simp [intOf]; omega
      · have hv : nameByte n = true := by simp [nameByte]; omega
        have a0 : (97 : Int) ≤ n := by omega
        have a1 : (n : Int) ≤ 122 := by omega
        have HW := mkHid hv
        clear hv h
        go_wp2
        go_round
        case rel => exact ⟨k + 1, by omega, by go_num, fun j hj => if hjk : j = k then (by rw [hjk, HN.out]; exact HW.out) else HK.out j (by omega)⟩
        case measure => simp [intOf]; omega
      · have hv : nameByte n = false := by simp [nameByte]; omega
        have a0 : (97 : Int) ≤ n := by omega
        have a1 : ¬ (n : Int) ≤ 122 := by omega
        have a2 : (65 : Int) ≤ n := by omega
        have a3 : ¬ (n : Int) ≤ 90 := by omega
        have a4 : (48 : Int) ≤ n := by omega
        have a5 : ¬ (n : Int) ≤ 57 := by omega
        have a6 : ((n : Int) == 95) = false := by simp; omega
        have HW := mkHid hv
        clear hv h
        have HF : Hid (nameAll s = false) := nameAll_no hlt (by rw [HN.out]; exact HW.out)
        go_wp2
        go_ret
        exact ⟨by rw [HV.out, HF.out, Bool.and_false]; rfl, rfl⟩
    · have HF : Hid (nameAll s = true) := nameAll_ok fun i hi => HK.out i (by omega)
      by_cases h1 : 1 ≤ s.size
      · have a1 : (1 : Int) ≤ s.size := by omega
        go_wp2
        go_ret
        exact ⟨by rw [HV.out, HF.out, decide_eq_true h1]; simp; omega, rfl⟩
      · have a1 : ¬ (1 : Int) ≤ s.size := by omega
        go_wp2
        go_ret
        exact ⟨by rw [HV.out, HF.out, decide_eq_false h1]; rfl, rfl⟩

set_option maxHeartbeats 400000 in
theorem rightOf_any (w : World) (k : KindD) (hs : k.cls.size ≤ maxLen) :
    Calls Tryz.prog 40 #[.agg #[.int .i64 k.kind, .string k.cls]] w fun r w' => r = .returned (.bool (rightB k)) ∧ Below w.heap.size w w' := by
  obtain ⟨n, s⟩ := k
  dsimp only at *
  have hb := fun o => (Below.refl w.heap.size w).alloc (Nat.le_refl _) o
  have HR : Hid (rightB ⟨n, s⟩ = if hasCls n = true then isNameB s else (decide (n = 1) || decide (n = 2)) && decide (s.size = 0)) := rfl
  have e0 := size0 s
  by_cases h1 : n = 1
  · subst h1
    go_enter Tryz.func40, Tryz.ntmps40
    go_wp2
    go_ret
    exact ⟨by rw [HR.out]; simp [hasCls], hb _⟩
  · have b1 : (n == 1) = false := by simp [h1]
    by_cases h2 : n = 2
    · subst h2
      go_enter Tryz.func40, Tryz.ntmps40
      go_wp2
      go_ret
      exact ⟨by rw [HR.out]; simp [hasCls], hb _⟩
    · have b2 : (n == 2) = false := by simp [h2]
      by_cases h3 : n = 3
      · subst h3
        go_enter Tryz.func40, Tryz.ntmps40
        go_wp2_with fail
        refine (isNameOf_any _ _ hs).mono ?_
        rintro r w1 ⟨rfl, rfl⟩
        go_wp2
        go_ret
        exact ⟨by rw [HR.out]; rfl, hb _⟩
      · have b3 : (n == 3) = false := by simp [h3]
        by_cases h4 : n = 4
        · subst h4
          go_enter Tryz.func40, Tryz.ntmps40
          go_wp2_with fail
          refine (isNameOf_any _ _ hs).mono ?_
          rintro r w1 ⟨rfl, rfl⟩
          go_wp2
          go_ret
          exact ⟨by rw [HR.out]; rfl, hb _⟩
        · have b4 : (n == 4) = false := by simp [h4]
          have HV : Hid (rightB ⟨n, s⟩ = false) := by
            show rightB ⟨n, s⟩ = false
            rw [HR.out]
            simp [hasCls, h1, h2, h3, h4]
          clear h1 h2 h3 h4
          go_enter Tryz.func40, Tryz.ntmps40
          go_wp2
          go_ret
          exact ⟨by rw [HV.out]; rfl, hb _⟩
end Go.Proofs.YtaekpdcnnkmahaaGreatDoor
