/- The contracts of the check of classes. -/
import Derived.Test.YtjdnmblggdobgaaGreatChkLeaf
namespace Go.Proofs.YtjdnmblggdobgaaGreat
open Go.RowKit

theorem size0 (s : ByteArray) : s.toList.isEmpty = decide (s.size = 0) := by
  rw [ByteArray.toList_eq]
  obtain ⟨⟨l⟩⟩ := s
  cases l <;> rfl

theorem within_any (w : World) (n m : Int) :
    Calls Tryz.prog 313 #[.int .i64 n, .int .i64 m] w fun r w' => r = .returned (.bool (win n m)) ∧ w' = w := by
  by_cases h0 : 0 ≤ n
  · by_cases h1 : n ≤ m
    · go_enter Tryz.func313, Tryz.ntmps313
      go_wp2
      go_ret
      simp [win, h0, h1]
    · go_enter Tryz.func313, Tryz.ntmps313
      go_wp2
      go_ret
      simp [win, h1]
  · go_enter Tryz.func313, Tryz.ntmps313
    go_wp2
    go_ret
    simp [win]; omega

theorem hasClass_any (w : World) (n : Int) :
    Calls Tryz.prog 312 #[.int .i64 n] w fun r w' => r = .returned (.bool (hasCls n)) ∧ w' = w := by
  by_cases h0 : n = 3
  · subst h0
    go_enter Tryz.func312, Tryz.ntmps312
    go_wp2
    go_ret
    exact ⟨rfl, rfl⟩
  · have HH : Hid (hasCls n = decide (n = 4)) := by show hasCls n = _; simp [hasCls, h0]
    have hb : (n == 3) = false := by simp [h0]
    clear h0
    go_enter Tryz.func312, Tryz.ntmps312
    go_wp2
    go_ret
    exact ⟨by rw [HH.out]; rfl, rfl⟩

set_option maxHeartbeats 400000 in
theorem isRight_any (w : World) (k : KindD) (hs : k.cls.size ≤ maxLen) :
    Calls Tryz.prog 282 #[.agg #[.int .i64 k.kind, .string k.cls]] w fun r w' => r = .returned (.bool (rightB k)) ∧ Below w.heap.size w w' := by
  obtain ⟨n, s⟩ := k
  dsimp only at *
  have hb := fun o => (Below.refl w.heap.size w).alloc (Nat.le_refl _) o
  have HR : Hid (rightB ⟨n, s⟩ = if hasCls n = true then isNameB s else (decide (n = 1) || decide (n = 2)) && decide (s.size = 0)) := rfl
  go_enter Tryz.func282, Tryz.ntmps282
  go_wp2_with fail
  refine (hasClass_any _ _).mono ?_
  rintro r w1 ⟨rfl, rfl⟩
  cases hc : hasCls n
  · have HC := mkHid hc
    clear hc
    have e0 := size0 s
    by_cases h1 : n = 1
    · subst h1
      go_wp2
      go_ret
      refine ⟨by rw [HR.out, HC.out]; simp, hb _⟩
    · have b1 : (n == 1) = false := by simp [h1]
      by_cases h2 : n = 2
      · subst h2
        go_wp2
        go_ret
        refine ⟨by rw [HR.out, HC.out]; simp, hb _⟩
      · have b2 : (n == 2) = false := by simp [h2]
        have HD : Hid ((decide (n = 1) || decide (n = 2)) = false) := by show _ = _; simp [h1, h2]
        clear h1 h2
        go_wp2
        go_ret
        refine ⟨by rw [HR.out, HC.out, HD.out]; simp, hb _⟩
  · have HC := mkHid hc
    clear hc
    go_wp2_with fail
    refine (isName_any _ _ hs).mono ?_
    rintro r w1 ⟨rfl, rfl⟩
    go_wp2
    go_ret
    refine ⟨by rw [HR.out, HC.out]; simp, hb _⟩

set_option maxHeartbeats 400000 in
theorem isReturned_any (w : World) (k : KindD) (hs : k.cls.size ≤ maxLen) :
    Calls Tryz.prog 314 #[.agg #[.int .i64 k.kind, .string k.cls]] w fun r w' => r = .returned (.bool (returnedB k)) ∧ Below w.heap.size w w' := by
  obtain ⟨n, s⟩ := k
  dsimp only at *
  have hb := (Below.refl w.heap.size w).alloc (Nat.le_refl _) (.cells #[.int .i64 n, .string s] 123)
  have HR : Hid (returnedB ⟨n, s⟩ = (rightB ⟨n, s⟩ || (decide (n = 0) && decide (s.size = 0)))) := rfl
  go_enter Tryz.func314, Tryz.ntmps314
  go_wp2_with fail
  refine (isRight_any _ ⟨n, s⟩ hs).mono ?_
  rintro r w1 ⟨rfl, hb1⟩
  have c0 : w1.cell? ⟨w.heap.size, 0, none⟩ = some (.int .i64 n) := (hb1.cell (p := ⟨w.heap.size, 0, none⟩) (by simp)).trans (by simp [go_sem])
  have c1 : w1.cell? ⟨w.heap.size, 1, none⟩ = some (.string s) := (hb1.cell (p := ⟨w.heap.size, 1, none⟩) (by simp)).trans (by simp [go_sem])
  have hb2 : Below w.heap.size w w1 := hb.trans (hb1.mono (by simp))
  clear hb hb1
  generalize rightB ⟨n, s⟩ = rb at *
  have e0 := size0 s
  cases rb
  · by_cases h1 : n = 0
    · subst h1
      go_wp2
      go_ret
      refine ⟨by rw [HR.out]; simp, hb2⟩
    · have b1 : (n == 0) = false := by simp [h1]
      have HD : Hid (decide (n = 0) = false) := by show _ = _; simp [h1]
      clear h1
      go_wp2
      go_ret
      refine ⟨by rw [HR.out, HD.out]; simp, hb2⟩
  · go_wp2
    go_ret
    refine ⟨by rw [HR.out]; simp, hb2⟩
end Go.Proofs.YtjdnmblggdobgaaGreat
