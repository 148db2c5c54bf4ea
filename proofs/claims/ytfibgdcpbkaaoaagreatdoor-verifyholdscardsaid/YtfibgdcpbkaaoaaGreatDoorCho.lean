/- A statement's choose. -/
import Derived.Test.YtfibgdcpbkaaoaaGreatDoorJChkClassLAsk
namespace Go.Proofs.YtfibgdcpbkaaoaaGreatDoor
open Go.RowKit
set_option maxHeartbeats 1000000 in
theorem choose_any (c : Int) (n : Nat) (h1 : -9223372036854775808 ≤ c) (h2 : c ≤ 9223372036854775807) (hn : 0 < n) (hn' : n ≤ 10) : ∃ m : Nat, m < n ∧ ∀ w, Calls Tryz.prog 8 #[.int .i64 c, .int .i64 (n : Int)] w fun r w' => r = .returned (.int .i64 (m : Int)) ∧ w' = w := by
  have hz : ((n : Int) == 0) = false := beq_eq_false_iff_ne.2 (by omega)
  have hz1 : ¬ (n : Int) = 0 := by omega
  by_cases hc : c < 0
  · refine ⟨((-(c + 1)) % n).toNat, ?_, fun w => ?_⟩
    · have h3 := Int.emod_lt_of_pos (-(c + 1)) (by omega : (0 : Int) < n)
      have h4 := Int.emod_nonneg (-(c + 1)) (by omega : (n : Int) ≠ 0)
      omega
    · go_enter Tryz.func8, Tryz.ntmps8
      go_wp2_with fail
      go_ret
      exact ⟨by show Ending.returned (.int .i64 (-((c + 1).tmod n))) = _; rw [← Int.neg_tmod, Int.tmod_eq_emod_of_nonneg (by omega), Int.toNat_of_nonneg (Int.emod_nonneg _ (by omega))], rfl⟩
  · refine ⟨(c % n).toNat, ?_, fun w => ?_⟩
    · have h3 := Int.emod_lt_of_pos c (by omega : (0 : Int) < n)
      have h4 := Int.emod_nonneg c (by omega : (n : Int) ≠ 0)
      omega
    · go_enter Tryz.func8, Tryz.ntmps8
      go_wp2_with fail
      go_ret
      exact ⟨by show Ending.returned (.int .i64 (c % n)) = Ending.returned (.int .i64 (max (c % n) 0)); rw [Int.max_eq_left (Int.emod_nonneg _ (by omega))], rfl⟩
end Go.Proofs.YtfibgdcpbkaaoaaGreatDoor
