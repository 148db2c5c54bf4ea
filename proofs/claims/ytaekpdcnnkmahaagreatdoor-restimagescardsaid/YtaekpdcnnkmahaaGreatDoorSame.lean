/- The contracts of SameKinds and SameFields, where both lists are the same. -/
import Derived.Test.YtaekpdcnnkmahaaGreatDoorJChkLeafChkClass
import Derived.Test.YtaekpdcnnkmahaaGreatDoorGrown
import Derived.Test.YtaekpdcnnkmahaaGreatDoorGrow
namespace Go.Proofs.YtaekpdcnnkmahaaGreatDoor
open Go.RowKit

set_option maxHeartbeats 1000000 in
theorem sameKinds_any (w : World) (u v : Value) (l : List KindD) (hu : SL 2 RK (· < w.heap.size) w u l) (hv : SL 2 RK (· < w.heap.size) w v l) :
    Calls Tryz.prog 55 #[u, v] w fun r w' => r = .returned (.bool true) ∧ ∃ n, w' = w.drewN n := by
  have HU := mkHid hu
  have HV := mkHid hv
  obtain ⟨au, cu, rfl, _, hl, -⟩ := hu
  obtain ⟨av, cv, rfl, -⟩ := hv
  unfold maxLen at hl
  go_enter Tryz.func55, Tryz.ntmps55
  go_wp2
  go_loopw [5] (fun i wr => ∃ k : Nat, k ≤ l.length ∧ i = .int .i64 k ∧ ∃ n, wr = w.drewN n) (fun i _ => l.length - (intOf i).toNat)
  case atStart => exact ⟨0, Nat.zero_le _, rfl, 0, rfl⟩
  case round =>
    obtain ⟨k, hk, rfl, n, rfl⟩ := hrel
    by_cases hlt : k < l.length
    · obtain ⟨b, off, rfl, _, c0, c1, _⟩ := HU.out.atK k hlt
      obtain ⟨b', off', rfl, _, d0, d1, _⟩ := HV.out.atK k hlt
      go_wp2
      go_quiet (fail)
      go_wp2
      go_roundw
      case rel => exact ⟨k + 1, by omega, by go_num, _, rfl⟩
      case measure => simp [intOf]; omega
    · go_wp2
      go_ret
      exact ⟨rfl, n, rfl⟩

set_option maxHeartbeats 1000000 in
theorem sameFields_any (w : World) (u v : Value) (l : List FieldD) (hu : SL 3 RF (· < w.heap.size) w u l) (hv : SL 3 RF (· < w.heap.size) w v l) :
    Calls Tryz.prog 54 #[u, v] w fun r w' => r = .returned (.bool true) ∧ ∃ n, w' = w.drewN n := by
  have HU := mkHid hu
  have HV := mkHid hv
  obtain ⟨au, cu, rfl, _, hl, -⟩ := hu
  obtain ⟨av, cv, rfl, -⟩ := hv
  unfold maxLen at hl
  go_enter Tryz.func54, Tryz.ntmps54
  go_wp2
  go_loopw [5] (fun i wr => ∃ k : Nat, k ≤ l.length ∧ i = .int .i64 k ∧ ∃ n, wr = w.drewN n) (fun i _ => l.length - (intOf i).toNat)
  case atStart => exact ⟨0, Nat.zero_le _, rfl, 0, rfl⟩
  case round =>
    obtain ⟨k, hk, rfl, n, rfl⟩ := hrel
    by_cases hlt : k < l.length
    · obtain ⟨b, off, rfl, _, c0, c1, c2, _⟩ := HU.out.atF k hlt
      obtain ⟨b', off', rfl, _, d0, d1, d2, _⟩ := HV.out.atF k hlt
      go_wp2
      go_quiet (fail)
      go_wp2
      go_roundw
      case rel => exact ⟨k + 1, by omega, by go_num, _, rfl⟩
      case measure => simp [intOf]; omega
    · go_wp2
      go_ret
      exact ⟨rfl, n, rfl⟩
end Go.Proofs.YtaekpdcnnkmahaaGreatDoor
