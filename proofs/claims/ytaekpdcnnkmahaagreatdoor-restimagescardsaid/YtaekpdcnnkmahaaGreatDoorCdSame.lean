/- The contract of SameIns, where both lists are the same. -/
import Derived.Test.YtaekpdcnnkmahaaGreatDoorCdPlace
import Derived.BigQuiet
import Derived.Deep.QuietTactic
namespace Go.Proofs.YtaekpdcnnkmahaaGreatDoor.Cd
open Go.RowKit

theorem same_nil (w : World) (a b : Option Addr) (c d : Nat) : Calls Tryz.prog 16 #[.slice a 0 c, .slice b 0 d] w fun r w' => r = .returned (.bool true) ∧ ∃ n, w' = w.drewN n := by
  go_enter Tryz.func16, Tryz.ntmps16
  go_wp2
  go_loop [5] (fun i => i = .int .i64 0) (fun _ => 0)
  case atStart => rfl
  case round =>
    obtain rfl := hrel
    go_wp2
    go_ret
    exact ⟨rfl, 0, rfl⟩

theorem same_some (w : World) (b off cap b' off' cap' : Nat) (l : List Op4) (h : Has w b off l) (h' : Has w b' off' l) (hl : l.length ≤ 9223372036854775807) :
    Calls Tryz.prog 16 #[.slice (some ⟨b, off, none⟩) l.length cap, .slice (some ⟨b', off', none⟩) l.length cap'] w fun r w' => r = .returned (.bool true) ∧ ∃ n, w' = w.drewN n := by
  go_enter Tryz.func16, Tryz.ntmps16
  go_wp2
  go_loopw [5] (fun i wr => ∃ k : Nat, k ≤ l.length ∧ i = .int .i64 k ∧ ∃ n, wr = w.drewN n) (fun i _ => l.length - (intOf i).toNat)
  case atStart => exact ⟨0, Nat.zero_le _, rfl, 0, rfl⟩
  case round =>
    obtain ⟨k, hk, rfl, n, rfl⟩ := hrel
    by_cases hlt : k < l.length
    · have c0 := h.c0 k hlt
      have c1 := h.c1 k hlt
      have c2 := h.c2 k hlt
      have c3 := h.c3 k hlt
      have d0 := h'.c0 k hlt
      have d1 := h'.c1 k hlt
      have d2 := h'.c2 k hlt
      have d3 := h'.c3 k hlt
      go_wp2
      go_quiet (fail)
      go_wp2
      go_roundw
      case rel => exact ⟨k + 1, by omega, by go_num, _, rfl⟩
      case measure => simp [intOf]; omega
    · go_wp2
      go_ret
      exact ⟨rfl, n, rfl⟩

theorem same_any (w : World) (u v : Value) (l : List Op4) (h : Holds4 w u l) (h' : Holds4 w v l) (hl : l.length ≤ 9223372036854775807) :
    Calls Tryz.prog 16 #[u, v] w fun r w' => r = .returned (.bool true) ∧ ∃ n, w' = w.drewN n := by
  rcases h with ⟨ao, c, rfl, rfl⟩ | ⟨b, off, c, rfl, hc, h⟩
  · rcases h' with ⟨ao', c', rfl, _⟩ | ⟨b', off', c', rfl, hc', h'⟩
    · exact same_nil w _ _ _ _
    · exact same_nil w _ _ _ _
  · rcases h' with ⟨ao', c', rfl, rfl⟩ | ⟨b', off', c', rfl, hc', h'⟩
    · exact same_nil w _ _ _ _
    · exact same_some w b off c b' off' c' l h h' hl
end Go.Proofs.YtaekpdcnnkmahaaGreatDoor.Cd
