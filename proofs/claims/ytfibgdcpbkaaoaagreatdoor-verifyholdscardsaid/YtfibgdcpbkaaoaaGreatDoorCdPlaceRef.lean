/- The contract of the document's function that looks for an operation at a byte. -/
import Derived.Test.YtfibgdcpbkaaoaaGreatDoorCdPlace
namespace Go.Proofs.YtfibgdcpbkaaoaaGreatDoor.Cd
open Go.RowKit
set_option maxHeartbeats 400000 in
theorem placeOf_any (w : World) (b off cap : Nat) (l : List Op4) (n : Int) (h : Has w b off l) (hl : l.length ≤ 9223372036854775807) (_hlc : l.length ≤ cap) :
    Calls Tryz.prog 12 #[.slice (some ⟨b, off, none⟩) l.length cap, .int .i64 n] w fun r w' => r = .returned (.int .i64 (placeM l n)) ∧ w' = w := by
  go_enter Tryz.func12, Tryz.ntmps12
  go_wp2
  go_loop [5] (fun i => ∃ k : Nat, k ≤ l.length ∧ i = .int .i64 k ∧ Hid (place (l.drop k) n k = place l n 0)) (fun i => l.length - (intOf i).toNat)
  case atStart => exact ⟨0, Nat.zero_le _, rfl, rfl⟩
  case round =>
    obtain ⟨k, hk, rfl, HP⟩ := hrel
    by_cases hlt : k < l.length
    · have c0 := h.c0 k hlt
      by_cases he : (get4 l k).loc = n
      · have HE : Hid ((get4 l k).loc = n) := he
        have hb : ((get4 l k).loc == n) = true := by simp [he]
        clear he
        go_wp2
        go_ret
        refine ⟨?_, rfl⟩
        rw [placeM_some (HP.out.symm.trans (place_hit l n k hlt HE.out))]
        rfl
      · have hb : ((get4 l k).loc == n) = false := by simp [he]
        go_wp2
        go_round
        case rel => exact ⟨k + 1, by omega, by go_num, (place_miss l n k hlt he).symm.trans HP.out⟩
        case measure => simp [intOf]; omega
    · go_wp2
      go_ret
      refine ⟨?_, rfl⟩
      rw [placeM_none (HP.out.symm.trans (place_none l n k hlt))]
      rfl
end Go.Proofs.YtfibgdcpbkaaoaaGreatDoor.Cd
