/- Which operations go to a byte. -/
import Derived.Test.YtfibgdcpbkaaoaaGreatDoorChecked
import Derived.Test.YtfibgdcpbkaaoaaGreatDoorCdScan
import Derived.WalkLawsBesides
import Derived.WalkSpells
namespace Go.Proofs.YtfibgdcpbkaaoaaGreatDoor.Cd
set_option maxRecDepth 100000
open Go.RowKit
theorem cases37 (o : Nat) (h : o < 37) : o = 0 ∨ o = 1 ∨ o = 2 ∨ o = 3 ∨ o = 4 ∨ o = 5 ∨ o = 6 ∨ o = 7 ∨ o = 8 ∨ o = 9 ∨ o = 10 ∨ o = 11 ∨ o = 12 ∨ o = 13 ∨ o = 14 ∨ o = 15 ∨ o = 16 ∨ o = 17 ∨ o = 18 ∨ o = 19 ∨ o = 20 ∨ o = 21 ∨ o = 22 ∨ o = 23 ∨ o = 24 ∨ o = 25 ∨ o = 26 ∨ o = 27 ∨ o = 28 ∨ o = 29 ∨ o = 30 ∨ o = 31 ∨ o = 32 ∨ o = 33 ∨ o = 34 ∨ o = 35 ∨ o = 36 := by omega
set_option maxHeartbeats 4000000 in
theorem goesTo_any (w : World) (o : Nat) (ho : o < 37) : Calls Tryz.prog 11 #[.int .i64 o] w fun r w' => r = .returned (.bool (kOf o == 2)) ∧ w' = w := by
  obtain rfl | rfl | rfl | rfl | rfl | rfl | rfl | rfl | rfl | rfl | rfl | rfl | rfl | rfl | rfl | rfl | rfl | rfl | rfl | rfl | rfl | rfl | rfl | rfl | rfl | rfl | rfl | rfl | rfl | rfl | rfl | rfl | rfl | rfl | rfl | rfl | rfl := cases37 o ho
  all_goals
    clear ho
    go_enter Tryz.func11, Tryz.ntmps11
    go_wp2
    go_ret
    exact ⟨rfl, rfl⟩
end Go.Proofs.YtfibgdcpbkaaoaaGreatDoor.Cd
