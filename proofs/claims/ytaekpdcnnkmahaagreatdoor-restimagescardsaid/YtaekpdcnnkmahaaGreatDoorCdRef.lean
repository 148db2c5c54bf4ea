/- The contracts of the document's small functions on operations. -/
import Derived.Test.YtaekpdcnnkmahaaGreatDoorChecked
import Derived.Test.YtaekpdcnnkmahaaGreatDoorCdScan
import Derived.WalkLawsBesides
import Derived.WalkSpells
namespace Go.Proofs.YtaekpdcnnkmahaaGreatDoor.Cd
open Go.RowKit

theorem cases37 (o : Nat) (h : o < 37) : o = 0 ∨ o = 1 ∨ o = 2 ∨ o = 3 ∨ o = 4 ∨ o = 5 ∨ o = 6 ∨ o = 7 ∨ o = 8 ∨ o = 9 ∨ o = 10 ∨ o = 11 ∨ o = 12 ∨ o = 13 ∨ o = 14 ∨ o = 15 ∨ o = 16 ∨ o = 17 ∨ o = 18 ∨ o = 19 ∨ o = 20 ∨ o = 21 ∨ o = 22 ∨ o = 23 ∨ o = 24 ∨ o = 25 ∨ o = 26 ∨ o = 27 ∨ o = 28 ∨ o = 29 ∨ o = 30 ∨ o = 31 ∨ o = 32 ∨ o = 33 ∨ o = 34 ∨ o = 35 ∨ o = 36 := by omega

set_option maxHeartbeats 4000000 in
theorem behindOf_yes (w : World) (o : Nat) (ho : o < 37) : Calls Tryz.prog 31 #[.int .i64 o] w fun r w' => r = .returned (.int .i64 (mOf (kOf o))) ∧ w' = w := by
  obtain rfl | rfl | rfl | rfl | rfl | rfl | rfl | rfl | rfl | rfl | rfl | rfl | rfl | rfl | rfl | rfl | rfl | rfl | rfl | rfl | rfl | rfl | rfl | rfl | rfl | rfl | rfl | rfl | rfl | rfl | rfl | rfl | rfl | rfl | rfl | rfl | rfl := cases37 o ho
  all_goals
    clear ho
    go_enter Tryz.func31, Tryz.ntmps31
    go_wp2
    go_ret
    exact ⟨rfl, rfl⟩

set_option maxHeartbeats 1000000 in
theorem behindOf_not (w : World) (n : Int) (hn : n < 0 ∨ 37 ≤ n) : Calls Tryz.prog 31 #[.int .i64 n] w fun r w' => r = .returned (.int .i64 (-1)) ∧ w' = w := by
  have b1 : (n == 1) = false := beq_eq_false_iff_ne.2 (by omega)
  have b13 : (n == 13) = false := beq_eq_false_iff_ne.2 (by omega)
  have b14 : (n == 14) = false := beq_eq_false_iff_ne.2 (by omega)
  have b15 : (n == 15) = false := beq_eq_false_iff_ne.2 (by omega)
  have b16 : (n == 16) = false := beq_eq_false_iff_ne.2 (by omega)
  have b17 : (n == 17) = false := beq_eq_false_iff_ne.2 (by omega)
  have b19 : (n == 19) = false := beq_eq_false_iff_ne.2 (by omega)
  have b20 : (n == 20) = false := beq_eq_false_iff_ne.2 (by omega)
  have b26 : (n == 26) = false := beq_eq_false_iff_ne.2 (by omega)
  have b34 : (n == 34) = false := beq_eq_false_iff_ne.2 (by omega)
  have b3 : (n == 3) = false := beq_eq_false_iff_ne.2 (by omega)
  have b4 : (n == 4) = false := beq_eq_false_iff_ne.2 (by omega)
  have b18 : (n == 18) = false := beq_eq_false_iff_ne.2 (by omega)
  have b22 : (n == 22) = false := beq_eq_false_iff_ne.2 (by omega)
  have b29 : (n == 29) = false := beq_eq_false_iff_ne.2 (by omega)
  have b30 : (n == 30) = false := beq_eq_false_iff_ne.2 (by omega)
  rcases hn with hn | hn
  · go_enter Tryz.func31, Tryz.ntmps31
    go_wp2
    go_ret
    exact ⟨rfl, rfl⟩
  · have h0 : ¬ n < 0 := by omega
    have h1 : 36 < n := by omega
    go_enter Tryz.func31, Tryz.ntmps31
    go_wp2
    go_ret
    exact ⟨rfl, rfl⟩

set_option maxHeartbeats 4000000 in
theorem byItself_any (w : World) (o : Nat) (ho : o < 37) : Calls Tryz.prog 32 #[.int .i64 o] w fun r w' => r = .returned (.bool (kOf o == 4)) ∧ w' = w := by
  obtain rfl | rfl | rfl | rfl | rfl | rfl | rfl | rfl | rfl | rfl | rfl | rfl | rfl | rfl | rfl | rfl | rfl | rfl | rfl | rfl | rfl | rfl | rfl | rfl | rfl | rfl | rfl | rfl | rfl | rfl | rfl | rfl | rfl | rfl | rfl | rfl | rfl := cases37 o ho
  all_goals
    clear ho
    go_enter Tryz.func32, Tryz.ntmps32
    go_wp2
    go_ret
    exact ⟨rfl, rfl⟩

set_option maxHeartbeats 4000000 in
theorem goesTo_any (w : World) (o : Nat) (ho : o < 37) : Calls Tryz.prog 33 #[.int .i64 o] w fun r w' => r = .returned (.bool (kOf o == 2)) ∧ w' = w := by
  obtain rfl | rfl | rfl | rfl | rfl | rfl | rfl | rfl | rfl | rfl | rfl | rfl | rfl | rfl | rfl | rfl | rfl | rfl | rfl | rfl | rfl | rfl | rfl | rfl | rfl | rfl | rfl | rfl | rfl | rfl | rfl | rfl | rfl | rfl | rfl | rfl | rfl := cases37 o ho
  all_goals
    clear ho
    go_enter Tryz.func33, Tryz.ntmps33
    go_wp2
    go_ret
    exact ⟨rfl, rfl⟩
end Go.Proofs.YtaekpdcnnkmahaaGreatDoor.Cd
