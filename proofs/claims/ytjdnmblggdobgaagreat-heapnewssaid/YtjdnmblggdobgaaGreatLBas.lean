/- The contract of what must be in any case, of linked classes. -/
import Derived.Test.YtjdnmblggdobgaaGreatJLLkLChk
import Derived.KernelRfl
namespace Go.Proofs.YtjdnmblggdobgaaGreat
open Go.RowKit Go.Maps

def baseD : List ClassD := [⟨⟨#[79, 98, 106, 101, 99, 116]⟩, ⟨#[]⟩, [], [⟨⟨#[109, 97, 105, 110]⟩, true, [], ⟨0, ⟨#[]⟩⟩, 2, 0, ⟨#[1, 0, 7, 31, 27]⟩, []⟩]⟩,
  ⟨⟨#[69, 114, 114, 111, 114]⟩, ⟨#[79, 98, 106, 101, 99, 116]⟩, [⟨⟨#[99, 111, 100, 101]⟩, ⟨1, ⟨#[]⟩⟩⟩], []⟩]
theorem base_tie : tieRes baseD = 0 := by kernel_rfl
theorem base_len : (linkD baseD).supers.length = 2 ∧ (linkD baseD).fields.length = 2 := ⟨by kernel_rfl, by kernel_rfl⟩

set_option maxHeartbeats 1000000 in
theorem base_any (w : World) : Calls Tryz.prog 50 #[] w fun r w' => Below w.heap.size w w' ∧ ∃ v, r = .returned v ∧ SL 4 RC (· < w'.heap.size) w' v baseD := by
  go_enter Tryz.func50, Tryz.ntmps50
  go_wp2
  go_ret
  refine ⟨((((Below.refl _ _).alloc (Nat.le_refl _) _).alloc (by simp) _).alloc (by simp; omega) _), _, rfl, ?_⟩
  refine ⟨_, _, rfl, Nat.le_refl _, by unfold maxLen; simp [baseD], fun k hk => ?_⟩
  have hk2 : k < 2 := hk
  match k, hk2 with
  | 0, _ =>
    refine ⟨_, _, [.string ⟨#[79, 98, 106, 101, 99, 116]⟩, .string ⟨#[]⟩, .slice none 0 0, .slice (some ⟨w.heap.size, 0, none⟩) 1 1], rfl, by simp, by simp, rfl, fun j hj => ?_, ?_⟩
    · match j, hj with
      | 0, _ => simp [go_sem]
      | 1, _ => simp [go_sem]
      | 2, _ => simp [go_sem]
      | 3, _ => simp [go_sem]
    · refine ⟨_, _, rfl, ⟨none, 0, rfl, Nat.le_refl _, Nat.zero_le _, fun k hk => by cases hk⟩, ⟨some ⟨w.heap.size, 0, none⟩, 1, rfl, Nat.le_refl _, by unfold maxLen; simp [baseD], fun k hk => ?_⟩, of_decide_eq_true (by kernel_rfl), of_decide_eq_true (by kernel_rfl)⟩
      have hk0 : k < 1 := hk
      match k, hk0 with
      | 0, _ =>
        refine ⟨_, _, [.string ⟨#[109, 97, 105, 110]⟩, .bool true, .slice none 0 0, .int .i64 0, .string ⟨#[]⟩, .int .i64 2, .int .i64 0, .string ⟨#[1, 0, 7, 31, 27]⟩, .slice none 0 0], rfl, by simp; omega, by simp; omega, rfl, fun j hj => ?_, ?_⟩
        · match j, hj with
          | 0, _ => simp [go_sem]
          | 1, _ => simp [go_sem]
          | 2, _ => simp [go_sem]
          | 3, _ => simp [go_sem]
          | 4, _ => simp [go_sem]
          | 5, _ => simp [go_sem]
          | 6, _ => simp [go_sem]
          | 7, _ => simp [go_sem]
          | 8, _ => simp [go_sem]
        · exact ⟨_, _, rfl, ⟨none, 0, rfl, Nat.le_refl _, Nat.zero_le _, fun k hk => by cases hk⟩, ⟨none, 0, rfl, Nat.le_refl _, Nat.zero_le _, fun k hk => by cases hk⟩, of_decide_eq_true (by kernel_rfl), of_decide_eq_true (by kernel_rfl), of_decide_eq_true (by kernel_rfl)⟩
  | 1, _ =>
    refine ⟨_, _, [.string ⟨#[69, 114, 114, 111, 114]⟩, .string ⟨#[79, 98, 106, 101, 99, 116]⟩, .slice (some ⟨w.heap.size + 1, 0, none⟩) 1 1, .slice none 0 0], rfl, by simp, by simp, rfl, fun j hj => ?_, ?_⟩
    · match j, hj with
      | 0, _ => simp [go_sem]
      | 1, _ => simp [go_sem]
      | 2, _ => simp [go_sem]
      | 3, _ => simp [go_sem]
    · refine ⟨_, _, rfl, ⟨some ⟨w.heap.size + 1, 0, none⟩, 1, rfl, Nat.le_refl _, by unfold maxLen; simp [baseD], fun k hk => ?_⟩, ⟨none, 0, rfl, Nat.le_refl _, Nat.zero_le _, fun k hk => by cases hk⟩, of_decide_eq_true (by kernel_rfl), of_decide_eq_true (by kernel_rfl)⟩
      have hk0 : k < 1 := hk
      match k, hk0 with
      | 0, _ =>
        refine ⟨_, _, [.string ⟨#[99, 111, 100, 101]⟩, .int .i64 1, .string ⟨#[]⟩], rfl, by simp, by simp, rfl, fun j hj => ?_, ?_⟩
        · match j, hj with
          | 0, _ => simp [go_sem]
          | 1, _ => simp [go_sem]
          | 2, _ => simp [go_sem]
        · exact ⟨rfl, of_decide_eq_true (by kernel_rfl), of_decide_eq_true (by kernel_rfl)⟩


end Go.Proofs.YtjdnmblggdobgaaGreat
