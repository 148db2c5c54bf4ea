/- The contract of what must be in any case. -/
import Derived.Test.YtkpklkhkhhlifaaWrite
import Derived.Test.YtkpklkhkhhlifaaRead
import Derived.KernelRfl
namespace Go.Proofs.Ytkpklkhkhhlifaa
open Go.RowKit

def baseD : List ClassD := [⟨⟨#[79, 98, 106, 101, 99, 116]⟩, ⟨#[]⟩, [], [⟨⟨#[109, 97, 105, 110]⟩, true, [], ⟨0, ⟨#[]⟩⟩, 2, 0, ⟨#[1, 0, 7, 31, 27]⟩, []⟩]⟩,
  ⟨⟨#[69, 114, 114, 111, 114]⟩, ⟨#[79, 98, 106, 101, 99, 116]⟩, [⟨⟨#[99, 111, 100, 101]⟩, ⟨1, ⟨#[]⟩⟩⟩], []⟩]
theorem baseD_check : checkL baseD = 0 := by kernel_rfl
theorem baseD_write : (writeRes baseD).2 = 0 := by kernel_rfl
theorem baseD_read2 : (readRes ⟨(writeRes baseD).1.toArray⟩).2 = 0 := by kernel_rfl
theorem baseD_readLen : (readRes ⟨(writeRes baseD).1.toArray⟩).1.length = 2 := by kernel_rfl
theorem baseD_readSuper : ((readRes ⟨(writeRes baseD).1.toArray⟩).1[1]?.map fun c => c.super.data.toList) = some [79, 98, 106, 101, 99, 116] := by kernel_rfl
theorem baseD_size : (writeRes baseD).1.length ≤ 200 := of_decide_eq_true (by kernel_rfl)

set_option maxHeartbeats 1000000 in
theorem base_any (w : World) : Calls Try.prog 26 #[] w fun r w' => Below w.heap.size w w' ∧ ∃ v, r = .returned v ∧ SL 4 RC (· < w'.heap.size) w' v baseD := by
  go_enter Try.func26, Try.ntmps26
  go_wp2
  go_ret
  refine ⟨((((Below.refl _ _).alloc (Nat.le_refl _) _).alloc (by simp) _).alloc (by simp; omega) _), _, rfl, ?_⟩
  refine ⟨_, _, rfl, Nat.le_refl _, by unfold maxLen; simp [baseD], fun k hk => ?_⟩
  have hk2 : k < 2 := hk
  match k, hk2 with
  | 0, _ =>
    refine ⟨_, _, [.string ⟨#[79, 98, 106, 101, 99, 116]⟩, .string ⟨#[]⟩, .slice none 0 0, .slice (some ⟨w.heap.size, 0, none⟩) 1 1], rfl, by simp, by simp, rfl, fun j hj => ?_, ?_⟩
    · match j, hj with
      | 0, _ => simp [go_sem]
      | 1, _ => simp [go_sem]
      | 2, _ => simp [go_sem]
      | 3, _ => simp [go_sem]
    · refine ⟨_, _, rfl, ⟨none, 0, rfl, Nat.le_refl _, Nat.zero_le _, fun k hk => by cases hk⟩, ⟨some ⟨w.heap.size, 0, none⟩, 1, rfl, Nat.le_refl _, by unfold maxLen; simp [baseD], fun k hk => ?_⟩, of_decide_eq_true (by kernel_rfl), of_decide_eq_true (by kernel_rfl)⟩
      have hk0 : k < 1 := hk
      match k, hk0 with
      | 0, _ =>
        refine ⟨_, _, [.string ⟨#[109, 97, 105, 110]⟩, .bool true, .slice none 0 0, .int .i64 0, .string ⟨#[]⟩, .int .i64 2, .int .i64 0, .string ⟨#[1, 0, 7, 31, 27]⟩, .slice none 0 0], rfl, by simp; omega, by simp; omega, rfl, fun j hj => ?_, ?_⟩
        · match j, hj with
          | 0, _ => simp [go_sem]
          | 1, _ => simp [go_sem]
          | 2, _ => simp [go_sem]
          | 3, _ => simp [go_sem]
          | 4, _ => simp [go_sem]
          | 5, _ => simp [go_sem]
          | 6, _ => simp [go_sem]
          | 7, _ => simp [go_sem]
          | 8, _ => simp [go_sem]
        · exact ⟨_, _, rfl, ⟨none, 0, rfl, Nat.le_refl _, Nat.zero_le _, fun k hk => by cases hk⟩, ⟨none, 0, rfl, Nat.le_refl _, Nat.zero_le _, fun k hk => by cases hk⟩, of_decide_eq_true (by kernel_rfl), of_decide_eq_true (by kernel_rfl), of_decide_eq_true (by kernel_rfl)⟩
  | 1, _ =>
    refine ⟨_, _, [.string ⟨#[69, 114, 114, 111, 114]⟩, .string ⟨#[79, 98, 106, 101, 99, 116]⟩, .slice (some ⟨w.heap.size + 1, 0, none⟩) 1 1, .slice none 0 0], rfl, by simp, by simp, rfl, fun j hj => ?_, ?_⟩
    · match j, hj with
      | 0, _ => simp [go_sem]
      | 1, _ => simp [go_sem]
      | 2, _ => simp [go_sem]
      | 3, _ => simp [go_sem]
    · refine ⟨_, _, rfl, ⟨some ⟨w.heap.size + 1, 0, none⟩, 1, rfl, Nat.le_refl _, by unfold maxLen; simp [baseD], fun k hk => ?_⟩, ⟨none, 0, rfl, Nat.le_refl _, Nat.zero_le _, fun k hk => by cases hk⟩, of_decide_eq_true (by kernel_rfl), of_decide_eq_true (by kernel_rfl)⟩
      have hk0 : k < 1 := hk
      match k, hk0 with
      | 0, _ =>
        refine ⟨_, _, [.string ⟨#[99, 111, 100, 101]⟩, .int .i64 1, .string ⟨#[]⟩], rfl, by simp, by simp, rfl, fun j hj => ?_, ?_⟩
        · match j, hj with
          | 0, _ => simp [go_sem]
          | 1, _ => simp [go_sem]
          | 2, _ => simp [go_sem]
        · exact ⟨rfl, of_decide_eq_true (by kernel_rfl), of_decide_eq_true (by kernel_rfl)⟩

set_option maxHeartbeats 2000000 in
theorem imageBegun_any (w : World) : Calls Try.prog 9 #[] w fun r w' => r = .returned (.bool true) ∧ Below w.heap.size w w' := by
  have HW := mkHid baseD_write
  have HR2 := mkHid baseD_read2
  have HRL := mkHid baseD_readLen
  have HRS := mkHid baseD_readSuper
  have HSZ := mkHid baseD_size
  have HCK := mkHid baseD_check
  generalize hwr : writeRes baseD = wr0 at *
  obtain ⟨bs, e0⟩ := wr0
  have HWR := mkHid hwr
  clear hwr
  dsimp only at *
  go_enter Try.func9, Try.ntmps9
  go_wp2_with fail
  refine (base_any _).mono ?_
  rintro r w1 ⟨hb1, v, rfl, sv⟩
  have SV := mkHid sv
  obtain ⟨a, c, rfl, -⟩ := sv
  go_wp2_with fail
  refine (Write_any _ w1.heap.size baseD _ SV.out (Nat.le_refl _)).mono ?_
  rintro r w2 ⟨rfl, hb2⟩
  have hB2 := hb1.trans (hb2.mono hb1.size)
  rw [HWR.out]
  dsimp only
  have e00 : e0 = 0 := HW.out
  subst e00
  clear hb1 hb2 SV
  go_wp2_with fail
  refine (Read_any _ ⟨bs.toArray⟩ (by have := HSZ.out; unfold maxLen; show bs.length ≤ _; omega)).mono ?_
  rintro r w3 ⟨hb3, v3, rfl, s3⟩
  have hB3 := hB2.trans (hb3.mono hB2.size)
  generalize hrr : readRes ⟨bs.toArray⟩ = rr at *
  obtain ⟨l3, e3⟩ := rr
  dsimp only at *
  have e30 : e3 = 0 := HR2.out
  subst e30
  have hl3 : l3.length = 2 := HRL.out
  clear hb3 hB2 hrr
  have S3 := mkHid s3
  obtain ⟨a3, c3, rfl, -⟩ := s3
  obtain ⟨b3, off3, vf, vm, rfl, hbl, x0, x1, -⟩ := S3.out.atC 1 (by omega)
  have hsup : l3[1].super = ⟨#[79, 98, 106, 101, 99, 116]⟩ := by
    have h := HRS.out
    rw [List.getElem?_eq_getElem (by omega)] at h
    have h2 : l3[1].super.data.toList = [79, 98, 106, 101, 99, 116] := Option.some.inj h
    apply ByteArray.ext
    apply Array.toList_inj.1
    exact h2
  rw [hsup] at x1
  have x1' : w3.cell? ⟨b3, off3 + 5, none⟩ = some (.string ⟨#[79, 98, 106, 101, 99, 116]⟩) := x1
  have hl2 : ((l3.length : Int) == 2) = true := by rw [hl3]; rfl
  have hl4 : (1 : Int) < l3.length := by omega
  clear HRS HRL HR2 S3 hsup
  go_wp2_with fail
  refine (base_any _).mono ?_
  rintro r w4 ⟨hb4, v, rfl, sv⟩
  have SV := mkHid sv
  obtain ⟨a, c, rfl, -⟩ := sv
  have hB4 := hB3.trans (hb4.mono hB3.size)
  clear hB3 hb4
  go_wp2_with fail
  refine (Check_any _ w4.heap.size baseD _ SV.out (Nat.le_refl _)).mono ?_
  rintro r w5 ⟨rfl, hb5⟩
  rw [HCK.out]
  have hB5 := hB4.trans (hb5.mono hB4.size)
  clear hB4 hb5 SV
  go_wp2_with fail
  go_ret
  exact ⟨rfl, hB5⟩
end Go.Proofs.Ytkpklkhkhhlifaa
