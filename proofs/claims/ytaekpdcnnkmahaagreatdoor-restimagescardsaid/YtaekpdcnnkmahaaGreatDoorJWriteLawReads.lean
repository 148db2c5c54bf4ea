/- The contract of Write. -/
import Derived.Test.YtaekpdcnnkmahaaGreatDoorJCatchLAsk
import Derived.Test.YtaekpdcnnkmahaaGreatDoorJWrMethWrClass
import Derived.Test.YtaekpdcnnkmahaaGreatDoorFine
import Derived.Test.YtaekpdcnnkmahaaGreatDoorJRdClassRead
import Derived.KernelRfl
import Derived.Test.YtaekpdcnnkmahaaGreatDoorJSameCLRf6
import Derived.Test.YtaekpdcnnkmahaaGreatDoorCo
namespace Go.Proofs.YtaekpdcnnkmahaaGreatDoor
open Go.RowKit

theorem writeRes_no {l : List ClassD} (h : checkL l ≠ 0) : writeRes l = ([], checkL l) := by rw [writeRes, if_neg h]
theorem writeRes_long {l : List ClassD} (h : checkL l = 0) (h2 : 20000 < (wImage l).length) : writeRes l = ([], 2) := by rw [writeRes, if_pos h, if_pos h2]
theorem writeRes_ok {l : List ClassD} (h : checkL l = 0) (h2 : ¬ 20000 < (wImage l).length) : writeRes l = (wImage l, 0) := by rw [writeRes, if_pos h, if_neg h2]

set_option maxRecDepth 100000 in
set_option maxHeartbeats 1000000 in
theorem Write_any (w : World) (B : Nat) (l : List ClassD) (v : Value) (hv : SL 4 RC (· < B) w v l) (hB : B ≤ w.heap.size) :
    Calls Tryz.prog 20 #[v] w fun r w' => r = .returned (.tuple #[.string ⟨(writeRes l).1.toArray⟩, .int .i64 (writeRes l).2]) ∧ Below w.heap.size w w' := by
  have hmf : ∀ (fn : Fn) (first cap : Array Value) (w : World), (Instr.makeFunc fn first cap).run Tryz.prog w = .ok (.func fn first cap) w := fun _ _ _ _ => rfl
  have HV := mkHid hv
  obtain ⟨ao, cl, rfl, hcl, hll, -⟩ := hv
  go_enter Tryz.func20, Tryz.ntmps20
  go_wp2_with fail
  refine (Check_any _ B l _ HV.out hB).mono ?_
  rintro r w1 ⟨rfl, hB1⟩
  by_cases hc : checkL l = 0
  · have hc' : (checkL l != 0) = false := by rw [hc]; rfl
    have hbound := image_bound hc
    have HC := mkHid hc
    clear hc
    have hs1 := hB1.size
    have hB2 : Below w.heap.size w (w1.alloc (.cells #[.slice none 0 0] 115)) := hB1.alloc hs1 _
    have hbd : Bd (w1.alloc (.cells #[.slice none 0 0] 115)) w1.heap.size (w1.heap.size + 1) [] := ⟨⟨.slice none 0 0, by simp [go_sem], World.ownsRow_nil _ _ _ _⟩, by simp [go_sem], by omega, by simp⟩
    have HBD := mkHid hbd
    have HB2 := mkHid hB2
    clear hbd hB2
    go_wp2_with fail
    refine (writeCountedC _ w1.heap.size (w1.heap.size + 1) B [] l _ (HV.out.keptC (Kp.below (HB2.out.mono hB))) (by omega) HBD.out (by rw [show wCounted wClass l = wImage l from rfl]; simp; omega)).mono ?_
    rintro r w2 ⟨rfl, hk2, hb2⟩
    have hB3 : Below w.heap.size w w2 := HB2.out.trans (hk2.toBelow.mono (by omega))
    rw [List.nil_append, show wCounted wClass l = wImage l from rfl] at hb2
    clear hk2 HBD HB2 hB1
    go_wp2_with fail
    refine (len_b _ _ _ _ hb2).mono ?_
    rintro r w3 ⟨rfl, rfl⟩
    by_cases hlong : 20000 < (wImage l).length
    · have hlong' : (20000 : Int) < (wImage l).length := by omega
      have HR := mkHid (writeRes_long HC.out hlong)
      clear hlong hc'
      go_wp2_with fail
      go_ret2
      exact ⟨by rw [HR.out]; rfl, hB3⟩
    · have hlong' : ¬ (20000 : Int) < (wImage l).length := by omega
      have HR := mkHid (writeRes_ok HC.out hlong)
      clear hlong hc'
      go_wp2_with fail
      refine (string_b _ _ _ _ hb2).mono ?_
      rintro r w4 ⟨rfl, rfl⟩
      go_wp2_with fail
      go_ret2
      exact ⟨by rw [HR.out]; rfl, hB3⟩
  · have hc' : (checkL l != 0) = true := by rw [bne_iff_ne]; exact hc
    have HR := mkHid (writeRes_no hc)
    clear hc
    go_wp2_with fail
    go_ret2
    exact ⟨by rw [HR.out]; rfl, hB1⟩
end Go.Proofs.YtaekpdcnnkmahaaGreatDoor
/- The contract of what must be in any case. -/
namespace Go.Proofs.YtaekpdcnnkmahaaGreatDoor
set_option maxRecDepth 100000
open Go.RowKit

def baseD : List ClassD := [⟨⟨#[79, 98, 106, 101, 99, 116]⟩, ⟨#[]⟩, [], [⟨⟨#[109, 97, 105, 110]⟩, true, [], ⟨0, ⟨#[]⟩⟩, 2, 0, ⟨#[1, 0, 7, 31, 27]⟩, []⟩]⟩,
  ⟨⟨#[69, 114, 114, 111, 114]⟩, ⟨#[79, 98, 106, 101, 99, 116]⟩, [⟨⟨#[99, 111, 100, 101]⟩, ⟨1, ⟨#[]⟩⟩⟩], []⟩]
theorem baseD_check : checkL baseD = 0 := by kernel_rfl
theorem baseD_write : (writeRes baseD).2 = 0 := by kernel_rfl
theorem baseD_read2 : (readRes ⟨(writeRes baseD).1.toArray⟩).2 = 0 := by kernel_rfl
theorem baseD_readLen : (readRes ⟨(writeRes baseD).1.toArray⟩).1.length = 2 := by kernel_rfl
theorem baseD_readSuper : ((readRes ⟨(writeRes baseD).1.toArray⟩).1[1]?.map fun c => c.super.data.toList) = some [79, 98, 106, 101, 99, 116] := by kernel_rfl
theorem baseD_size : (writeRes baseD).1.length ≤ 200 := of_decide_eq_true (by kernel_rfl)

set_option maxHeartbeats 1000000 in
theorem base_any (w : World) : Calls Tryz.prog 21 #[] w fun r w' => Below w.heap.size w w' ∧ ∃ v, r = .returned v ∧ SL 4 RC (· < w'.heap.size) w' v baseD := by
  go_enter Tryz.func21, Tryz.ntmps21
  go_wp2
  go_ret
  refine ⟨((((Below.refl _ _).alloc (Nat.le_refl _) _).alloc (by simp) _).alloc (by simp; omega) _), _, rfl, ?_⟩
  refine ⟨_, _, rfl, Nat.le_refl _, by unfold maxLen; simp [baseD], fun k hk => ?_⟩
  have hk2 : k < 2 := hk
  match k, hk2 with
  | 0, _ =>
    refine ⟨_, _, [.string ⟨#[79, 98, 106, 101, 99, 116]⟩, .string ⟨#[]⟩, .slice none 0 0, .slice (some ⟨w.heap.size, 0, none⟩) 1 1], rfl, by simp, by simp, rfl, fun j hj => ?_, ?_⟩
    · match j, hj with
      | 0, _ => simp [go_sem]
      | 1, _ => simp [go_sem]
      | 2, _ => simp [go_sem]
      | 3, _ => simp [go_sem]
    · refine ⟨_, _, rfl, ⟨none, 0, rfl, Nat.le_refl _, Nat.zero_le _, fun k hk => by cases hk⟩, ⟨some ⟨w.heap.size, 0, none⟩, 1, rfl, Nat.le_refl _, by unfold maxLen; simp [baseD], fun k hk => ?_⟩, of_decide_eq_true (by kernel_rfl), of_decide_eq_true (by kernel_rfl)⟩
      have hk0 : k < 1 := hk
      match k, hk0 with
      | 0, _ =>
        refine ⟨_, _, [.string ⟨#[109, 97, 105, 110]⟩, .bool true, .slice none 0 0, .int .i64 0, .string ⟨#[]⟩, .int .i64 2, .int .i64 0, .string ⟨#[1, 0, 7, 31, 27]⟩, .slice none 0 0], rfl, by simp; omega, by simp; omega, rfl, fun j hj => ?_, ?_⟩
        · match j, hj with
          | 0, _ => simp [go_sem]
          | 1, _ => simp [go_sem]
          | 2, _ => simp [go_sem]
          | 3, _ => simp [go_sem]
          | 4, _ => simp [go_sem]
          | 5, _ => simp [go_sem]
          | 6, _ => simp [go_sem]
          | 7, _ => simp [go_sem]
          | 8, _ => simp [go_sem]
        · exact ⟨_, _, rfl, ⟨none, 0, rfl, Nat.le_refl _, Nat.zero_le _, fun k hk => by cases hk⟩, ⟨none, 0, rfl, Nat.le_refl _, Nat.zero_le _, fun k hk => by cases hk⟩, of_decide_eq_true (by kernel_rfl), of_decide_eq_true (by kernel_rfl), of_decide_eq_true (by kernel_rfl)⟩
  | 1, _ =>
    refine ⟨_, _, [.string ⟨#[69, 114, 114, 111, 114]⟩, .string ⟨#[79, 98, 106, 101, 99, 116]⟩, .slice (some ⟨w.heap.size + 1, 0, none⟩) 1 1, .slice none 0 0], rfl, by simp, by simp, rfl, fun j hj => ?_, ?_⟩
    · match j, hj with
      | 0, _ => simp [go_sem]
      | 1, _ => simp [go_sem]
      | 2, _ => simp [go_sem]
      | 3, _ => simp [go_sem]
    · refine ⟨_, _, rfl, ⟨some ⟨w.heap.size + 1, 0, none⟩, 1, rfl, Nat.le_refl _, by unfold maxLen; simp [baseD], fun k hk => ?_⟩, ⟨none, 0, rfl, Nat.le_refl _, Nat.zero_le _, fun k hk => by cases hk⟩, of_decide_eq_true (by kernel_rfl), of_decide_eq_true (by kernel_rfl)⟩
      have hk0 : k < 1 := hk
      match k, hk0 with
      | 0, _ =>
        refine ⟨_, _, [.string ⟨#[99, 111, 100, 101]⟩, .int .i64 1, .string ⟨#[]⟩], rfl, by simp, by simp, rfl, fun j hj => ?_, ?_⟩
        · match j, hj with
          | 0, _ => simp [go_sem]
          | 1, _ => simp [go_sem]
          | 2, _ => simp [go_sem]
        · exact ⟨rfl, of_decide_eq_true (by kernel_rfl), of_decide_eq_true (by kernel_rfl)⟩

set_option maxHeartbeats 2000000 in
theorem imageBegun_any (w : World) : Calls Tryz.prog 4 #[] w fun r w' => r = .returned (.bool true) ∧ Below w.heap.size w w' := by
  have HW := mkHid baseD_write
  have HR2 := mkHid baseD_read2
  have HRL := mkHid baseD_readLen
  have HRS := mkHid baseD_readSuper
  have HSZ := mkHid baseD_size
  have HCK := mkHid baseD_check
  generalize hwr : writeRes baseD = wr0 at *
  obtain ⟨bs, e0⟩ := wr0
  have HWR := mkHid hwr
  clear hwr
  dsimp only at *
  go_enter Tryz.func4, Tryz.ntmps4
  go_wp2_with fail
  refine (base_any _).mono ?_
  rintro r w1 ⟨hb1, v, rfl, sv⟩
  have SV := mkHid sv
  obtain ⟨a, c, rfl, -⟩ := sv
  go_wp2_with fail
  refine (Write_any _ w1.heap.size baseD _ SV.out (Nat.le_refl _)).mono ?_
  rintro r w2 ⟨rfl, hb2⟩
  have hB2 := hb1.trans (hb2.mono hb1.size)
  rw [HWR.out]
  dsimp only
  have e00 : e0 = 0 := HW.out
  subst e00
  clear hb1 hb2 SV
  go_wp2_with fail
  refine (Read_any _ ⟨bs.toArray⟩ (by have := HSZ.out; unfold maxLen; show bs.length ≤ _; omega)).mono ?_
  rintro r w3 ⟨hb3, v3, rfl, s3⟩
  have hB3 := hB2.trans (hb3.mono hB2.size)
  generalize hrr : readRes ⟨bs.toArray⟩ = rr at *
  obtain ⟨l3, e3⟩ := rr
  dsimp only at *
  have e30 : e3 = 0 := HR2.out
  subst e30
  have hl3 : l3.length = 2 := HRL.out
  clear hb3 hB2 hrr
  have S3 := mkHid s3
  obtain ⟨a3, c3, rfl, -⟩ := s3
  obtain ⟨b3, off3, vf, vm, rfl, hbl, x0, x1, -⟩ := S3.out.atC 1 (by omega)
  have hsup : l3[1].super = ⟨#[79, 98, 106, 101, 99, 116]⟩ := by
    have h := HRS.out
    rw [List.getElem?_eq_getElem (by omega)] at h
    have h2 : l3[1].super.data.toList = [79, 98, 106, 101, 99, 116] := Option.some.inj h
    apply ByteArray.ext
    apply Array.toList_inj.1
    exact h2
  rw [hsup] at x1
  have x1' : w3.cell? ⟨b3, off3 + 5, none⟩ = some (.string ⟨#[79, 98, 106, 101, 99, 116]⟩) := x1
  have hl2 : ((l3.length : Int) == 2) = true := by rw [hl3]; rfl
  have hl4 : (1 : Int) < l3.length := by omega
  clear HRS HRL HR2 S3 hsup
  go_wp2_with fail
  refine (base_any _).mono ?_
  rintro r w4 ⟨hb4, v, rfl, sv⟩
  have SV := mkHid sv
  obtain ⟨a, c, rfl, -⟩ := sv
  have hB4 := hB3.trans (hb4.mono hB3.size)
  clear hB3 hb4
  go_wp2_with fail
  refine (Check_any _ w4.heap.size baseD _ SV.out (Nat.le_refl _)).mono ?_
  rintro r w5 ⟨rfl, hb5⟩
  rw [HCK.out]
  have hB5 := hB4.trans (hb5.mono hB4.size)
  clear hB4 hb5 SV
  go_wp2_with fail
  go_ret
  exact ⟨rfl, hB5⟩
end Go.Proofs.YtaekpdcnnkmahaaGreatDoor
/- The law ImageReads, walked. -/
namespace Go.Proofs.YtaekpdcnnkmahaaGreatDoor
set_option maxRecDepth 100000
open Go.RowKit

set_option maxRecDepth 100000 in
theorem classesOf_any (w : World) (s : ByteArray) (_hs : s.size ≤ maxLen) :
    Calls Tryz.prog 7 #[.string s] w fun r w' => Below w.heap.size w w' ∧ ∃ v, r = .returned (.tuple #[v, .int .i64 (readRes s).2]) ∧ SL 4 RC (· < w'.heap.size) w' v (readRes s).1 := by
  by_cases h : s.size ≤ 20000
  · exact classesOf_go w s h
  · have h1 : (20000 : Int) < s.size := by omega
    have HR := mkHid (readRes_long (s := s) (by omega))
    clear h
    go_enter Tryz.func7, Tryz.ntmps7
    go_wp2_with fail
    go_ret2
    exact ⟨Below.refl _ _, _, by rw [HR.out]; rfl, by rw [HR.out]; exact SL_nil⟩

end Go.Proofs.YtaekpdcnnkmahaaGreatDoor
