/- The contract of Write. -/
import Derived.Test.YtkpklkhkhhlifaaCatch
import Derived.Test.YtkpklkhkhhlifaaWrClass
import Derived.Test.YtkpklkhkhhlifaaFine
namespace Go.Proofs.Ytkpklkhkhhlifaa
open Go.RowKit

theorem writeRes_no {l : List ClassD} (h : checkL l ≠ 0) : writeRes l = ([], checkL l) := by rw [writeRes, if_neg h]
theorem writeRes_long {l : List ClassD} (h : checkL l = 0) (h2 : 20000 < (wImage l).length) : writeRes l = ([], 2) := by rw [writeRes, if_pos h, if_pos h2]
theorem writeRes_ok {l : List ClassD} (h : checkL l = 0) (h2 : ¬ 20000 < (wImage l).length) : writeRes l = (wImage l, 0) := by rw [writeRes, if_pos h, if_neg h2]

set_option maxRecDepth 100000 in
set_option maxHeartbeats 1000000 in
theorem Write_any (w : World) (B : Nat) (l : List ClassD) (v : Value) (hv : SL 4 RC (· < B) w v l) (hB : B ≤ w.heap.size) :
    Calls Try.prog 6 #[v] w fun r w' => r = .returned (.tuple #[.string ⟨(writeRes l).1.toArray⟩, .int .i64 (writeRes l).2]) ∧ Below w.heap.size w w' := by
  have hmf : ∀ (fn : Fn) (first cap : Array Value) (w : World), (Instr.makeFunc fn first cap).run Try.prog w = .ok (.func fn first cap) w := fun _ _ _ _ => rfl
  have HV := mkHid hv
  obtain ⟨ao, cl, rfl, hcl, hll, -⟩ := hv
  go_enter Try.func6, Try.ntmps6
  go_wp2_with fail
  refine (Check_any _ B l _ HV.out hB).mono ?_
  rintro r w1 ⟨rfl, hB1⟩
  by_cases hc : checkL l = 0
  · have hc' : (checkL l != 0) = false := by rw [hc]; rfl
    have hbound := image_bound hc
    have HC := mkHid hc
    clear hc
    have hs1 := hB1.size
    have hB2 : Below w.heap.size w (w1.alloc (.cells #[.slice none 0 0] 40)) := hB1.alloc hs1 _
    have hbd : Bd (w1.alloc (.cells #[.slice none 0 0] 40)) w1.heap.size (w1.heap.size + 1) [] := ⟨⟨.slice none 0 0, by simp [go_sem], World.ownsRow_nil _ _ _ _⟩, by simp [go_sem], by omega, by simp⟩
    have HBD := mkHid hbd
    have HB2 := mkHid hB2
    clear hbd hB2
    go_wp2_with fail
    refine (writeCountedC _ w1.heap.size (w1.heap.size + 1) B [] l _ (HV.out.keptC (Kp.below (HB2.out.mono hB))) (by omega) HBD.out (by rw [show wCounted wClass l = wImage l from rfl]; simp; omega)).mono ?_
    rintro r w2 ⟨rfl, hk2, hb2⟩
    have hB3 : Below w.heap.size w w2 := HB2.out.trans (hk2.toBelow.mono (by omega))
    rw [List.nil_append, show wCounted wClass l = wImage l from rfl] at hb2
    clear hk2 HBD HB2 hB1
    go_wp2_with fail
    refine (len_b _ _ _ _ hb2).mono ?_
    rintro r w3 ⟨rfl, rfl⟩
    by_cases hlong : 20000 < (wImage l).length
    · have hlong' : (20000 : Int) < (wImage l).length := by omega
      have HR := mkHid (writeRes_long HC.out hlong)
      clear hlong hc'
      go_wp2_with fail
      go_ret2
      exact ⟨by rw [HR.out]; rfl, hB3⟩
    · have hlong' : ¬ (20000 : Int) < (wImage l).length := by omega
      have HR := mkHid (writeRes_ok HC.out hlong)
      clear hlong hc'
      go_wp2_with fail
      refine (string_b _ _ _ _ hb2).mono ?_
      rintro r w4 ⟨rfl, rfl⟩
      go_wp2_with fail
      go_ret2
      exact ⟨by rw [HR.out]; rfl, hB3⟩
  · have hc' : (checkL l != 0) = true := by rw [bne_iff_ne]; exact hc
    have HR := mkHid (writeRes_no hc)
    clear hc
    go_wp2_with fail
    go_ret2
    exact ⟨by rw [HR.out]; rfl, hB1⟩
end Go.Proofs.Ytkpklkhkhhlifaa
