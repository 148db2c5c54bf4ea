/- The law ImageReads, walked. -/
import Derived.Test.YtkpklkhkhhlifaaBegun
import Derived.Test.YtkpklkhkhhlifaaSameC
import Derived.Test.YtkpklkhkhhlifaaCo
namespace Go.Proofs.Ytkpklkhkhhlifaa
open Go.RowKit

set_option maxRecDepth 100000 in
theorem classesOf_any (w : World) (s : ByteArray) (_hs : s.size ≤ maxLen) :
    Calls Try.prog 13 #[.string s] w fun r w' => Below w.heap.size w w' ∧ ∃ v, r = .returned (.tuple #[v, .int .i64 (readRes s).2]) ∧ SL 4 RC (· < w'.heap.size) w' v (readRes s).1 := by
  by_cases h : s.size ≤ 20000
  · exact classesOf_go w s h
  · have h1 : (20000 : Int) < s.size := by omega
    have HR := mkHid (readRes_long (s := s) (by omega))
    clear h
    go_enter Try.func13, Try.ntmps13
    go_wp2_with fail
    go_ret2
    exact ⟨Below.refl _ _, _, by rw [HR.out]; rfl, by rw [HR.out]; exact SL_nil⟩

set_option maxRecDepth 100000 in
set_option maxHeartbeats 4000000 in
theorem imageReads_any (w : World) (s : ByteArray) (hs : s.size ≤ maxLen) :
    Calls Try.prog 4 #[.string s] w fun r w' => r = .returned (.bool true) ∧ Below w.heap.size w w' := by
  go_enter Try.func4, Try.ntmps4
  go_wp2_with fail
  refine (Read_any _ s hs).mono ?_
  rintro r w1 ⟨hB1, v1, rfl, s1⟩
  have S1 := mkHid s1
  have HS := mkHid hs
  clear hs
  generalize hrr : readRes s = rr at *
  obtain ⟨l, e⟩ := rr
  dsimp only at *
  obtain ⟨a1, c1, rfl, -⟩ := s1
  have HRR := mkHid hrr
  clear hrr
  go_wp2_with fail
  refine (classesOf_any _ s HS.out).mono ?_
  rintro r w2 ⟨hb2, v2, rfl, s2⟩
  rw [HRR.out] at s2 ⊢
  dsimp only at *
  have S2 := mkHid s2
  obtain ⟨a2, c2, rfl, -⟩ := s2
  have hB2 := hB1.trans (hb2.mono hB1.size)
  have S1' := mkHid ((S1.out.keptC (Kp.below hb2)).monoC (M' := (· < w2.heap.size)) fun _ hk => Nat.lt_of_lt_of_le hk hb2.size)
  clear hb2 hB1 S1
  have hee : (e == e) = true := beq_self_eq_true e
  go_wp2_with fail
  refine (imageBegun_any _).mono ?_
  rintro r w3 ⟨rfl, hb3⟩
  have hB3 := hB2.trans (hb3.mono hB2.size)
  go_wp2_with fail
  refine (sameClasses_any _ _ _ l ((S1'.out.keptC (Kp.below hb3)).monoC fun _ hk => Nat.lt_of_lt_of_le hk hb3.size) ((S2.out.keptC (Kp.below hb3)).monoC fun _ hk => Nat.lt_of_lt_of_le hk hb3.size)).mono ?_
  rintro r w4 ⟨rfl, hb4⟩
  have hB4 := hB3.trans (hb4.mono hB3.size)
  clear hb3 hb4 hB2 hB3 S1' S2
  go_wp2_with fail
  go_ret
  exact ⟨by simp, hB4⟩
end Go.Proofs.Ytkpklkhkhhlifaa
