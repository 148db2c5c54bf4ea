/- The law ImageBack, walked. -/
import Derived.Test.YtkpklkhkhhlifaaBegun
import Derived.Test.YtkpklkhkhhlifaaRefOf
import Derived.Test.YtkpklkhkhhlifaaSameC
import Derived.Test.YtkpklkhkhhlifaaBackPure2
namespace Go.Proofs.Ytkpklkhkhhlifaa
open Go.RowKit

set_option maxRecDepth 100000 in
set_option maxHeartbeats 4000000 in
theorem imageBack_any (w : World) (v : Value) (l : List ClassD) (s : ByteArray) (hv : SL 4 RC (· < w.heap.size) w v l) (hs : s.size ≤ maxLen) :
    Calls Try.prog 5 #[v, .string s] w fun r w' => r = .returned (.bool true) ∧ Below w.heap.size w w' := by
  have HV := mkHid hv
  obtain ⟨ao, cl, rfl, -⟩ := hv
  go_enter Try.func5, Try.ntmps5
  go_wp2_with fail
  refine (imageBegun_any _).mono ?_
  rintro r w1 ⟨rfl, hB1⟩
  go_wp2_with fail
  refine (Write_any _ w.heap.size l _ (HV.out.keptC (Kp.below hB1)) hB1.size).mono ?_
  rintro r w2 ⟨rfl, hb2⟩
  have hB2 := hB1.trans (hb2.mono hB1.size)
  have HRW := mkHid (fun h => read_write (l := l) h)
  have HSZ : Hid ((writeRes l).1.length ≤ 20000) := by
    show (writeRes l).1.length ≤ 20000
    unfold writeRes
    split
    · split
      · exact Nat.zero_le _
      · dsimp only
        omega
    · exact Nat.zero_le _
  generalize hwr : writeRes l = wr at *
  obtain ⟨bs, e⟩ := wr
  dsimp only at *
  clear hwr hB1 hb2
  by_cases he : e = 0
  · have he' : (e == 0) = true := by rw [he]; rfl
    have hrw := HRW.out he
    have HRW2 := mkHid hrw
    clear hrw HRW he
    go_wp2_with fail
    refine (Read_any _ ⟨bs.toArray⟩ (by have := HSZ.out; unfold maxLen; show bs.length ≤ _; omega)).mono ?_
    rintro r w3 ⟨hb3, v3, rfl, s3⟩
    have hB3 := hB2.trans (hb3.mono hB2.size)
    rw [HRW2.out] at s3
    rw [HRW2.out]
    dsimp only at *
    have S3 := mkHid s3
    obtain ⟨a3, c3, rfl, -⟩ := s3
    clear hb3 hB2
    go_wp2_with fail
    refine (sameClasses_any _ _ _ l ((HV.out.keptC (Kp.below hB3)).monoC fun _ hk => Nat.lt_of_lt_of_le hk hB3.size) S3.out).mono ?_
    rintro r w4 ⟨rfl, hb4⟩
    have HB := hB3.trans (hb4.mono hB3.size)
    clear hb4 hB3 S3
    go_wp2_with fail
    refine (Read_any _ s hs).mono ?_
    rintro r WA ⟨hbA, vA, rfl, sA⟩
    have hBA := HB.trans (hbA.mono HB.size)
    have HWR2 := mkHid (fun h => write_read (s := s) h)
    generalize hrr : readRes s = rr at *
    obtain ⟨l2, e2⟩ := rr
    dsimp only at *
    clear hrr hbA
    have SA := mkHid sA
    obtain ⟨a2, c2, rfl, -⟩ := sA
    by_cases he2 : e2 = 0
    · have he2' : (e2 != 0) = false := by rw [he2]; rfl
      have hw2 := HWR2.out he2
      have HW2 := mkHid hw2
      clear hw2 HWR2 he2
      go_wp2_with fail
      refine (Write_any _ _ l2 _ SA.out (Nat.le_refl _)).mono ?_
      rintro r WB ⟨rfl, hbB⟩
      have hBB := hBA.trans (hbB.mono hBA.size)
      rw [HW2.out]
      dsimp only
      have es : (⟨s.data.toList.toArray⟩ : ByteArray) = s := (Bx_data s).symm
      rw [es]
      clear hbB hBA es
      go_wp2_with fail
      go_ret
      exact ⟨by simp, hBB⟩
    · have he2' : (e2 != 0) = true := by rw [bne_iff_ne]; exact he2
      clear HWR2 he2
      go_wp2_with fail
      go_ret
      exact ⟨rfl, hBA⟩
  · have he' : (e == 0) = false := by rw [beq_eq_false_iff_ne]; exact he
    have HB := hB2
    clear HRW he hB2
    go_wp2_with fail
    refine (Read_any _ s hs).mono ?_
    rintro r WA ⟨hbA, vA, rfl, sA⟩
    have hBA := HB.trans (hbA.mono HB.size)
    have HWR2 := mkHid (fun h => write_read (s := s) h)
    generalize hrr : readRes s = rr at *
    obtain ⟨l2, e2⟩ := rr
    dsimp only at *
    clear hrr hbA
    have SA := mkHid sA
    obtain ⟨a2, c2, rfl, -⟩ := sA
    by_cases he2 : e2 = 0
    · have he2' : (e2 != 0) = false := by rw [he2]; rfl
      have hw2 := HWR2.out he2
      have HW2 := mkHid hw2
      clear hw2 HWR2 he2
      go_wp2_with fail
      refine (Write_any _ _ l2 _ SA.out (Nat.le_refl _)).mono ?_
      rintro r WB ⟨rfl, hbB⟩
      have hBB := hBA.trans (hbB.mono hBA.size)
      rw [HW2.out]
      dsimp only
      have es : (⟨s.data.toList.toArray⟩ : ByteArray) = s := (Bx_data s).symm
      rw [es]
      clear hbB hBA es
      go_wp2_with fail
      go_ret
      exact ⟨by simp, hBB⟩
    · have he2' : (e2 != 0) = true := by rw [bne_iff_ne]; exact he2
      clear HWR2 he2
      go_wp2_with fail
      go_ret
      exact ⟨rfl, hBA⟩
end Go.Proofs.Ytkpklkhkhhlifaa
