/- The law ImageWrites, walked. -/
import Derived.Test.YtkpklkhkhhlifaaBegun
import Derived.Test.YtkpklkhkhhlifaaRefClass
import Derived.Test.YtkpklkhkhhlifaaImageOf
namespace Go.Proofs.Ytkpklkhkhhlifaa
open Go.RowKit

theorem textIs2_any (w : World) (s want : ByteArray) (e : Int) (h0 : e = 0 → want = s) (h1 : ¬ e = 0 → s = ⟨#[]⟩) : Calls Try.prog 11 #[.string s, .int .i64 e, .int .i64 e, .string want] w fun r w' => r = .returned (.bool true) ∧ w' = w := by
  by_cases he : e = 0
  · obtain rfl := h0 he
    subst he
    clear h0 h1
    go_enter Try.func11, Try.ntmps11
    go_wp2
    go_ret
    exact ⟨by simp, rfl⟩
  · have hs := h1 he
    subst hs
    have hne : (e != 0) = true := by rw [bne_iff_ne]; exact he
    clear h0 h1 he
    go_enter Try.func11, Try.ntmps11
    go_wp2
    go_ret
    exact ⟨by simp, rfl⟩

set_option maxRecDepth 100000 in
set_option maxHeartbeats 4000000 in
theorem imageWrites_any (w : World) (v : Value) (l : List ClassD) (hv : SL 4 RC (· < w.heap.size) w v l) :
    Calls Try.prog 3 #[v] w fun r w' => r = .returned (.bool true) ∧ Below w.heap.size w w' := by
  have HV := mkHid hv
  obtain ⟨ao, cl, rfl, -⟩ := hv
  go_enter Try.func3, Try.ntmps3
  go_wp2_with fail
  refine (Write_any _ w.heap.size l _ HV.out (Nat.le_refl _)).mono ?_
  rintro r w1 ⟨rfl, hB1⟩
  generalize hwr : writeRes l = wr at *
  obtain ⟨bs, e⟩ := wr
  dsimp only
  have HWR := mkHid hwr
  clear hwr
  go_wp2_with fail
  refine (checkClassesOf_any _ w.heap.size l _ (HV.out.keptC (Kp.below hB1)) hB1.size).mono ?_
  rintro r w2 ⟨rfl, hb2⟩
  have hB2 := hB1.trans (hb2.mono hB1.size)
  clear hB1 hb2
  by_cases hc : checkL l = 0
  · have hc' : (checkL l == 0) = true := by rw [hc]; rfl
    have HC := mkHid hc
    go_wp2_with fail
    refine (imageOf_any _ w.heap.size l _ (HV.out.keptC (Kp.below hB2)) hB2.size hc).mono ?_
    rintro r w3 ⟨rfl, hb3⟩
    have hB3 := hB2.trans (hb3.mono hB2.size)
    clear hB2 hb3 hc
    by_cases hlong : 20000 < (wImage l).length
    · have hlong' : (20000 : Int) < (wImage l).length := by omega
      have hee := HWR.out.symm.trans (writeRes_long HC.out hlong)
      obtain ⟨rfl, rfl⟩ := Prod.mk.inj hee
      clear hee hlong
      go_wp2_with fail
      refine (imageBegun_any _).mono ?_
      rintro r w4 ⟨rfl, hb4⟩
      have hB4 := hB3.trans (hb4.mono hB3.size)
      clear hB3 hb4
      go_wp2_with fail
      refine (Check_any _ w.heap.size l _ (HV.out.keptC (Kp.below hB4)) hB4.size).mono ?_
      rintro r w5 ⟨rfl, hb5⟩
      have hB5 := hB4.trans (hb5.mono hB4.size)
      clear hB4 hb5
      go_wp2_with fail
      refine (textIs2_any _ _ _ _ (fun h => by cases h) (fun _ => rfl)).mono ?_
      rintro r w6 ⟨rfl, rfl⟩
      go_wp2_with fail
      go_ret
      exact ⟨rfl, hB5⟩
    · have hlong' : ¬ (20000 : Int) < (wImage l).length := by omega
      have hee := HWR.out.symm.trans (writeRes_ok HC.out hlong)
      obtain ⟨rfl, rfl⟩ := Prod.mk.inj hee
      clear hee hlong
      go_wp2_with fail
      refine (imageBegun_any _).mono ?_
      rintro r w4 ⟨rfl, hb4⟩
      have hB4 := hB3.trans (hb4.mono hB3.size)
      clear hB3 hb4
      go_wp2_with fail
      refine (Check_any _ w.heap.size l _ (HV.out.keptC (Kp.below hB4)) hB4.size).mono ?_
      rintro r w5 ⟨rfl, hb5⟩
      have hB5 := hB4.trans (hb5.mono hB4.size)
      clear hB4 hb5
      rw [HC.out]
      go_wp2_with fail
      refine (textIs2_any _ _ _ _ (fun _ => rfl) (fun h => absurd rfl h)).mono ?_
      rintro r w6 ⟨rfl, rfl⟩
      go_wp2_with fail
      go_ret
      exact ⟨rfl, hB5⟩
  · have hc' : (checkL l == 0) = false := by rw [beq_eq_false_iff_ne]; exact hc
    have hee := HWR.out.symm.trans (writeRes_no hc)
    obtain ⟨rfl, rfl⟩ := Prod.mk.inj hee
    have HC := mkHid hc
    clear hee hc
    go_wp2_with fail
    refine (imageBegun_any _).mono ?_
    rintro r w4 ⟨rfl, hb4⟩
    have hB4 := hB2.trans (hb4.mono hB2.size)
    clear hB2 hb4
    go_wp2_with fail
    refine (Check_any _ w.heap.size l _ (HV.out.keptC (Kp.below hB4)) hB4.size).mono ?_
    rintro r w5 ⟨rfl, hb5⟩
    have hB5 := hB4.trans (hb5.mono hB4.size)
    clear hB4 hb5
    go_wp2_with fail
    refine (textIs2_any _ _ _ _ (fun h => absurd h HC.out) (fun _ => rfl)).mono ?_
    rintro r w6 ⟨rfl, rfl⟩
    go_wp2_with fail
    go_ret
    exact ⟨rfl, hB5⟩
end Go.Proofs.Ytkpklkhkhhlifaa
