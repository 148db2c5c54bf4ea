/- The contract of the decoder's method that reads one operation: where it gives up. -/
import Derived.Test.YtkhconnebiiboaaGreatDoorCdIns
import Derived.Test.YtkhconnebiiboaaGreatDoorCdDies
namespace Go.Proofs.YtkhconnebiiboaaGreatDoor.Cd
set_option maxRecDepth 100000
open Go.RowKit

theorem grown_drew {w W : World} {b : Nat} (h : w.grownBy W (some b)) : w.grownBy W.drew (some b) := ⟨h.os, h.tape, h.output, h.size, h.block⟩

set_option maxHeartbeats 1000000 in
theorem ins_kind (w : World) (b : Nat) (s : ByteArray) (p : Nat) (h : Rd w b s p) (hs : s.size ≤ maxLen) (hp : p < s.size) (o : Nat) (ho : ¬ (o : Int) < 37) (hso : Hid (bt s p = o)) :
    Calls Tryz.prog 171 #[.pointer (some ⟨b, 0, none⟩)] w fun r w' => r = .panicked [wrongV 7 p] ∧ w.grownBy w' (some b) := by
  have hs' := hs
  unfold maxLen at hs'
  have hb := h.lt
  have HG := World.grownBy.refl w (some b)
  go_enter Tryz.func171, Tryz.ntmps171
  go_wp2_with fail
  refine (at_any _ b s p ?_).mono ?_
  · exact h.alloc _
  rintro r w' ⟨rfl, rfl⟩
  go_wp2_with fail
  refine (count_ok _ b s p ?_ hs hp).mono ?_
  · exact (h.alloc _).alloc _
  rintro r w' ⟨rfl, q, rfl⟩
  rw [hso.out]
  go_wp2_with fail
  refine wp_region_dies_lit (fun chain w' => chain = [wrongV 7 p] ∧ w.grownBy w' (some b)) (by kernel_rfl) (by kernel_rfl) rfl (by simp only [List.dropLast]; rfl) ?_ ?_
  · rintro chain a' w' hd ⟨rfl, hg⟩
    exact ⟨hd, rfl, hg⟩
  · repeat (go_big_quiet_step ((go_at_call 197; exact Calls.quiet_of_same (isOp_not _ _ (by omega)))))
    refine wpQuiet_nil ?_
    refine ⟨rfl, ?_⟩
    rintro w' ⟨n, rfl⟩
    go_simp
    refine ⟨rfl, (demand_no _ _ _).mono ?_⟩
    rintro e w' ⟨rfl, rfl⟩
    refine ⟨_, rfl, rfl, ?_⟩
    exact grown_drewN (grown_set (grown_drewN (grown_alloc (grown_alloc (grown_set HG _ _ (by simp)) _) _) _) _ _ (by simp)) _

set_option maxHeartbeats 1000000 in
theorem ins_short (w : World) (b : Nat) (s : ByteArray) (p : Nat) (h : Rd w b s p) (hs : s.size ≤ maxLen) (hp : p < s.size) (o k : Nat) (ho : o < 37) (hso : Hid (bt s p = o)) (hk : k < 5)
    (ht : w.cell? ⟨6, o, none⟩ = some (.int .i64 k)) (hr : w.cell? ⟨5, k * 4, none⟩ = some (.int .i64 (mOf k))) (h0b : 6 < b) (hm : ¬ p + 1 + mOf k ≤ s.size) :
    Calls Tryz.prog 171 #[.pointer (some ⟨b, 0, none⟩)] w fun r w' => r = .panicked [wrongV 1 p] ∧ w.grownBy w' (some b) := by
  have hs' := hs
  unfold maxLen at hs'
  have hb := h.lt
  have hpc : ((p : Int) + 1) = ((p + 1 : Nat) : Int) := by omega
  have HP : Hid (((p : Int) + 1) = ((p + 1 : Nat) : Int)) := hpc
  have HM : Hid (¬ p + 1 + mOf k ≤ s.size) := hm
  clear hpc hm
  go_enter Tryz.func171, Tryz.ntmps171
  go_wp2_with fail
  refine (at_any _ b s p ?_).mono ?_
  · exact h.alloc _
  rintro r w' ⟨rfl, rfl⟩
  go_wp2_with fail
  refine (count_ok _ b s p ?_ hs hp).mono ?_
  · exact (h.alloc _).alloc _
  rintro r w' ⟨rfl, q, rfl⟩
  rw [hso.out]
  go_wp2_with fail
  go_cut [] (fun W => Mid w W b s p o)
  case first =>
    go_quiet (first | (go_at_call 197; exact Calls.quiet_of_same (isOp_yes _ _ (by omega) (by omega))) | (go_at_call 52; exact Calls.quiet_of_same (demand_ok _ _ _)))
    go_wp2_with fail
    go_meet
    exact mid_start w b s p o h _ _ HP.out
  case rest =>
    have hw0 : wc.cell? ⟨6, o, none⟩ = some (.int .i64 k) := hcut.grown.cell ht (by simp; omega)
    have hw1 : wc.cell? ⟨5, k * 4, none⟩ = some (.int .i64 (mOf k)) := hcut.grown.cell hr (by simp; omega)
    obtain ⟨HG, g2, x0, x1, x2, x3, xf, r0, r1, r2, r3, rf, z⟩ := hcut
    go_wp2_with fail
    refine wp_region_dies_lit (fun chain w' => chain = [wrongV 1 p] ∧ w.grownBy w' (some b)) (by kernel_rfl) (by kernel_rfl) rfl (by simp only [List.dropLast]; rfl) ?_ ?_
    · rintro chain a' w' hd ⟨rfl, hg⟩
      exact ⟨hd, rfl, hg⟩
    · repeat (go_big_quiet_step ((go_at_call 194; exact Calls.quiet_of (left_any _ b s (p + 1) (g2.drewN _) (by omega) hs))))
      refine wpQuiet_nil ?_
      refine ⟨rfl, ?_⟩
      rintro w' ⟨n, rfl⟩
      go_simp
      refine ⟨rfl, (demand_not _ (by have := HM.out; simp; omega) _ _ _).mono ?_⟩
      rintro e w' ⟨rfl, rfl⟩
      exact ⟨_, rfl, rfl, grown_drewN HG _⟩
end Go.Proofs.YtkhconnebiiboaaGreatDoor.Cd
