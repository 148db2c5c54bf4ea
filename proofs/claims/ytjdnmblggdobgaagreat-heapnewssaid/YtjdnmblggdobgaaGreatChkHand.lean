/- The contract of the check of a handler. -/
import Derived.Test.YtjdnmblggdobgaaGreatChkKind
namespace Go.Proofs.YtjdnmblggdobgaaGreat
open Go.RowKit

theorem chk_no {c e : Int} (h : c = e) (he : e ≠ 0) : ChkOut c (.panicked [wrongV e 0]) := Or.inl ⟨by rw [h]; exact he, by rw [h]⟩
theorem chk_ok {c : Int} (h : c = 0) : ChkOut c (.returned (.tuple #[])) := Or.inr ⟨h, rfl⟩

set_option maxHeartbeats 400000 in
theorem checkHandler_any (w : World) (h : HandD) (hs : h.cls.size ≤ maxLen) :
    Calls Tryz.prog 315 #[.agg #[.int .i64 h.frm, .int .i64 h.upto, .int .i64 h.loc, .string h.cls]] w fun r w' => ChkOut (checkHand h) r ∧ Below w.heap.size w w' := by
  obtain ⟨a, b, c, s⟩ := h
  dsimp only at *
  have hB := (Below.refl w.heap.size w).alloc (Nat.le_refl _) (.cells #[.int .i64 a, .int .i64 b, .int .i64 c, .string s] 248)
  have HX : Hid (checkHand ⟨a, b, c, s⟩ = dem (isNameB s) 1 (dem (win a 200) 3 (dem (win b 200) 3 (dem (win c 200) 3 0)))) := rfl
  go_enter Tryz.func315, Tryz.ntmps315
  go_wp2_with fail
  refine (isName_any _ _ hs).mono ?_
  rintro r w1 ⟨rfl, rfl⟩
  go_wp2_with fail
  refine (demand_any _ _ _).mono ?_
  rintro r w1 ⟨rfl, ⟨hb, rfl⟩ | ⟨hb, rfl⟩⟩
  · exact ⟨rfl, chk_no (by rw [HX.out, hb, dem_false]) (by decide), hB⟩
  have HX1 := mkHid (HX.out.trans (by rw [hb, dem_true]))
  clear hb HX
  go_wp2_with fail
  refine (within_any _ _ _).mono ?_
  rintro r w1 ⟨rfl, rfl⟩
  go_wp2_with fail
  refine (demand_any _ _ _).mono ?_
  rintro r w1 ⟨rfl, ⟨hb, rfl⟩ | ⟨hb, rfl⟩⟩
  · exact ⟨rfl, chk_no (by rw [HX1.out, hb, dem_false]) (by decide), hB⟩
  have HX2 := mkHid (HX1.out.trans (by rw [hb, dem_true]))
  clear hb HX1
  go_wp2_with fail
  refine (within_any _ _ _).mono ?_
  rintro r w1 ⟨rfl, rfl⟩
  go_wp2_with fail
  refine (demand_any _ _ _).mono ?_
  rintro r w1 ⟨rfl, ⟨hb, rfl⟩ | ⟨hb, rfl⟩⟩
  · exact ⟨rfl, chk_no (by rw [HX2.out, hb, dem_false]) (by decide), hB⟩
  have HX3 := mkHid (HX2.out.trans (by rw [hb, dem_true]))
  clear hb HX2
  go_wp2_with fail
  refine (within_any _ _ _).mono ?_
  rintro r w1 ⟨rfl, rfl⟩
  go_wp2_with fail
  refine (demand_any _ _ _).mono ?_
  rintro r w1 ⟨rfl, ⟨hb, rfl⟩ | ⟨hb, rfl⟩⟩
  · exact ⟨rfl, chk_no (by rw [HX3.out, hb, dem_false]) (by decide), hB⟩
  have HX4 := mkHid (HX3.out.trans (by rw [hb, dem_true]))
  clear hb HX3
  go_wp2
  go_end0
  exact ⟨chk_ok HX4.out, hB⟩
end Go.Proofs.YtjdnmblggdobgaaGreat
