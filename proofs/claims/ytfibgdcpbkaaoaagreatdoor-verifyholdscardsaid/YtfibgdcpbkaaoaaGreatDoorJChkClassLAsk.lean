/- The contracts of the check of classes. -/
import Derived.Test.YtfibgdcpbkaaoaaGreatDoorJChkLeafChkMeth
import Derived.Test.YtfibgdcpbkaaoaaGreatDoorGrown
import Derived.Test.YtfibgdcpbkaaoaaGreatDoorLDat
import Derived.Maps.Own
import Derived.Maps.OwnOps
import Derived.Maps.OwnSet
import Derived.Maps.Views
import Derived.StringKeys
import Derived.Deep.WholeRow
import Derived.Deep.MidRow
namespace Go.Proofs.YtfibgdcpbkaaoaaGreatDoor
open Go.RowKit
theorem chk_field_no1 {f : FieldD} (h : isNameB f.name = false) : checkField f = 1 := by rw [checkField, h, dem_false]
theorem chk_field_no2 {f : FieldD} (h : isNameB f.name = true) (h2 : rightB f.kind = false) : checkField f = 7 := by rw [checkField, h, dem_true, h2, dem_false]
theorem chk_field_ok {f : FieldD} (h : isNameB f.name = true) (h2 : rightB f.kind = true) : checkField f = 0 := by rw [checkField, h, dem_true, h2, dem_true]
set_option maxHeartbeats 4000000 in
theorem checkClass_any (w : World) (B : Nat) (c : ClassD) (vf vm : Value) (hf : SL 3 RF (· < B) w vf c.fields) (hm : SL 9 RM (· < B) w vm c.meths) (hB : B ≤ w.heap.size) (hs1 : c.name.size ≤ maxLen) (hs2 : c.super.size ≤ maxLen) :
    Calls Tryz.prog 111 #[.agg #[.string c.name, .string c.super, vf, vm]] w fun r w' => ChkOut (checkClass c) r ∧ Below w.heap.size w w' := by
  obtain ⟨name, super, fields, meths⟩ := c
  dsimp only at *
  have HF := mkHid hf
  have HM := mkHid hm
  obtain ⟨fo, cf, rfl, hcf, hlf, _⟩ := hf
  obtain ⟨mo, cm, rfl, hcm, hlm, _⟩ := hm
  unfold maxLen at hlf hlm
  have e0 := size0 super
  have HX0 : Hid (checkClass ⟨name, super, fields, meths⟩ = dem (isNameB name) 1 (dem (decide (super.size = 0) || isNameB super) 1 (dem (decide (fields.length ≤ 6)) 2 (dem (decide (meths.length ≤ 8)) 2 (thenE (allE checkField fields) (allE checkMeth meths)))))) := rfl
  generalize checkClass ⟨name, super, fields, meths⟩ = X at *
  go_enter Tryz.func111, Tryz.ntmps111
  go_wp2_with fail
  generalize hW : w.alloc (.cells #[.string name, .string super, .slice fo fields.length cf, .slice mo meths.length cm] 37) = W0
  have hz : W0.heap.size = w.heap.size + 1 := by rw [← hW]; simp
  have hB0 : Below w.heap.size w W0 := by rw [← hW]; exact (Below.refl w.heap.size w).alloc (Nat.le_refl _) _
  have c0 : W0.cell? ⟨w.heap.size, 0, none⟩ = some (.string name) := by rw [← hW]; simp [go_sem]
  have c1 : W0.cell? ⟨w.heap.size, 1, none⟩ = some (.string super) := by rw [← hW]; simp [go_sem]
  have c2 : W0.cell? ⟨w.heap.size, 2, none⟩ = some (.slice fo fields.length cf) := by rw [← hW]; simp [go_sem]
  have c3 : W0.cell? ⟨w.heap.size, 3, none⟩ = some (.slice mo meths.length cm) := by rw [← hW]; simp [go_sem]
  clear hW
  refine (isName_any _ _ hs1).mono ?_
  rintro r w1 ⟨rfl, rfl⟩
  go_wp2_with fail
  refine (demand_any _ _ _).mono ?_
  rintro r w1 ⟨rfl, ⟨hb, rfl⟩ | ⟨hb, rfl⟩⟩
  · exact ⟨rfl, chk_no (by rw [HX0.out, hb, dem_false]) (by decide), hB0⟩
  have HX1 := mkHid (HX0.out.trans (by rw [hb, dem_true]))
  clear hb HX0
  by_cases hq : super.size = 0
  · have HX2 := mkHid (HX1.out.trans (by rw [decide_eq_true hq, Bool.true_or, dem_true]))
    have e1 : super.toList.isEmpty = true := by rw [e0, decide_eq_true hq]
    clear HX1 hq e0
    go_wp2_with fail
    refine (demand_any _ _ _).mono ?_
    rintro r w1 ⟨rfl, ⟨hb, rfl⟩ | ⟨hb, rfl⟩⟩
    · cases hb
    clear hb
    by_cases hq : fields.length ≤ 6
    rotate_left
    · have hq' : ¬ (fields.length : Int) ≤ 6 := by omega
      go_wp2_with fail
      refine (demand_any _ _ _).mono ?_
      rintro r w1 ⟨rfl, ⟨hb, rfl⟩ | ⟨hb, rfl⟩⟩
      · exact ⟨rfl, chk_no (by rw [HX2.out, decide_eq_false hq, dem_false]) (by decide), hB0⟩
      · exact absurd hb (by first | (simp; done) | (simp; omega))
    have hq3 : (fields.length : Int) ≤ 6 := by omega
    have HX3 := mkHid (HX2.out.trans (by rw [decide_eq_true hq, dem_true]))
    clear hq HX2
    go_wp2_with fail
    refine (demand_any _ _ _).mono ?_
    rintro r w1 ⟨rfl, ⟨hb, rfl⟩ | ⟨hb, rfl⟩⟩
    · exact absurd hb (by simp)
    clear hb
    by_cases hq : meths.length ≤ 8
    rotate_left
    · have hq' : ¬ (meths.length : Int) ≤ 8 := by omega
      go_wp2_with fail
      refine (demand_any _ _ _).mono ?_
      rintro r w1 ⟨rfl, ⟨hb, rfl⟩ | ⟨hb, rfl⟩⟩
      · exact ⟨rfl, chk_no (by rw [HX3.out, decide_eq_false hq, dem_false]) (by decide), hB0⟩
      · exact absurd hb (by first | (simp; done) | (simp; omega))
    have hq4 : (meths.length : Int) ≤ 8 := by omega
    have HX4 := mkHid (HX3.out.trans (by rw [decide_eq_true hq, dem_true]))
    clear hq HX3
    go_wp2_with fail
    refine (demand_any _ _ _).mono ?_
    rintro r w1 ⟨rfl, ⟨hb, rfl⟩ | ⟨hb, rfl⟩⟩
    · exact absurd hb (by simp)
    clear hb
    go_wp2_with fail
    go_loopw [32] (fun i wr => ∃ k : Nat, k ≤ fields.length ∧ i = .int .i64 k ∧ Hid (allE checkField (fields.drop k) = allE checkField fields) ∧ Below (w.heap.size + 1) w1 wr) (fun i _ => fields.length - (intOf i).toNat)
    case atStart => exact ⟨0, Nat.zero_le _, rfl, rfl, Below.refl _ _⟩
    case round =>
      obtain ⟨k, hk, rfl, HP, hBr⟩ := hrel
      have hsz : w.heap.size + 1 ≤ wr.heap.size := by have := hBr.size; omega
      by_cases hlt : k < fields.length
      · obtain ⟨b, off, rfl, hbl, e0, e1, e2, es, es2⟩ := (HF.out.keptF (Kp.below ((hB0.trans (hBr.mono (by omega))).mono hB))).atF k hlt
        have hBa := hBr.alloc hsz (.cells #[.string fields[k].name, .int .i64 fields[k].kind.kind, .string fields[k].kind.cls] 84)
        go_wp2_with fail
        refine (isName_any _ fields[k].name es).mono ?_
        rintro r w2 ⟨rfl, rfl⟩
        go_wp2_with fail
        refine (demand_any _ _ _).mono ?_
        rintro r w3 ⟨rfl, ⟨hb, rfl⟩ | ⟨hb, rfl⟩⟩
        · refine ⟨rfl, chk_no (e := 1) ?_ (by decide), hB0.trans (hBa.mono (by omega))⟩
          rw [HX4.out, ← HP.out, allE_no hlt (by rw [chk_field_no1 hb]; decide), chk_field_no1 hb, thenE_e (by decide)]
        have HB1 := mkHid hb
        clear hb
        go_wp2_with fail
        refine (isRight_any _ fields[k].kind es2).mono ?_
        rintro r w2 ⟨rfl, hb2⟩
        have hBs := hBa.trans (hb2.mono (by simp; omega))
        clear hb2 hBa e0 e1 e2
        go_wp2_with fail
        refine (demand_any _ _ _).mono ?_
        rintro r w3 ⟨rfl, ⟨hb, rfl⟩ | ⟨hb, rfl⟩⟩
        · refine ⟨rfl, chk_no (e := 7) ?_ (by decide), hB0.trans (hBs.mono (by omega))⟩
          rw [HX4.out, ← HP.out, allE_no hlt (by rw [chk_field_no2 HB1.out hb]; decide), chk_field_no2 HB1.out hb, thenE_e (by decide)]
        · have HB := mkHid (chk_field_ok HB1.out hb)
          clear hb
          go_wp2_with fail
          go_roundw
          case rel => exact ⟨k + 1, by omega, by go_num, (allE_ok hlt HB.out).symm.trans HP.out, hBs⟩
          case measure => simp [intOf]; omega
      · have HX5 := mkHid (HX4.out.trans (by rw [← HP.out, allE_end hlt, thenE_0]))
        have d3 := (hBr.cell (p := ⟨w.heap.size, 3, none⟩) (by simp)).trans c3
        clear HP HX4
        have hBs := hBr
        clear hBr
        go_wp2_with fail
        go_loopw [48] (fun i wr => ∃ k : Nat, k ≤ meths.length ∧ i = .int .i64 k ∧ Hid (allE checkMeth (meths.drop k) = allE checkMeth meths) ∧ Below (w.heap.size + 1) w1 wr) (fun i _ => meths.length - (intOf i).toNat)
        case atStart => exact ⟨0, Nat.zero_le _, rfl, rfl, hBs⟩
        case round =>
          obtain ⟨k, hk, rfl, HP, hBr⟩ := hrel
          have hsz : w.heap.size + 1 ≤ wr.heap.size := by have := hBr.size; omega
          by_cases hlt : k < meths.length
          · have hBw : Below w.heap.size w wr := hB0.trans (hBr.mono (by omega))
            obtain ⟨b, off, va, vh, rfl, hbl, e0, e1, e2, e3, e4, e5, e6, e7, e8, ea, eh, es1, es2, es3⟩ := (HM.out.keptM (Kp.below (hBw.mono hB))).atM k hlt
            have hBa := fun t => hBr.alloc hsz (.cells #[.string meths[k].name, .bool meths[k].static, va, .int .i64 meths[k].ret.kind, .string meths[k].ret.cls, .int .i64 meths[k].stack, .int .i64 meths[k].locals, .string meths[k].code, vh] t)
            have HBA := mkHid hBa
            have EA := mkHid ea
            have EH := mkHid eh
            obtain ⟨ao, ca, rfl, _⟩ := ea
            obtain ⟨ho, ch, rfl, _⟩ := eh
            clear hBa
            go_wp2_with fail
            refine (checkMethod_any _ B meths[k] _ _ (EA.out.keptK (Kp.below ((Below.refl _ _).alloc (by omega) _))) (EH.out.keptH (Kp.below ((Below.refl _ _).alloc (by omega) _))) (by simp; omega) es1 es2).mono ?_
            rintro r w2 ⟨hr, hb2⟩
            have hBs := (HBA.out _).trans (hb2.mono (by simp; omega))
            clear hb2 HBA e0 e1 e2 e3 e4 e5 e6 e7 e8
            rcases hr with ⟨hc, rfl⟩ | ⟨hc, rfl⟩
            · refine ⟨rfl, chk_no ?_ hc, hB0.trans (hBs.mono (by omega))⟩
              rw [HX5.out, ← HP.out, allE_no hlt hc]
            · have HB := mkHid hc
              clear hc
              go_wp2_with fail
              go_roundw
              case rel => exact ⟨k + 1, by omega, by go_num, (allE_ok hlt HB.out).symm.trans HP.out, hBs⟩
              case measure => simp [intOf]; omega
          · go_wp2_with fail
            go_end0
            exact ⟨chk_ok (by rw [HX5.out, ← HP.out, allE_end hlt]), hB0.trans (hBr.mono (by omega))⟩
  · have HX2 := mkHid (HX1.out.trans (by rw [decide_eq_false hq, Bool.false_or]))
    have e1 : super.toList.isEmpty = false := by rw [e0, decide_eq_false hq]
    clear HX1 hq e0
    go_wp2_with fail
    refine (isName_any _ _ hs2).mono ?_
    rintro r w1 ⟨rfl, rfl⟩
    go_wp2_with fail
    refine (demand_any _ _ _).mono ?_
    rintro r w1 ⟨rfl, ⟨hb, rfl⟩ | ⟨hb, rfl⟩⟩
    · exact ⟨rfl, chk_no (by rw [HX2.out, hb, dem_false]) (by decide), hB0⟩
    have HX3 := mkHid (HX2.out.trans (by rw [hb, dem_true]))
    clear hb HX2
    by_cases hq : fields.length ≤ 6
    rotate_left
    · have hq' : ¬ (fields.length : Int) ≤ 6 := by omega
      go_wp2_with fail
      refine (demand_any _ _ _).mono ?_
      rintro r w1 ⟨rfl, ⟨hb, rfl⟩ | ⟨hb, rfl⟩⟩
      · exact ⟨rfl, chk_no (by rw [HX3.out, decide_eq_false hq, dem_false]) (by decide), hB0⟩
      · exact absurd hb (by first | (simp; done) | (simp; omega))
    have hq4 : (fields.length : Int) ≤ 6 := by omega
    have HX4 := mkHid (HX3.out.trans (by rw [decide_eq_true hq, dem_true]))
    clear hq HX3
    go_wp2_with fail
    refine (demand_any _ _ _).mono ?_
    rintro r w1 ⟨rfl, ⟨hb, rfl⟩ | ⟨hb, rfl⟩⟩
    · exact absurd hb (by simp)
    clear hb
    by_cases hq : meths.length ≤ 8
    rotate_left
    · have hq' : ¬ (meths.length : Int) ≤ 8 := by omega
      go_wp2_with fail
      refine (demand_any _ _ _).mono ?_
      rintro r w1 ⟨rfl, ⟨hb, rfl⟩ | ⟨hb, rfl⟩⟩
      · exact ⟨rfl, chk_no (by rw [HX4.out, decide_eq_false hq, dem_false]) (by decide), hB0⟩
      · exact absurd hb (by first | (simp; done) | (simp; omega))
    have hq5 : (meths.length : Int) ≤ 8 := by omega
    have HX5 := mkHid (HX4.out.trans (by rw [decide_eq_true hq, dem_true]))
    clear hq HX4
    go_wp2_with fail
    refine (demand_any _ _ _).mono ?_
    rintro r w1 ⟨rfl, ⟨hb, rfl⟩ | ⟨hb, rfl⟩⟩
    · exact absurd hb (by simp)
    clear hb
    go_wp2_with fail
    go_loopw [32] (fun i wr => ∃ k : Nat, k ≤ fields.length ∧ i = .int .i64 k ∧ Hid (allE checkField (fields.drop k) = allE checkField fields) ∧ Below (w.heap.size + 1) w1 wr) (fun i _ => fields.length - (intOf i).toNat)
    case atStart => exact ⟨0, Nat.zero_le _, rfl, rfl, Below.refl _ _⟩
    case round =>
      obtain ⟨k, hk, rfl, HP, hBr⟩ := hrel
      have hsz : w.heap.size + 1 ≤ wr.heap.size := by have := hBr.size; omega
      by_cases hlt : k < fields.length
      · obtain ⟨b, off, rfl, hbl, e0, e1, e2, es, es2⟩ := (HF.out.keptF (Kp.below ((hB0.trans (hBr.mono (by omega))).mono hB))).atF k hlt
        have hBa := hBr.alloc hsz (.cells #[.string fields[k].name, .int .i64 fields[k].kind.kind, .string fields[k].kind.cls] 84)
        go_wp2_with fail
        refine (isName_any _ fields[k].name es).mono ?_
        rintro r w2 ⟨rfl, rfl⟩
        go_wp2_with fail
        refine (demand_any _ _ _).mono ?_
        rintro r w3 ⟨rfl, ⟨hb, rfl⟩ | ⟨hb, rfl⟩⟩
        · refine ⟨rfl, chk_no (e := 1) ?_ (by decide), hB0.trans (hBa.mono (by omega))⟩
          rw [HX5.out, ← HP.out, allE_no hlt (by rw [chk_field_no1 hb]; decide), chk_field_no1 hb, thenE_e (by decide)]
        have HB1 := mkHid hb
        clear hb
        go_wp2_with fail
        refine (isRight_any _ fields[k].kind es2).mono ?_
        rintro r w2 ⟨rfl, hb2⟩
        have hBs := hBa.trans (hb2.mono (by simp; omega))
        clear hb2 hBa e0 e1 e2
        go_wp2_with fail
        refine (demand_any _ _ _).mono ?_
        rintro r w3 ⟨rfl, ⟨hb, rfl⟩ | ⟨hb, rfl⟩⟩
        · refine ⟨rfl, chk_no (e := 7) ?_ (by decide), hB0.trans (hBs.mono (by omega))⟩
          rw [HX5.out, ← HP.out, allE_no hlt (by rw [chk_field_no2 HB1.out hb]; decide), chk_field_no2 HB1.out hb, thenE_e (by decide)]
        · have HB := mkHid (chk_field_ok HB1.out hb)
          clear hb
          go_wp2_with fail
          go_roundw
          case rel => exact ⟨k + 1, by omega, by go_num, (allE_ok hlt HB.out).symm.trans HP.out, hBs⟩
          case measure => simp [intOf]; omega
      · have HX6 := mkHid (HX5.out.trans (by rw [← HP.out, allE_end hlt, thenE_0]))
        have d3 := (hBr.cell (p := ⟨w.heap.size, 3, none⟩) (by simp)).trans c3
        clear HP HX5
        have hBs := hBr
        clear hBr
        go_wp2_with fail
        go_loopw [48] (fun i wr => ∃ k : Nat, k ≤ meths.length ∧ i = .int .i64 k ∧ Hid (allE checkMeth (meths.drop k) = allE checkMeth meths) ∧ Below (w.heap.size + 1) w1 wr) (fun i _ => meths.length - (intOf i).toNat)
        case atStart => exact ⟨0, Nat.zero_le _, rfl, rfl, hBs⟩
        case round =>
          obtain ⟨k, hk, rfl, HP, hBr⟩ := hrel
          have hsz : w.heap.size + 1 ≤ wr.heap.size := by have := hBr.size; omega
          by_cases hlt : k < meths.length
          · have hBw : Below w.heap.size w wr := hB0.trans (hBr.mono (by omega))
            obtain ⟨b, off, va, vh, rfl, hbl, e0, e1, e2, e3, e4, e5, e6, e7, e8, ea, eh, es1, es2, es3⟩ := (HM.out.keptM (Kp.below (hBw.mono hB))).atM k hlt
            have hBa := fun t => hBr.alloc hsz (.cells #[.string meths[k].name, .bool meths[k].static, va, .int .i64 meths[k].ret.kind, .string meths[k].ret.cls, .int .i64 meths[k].stack, .int .i64 meths[k].locals, .string meths[k].code, vh] t)
            have HBA := mkHid hBa
            have EA := mkHid ea
            have EH := mkHid eh
            obtain ⟨ao, ca, rfl, _⟩ := ea
            obtain ⟨ho, ch, rfl, _⟩ := eh
            clear hBa
            go_wp2_with fail
            refine (checkMethod_any _ B meths[k] _ _ (EA.out.keptK (Kp.below ((Below.refl _ _).alloc (by omega) _))) (EH.out.keptH (Kp.below ((Below.refl _ _).alloc (by omega) _))) (by simp; omega) es1 es2).mono ?_
            rintro r w2 ⟨hr, hb2⟩
            have hBs := (HBA.out _).trans (hb2.mono (by simp; omega))
            clear hb2 HBA e0 e1 e2 e3 e4 e5 e6 e7 e8
            rcases hr with ⟨hc, rfl⟩ | ⟨hc, rfl⟩
            · refine ⟨rfl, chk_no ?_ hc, hB0.trans (hBs.mono (by omega))⟩
              rw [HX6.out, ← HP.out, allE_no hlt hc]
            · have HB := mkHid hc
              clear hc
              go_wp2_with fail
              go_roundw
              case rel => exact ⟨k + 1, by omega, by go_num, (allE_ok hlt HB.out).symm.trans HP.out, hBs⟩
              case measure => simp [intOf]; omega
          · go_wp2_with fail
            go_end0
            exact ⟨chk_ok (by rw [HX6.out, ← HP.out, allE_end hlt]), hB0.trans (hBr.mono (by omega))⟩
set_option maxHeartbeats 1000000 in
theorem checkClasses_any (w : World) (B : Nat) (l : List ClassD) (v : Value) (hv : SL 4 RC (· < B) w v l) (hB : B ≤ w.heap.size) :
    Calls Tryz.prog 65 #[v] w fun r w' => ChkOut (checkL l) r ∧ Below w.heap.size w w' := by
  have HV := mkHid hv
  obtain ⟨ao, cl, rfl, hcl, hll, _⟩ := hv
  unfold maxLen at hll
  have HX0 : Hid (checkL l = dem (decide (l.length ≤ 10)) 2 (allE checkClass l)) := rfl
  generalize checkL l = X at *
  go_enter Tryz.func65, Tryz.ntmps65
  by_cases hq : l.length ≤ 10
  rotate_left
  · have hq' : ¬ (l.length : Int) ≤ 10 := by omega
    go_wp2_with fail
    refine (demand_any _ _ _).mono ?_
    rintro r w1 ⟨rfl, ⟨hb, rfl⟩ | ⟨hb, rfl⟩⟩
    · exact ⟨rfl, chk_no (by rw [HX0.out, decide_eq_false hq, dem_false]) (by decide), Below.refl _ _⟩
    · exact absurd hb (by first | (simp; done) | (simp; omega))
  have hq1 : (l.length : Int) ≤ 10 := by omega
  have HX1 := mkHid (HX0.out.trans (by rw [decide_eq_true hq, dem_true]))
  clear hq HX0
  go_wp2_with fail
  refine (demand_any _ _ _).mono ?_
  rintro r w1 ⟨rfl, ⟨hb, rfl⟩ | ⟨hb, rfl⟩⟩
  · exact absurd hb (by simp)
  clear hb
  go_wp2_with fail
  go_loopw [10] (fun i wr => ∃ k : Nat, k ≤ l.length ∧ i = .int .i64 k ∧ Hid (allE checkClass (l.drop k) = allE checkClass l) ∧ Below w1.heap.size w1 wr) (fun i _ => l.length - (intOf i).toNat)
  case atStart => exact ⟨0, Nat.zero_le _, rfl, rfl, Below.refl _ _⟩
  case round =>
    obtain ⟨k, hk, rfl, HP, hBr⟩ := hrel
    have hsz := hBr.size
    by_cases hlt : k < l.length
    · obtain ⟨b, off, vf, vm, rfl, hbl, e0, e1, e2, e3, ef, em, es1, es2⟩ := (HV.out.keptC (Kp.below (hBr.mono hB))).atC k hlt
      have hBa := fun t => hBr.alloc hsz (.cells #[.string l[k].name, .string l[k].super, vf, vm] t)
      have HBA := mkHid hBa
      have EF := mkHid ef
      have EM := mkHid em
      obtain ⟨fo, cf, rfl, _⟩ := ef
      obtain ⟨mo, cm, rfl, _⟩ := em
      clear hBa
      go_wp2_with fail
      refine (checkClass_any _ B l[k] _ _ (EF.out.keptF (Kp.below ((Below.refl _ _).alloc (by omega) _))) (EM.out.keptM (Kp.below ((Below.refl _ _).alloc (by omega) _))) (by simp; omega) es1 es2).mono ?_
      rintro r w2 ⟨hr, hb2⟩
      have hBs := (HBA.out _).trans (hb2.mono (by simp; omega))
      clear hb2 HBA e0 e1 e2 e3
      rcases hr with ⟨hc, rfl⟩ | ⟨hc, rfl⟩
      · refine ⟨rfl, chk_no ?_ hc, hBs⟩
        rw [HX1.out, ← HP.out, allE_no hlt hc]
      · have HB := mkHid hc
        clear hc
        go_wp2_with fail
        go_roundw
        case rel => exact ⟨k + 1, by omega, by go_num, (allE_ok hlt HB.out).symm.trans HP.out, hBs⟩
        case measure => simp [intOf]; omega
    · go_wp2_with fail
      go_end0
      exact ⟨chk_ok (by rw [HX1.out, ← HP.out, allE_end hlt]), hBr⟩
end Go.Proofs.YtfibgdcpbkaaoaaGreatDoor
/- The contracts of Caught and of what it defers. -/
namespace Go.Proofs.YtfibgdcpbkaaoaaGreatDoor
open Go.RowKit
theorem catch_idle (f : Addr) (w : World) :
    CallsD Tryz.prog 84 #[.pointer (some f)] .returning w fun e u' w' => e = .returned (.tuple #[]) ∧ u' = .returning ∧ w' = w := by
  refine callsD_of_wpS Tryz.func84 rfl fun c₀ cs hu => ?_
  apply wpS_seq
  apply wpS_region
  simp [wpOpsS, go_sem, recoverD, hu, Tryz.ntmps84, Exit.thenS]
  have e : (#[Value.pointer (some f)] ++ ((Array.replicate 16 undef).setIfInBounds 3 Value.nilIface).setIfInBounds 0 Value.nilIface) = #[.pointer (some f), .nilIface, undef, undef, .nilIface, undef, undef, undef, undef, undef, undef, undef, undef, undef, undef, undef, undef] := rfl
  rw [e]
  refine wpS_of_wp ?_
  go_wp2
  refine ⟨rfl, .returning, ?_, _, (results_none rfl _ _ _), rfl, rfl, rfl⟩
  cases c₀
  simp_all
theorem assert57 (x : Value) (w : World) : (Instr.typeAssert (.iface 140 x) 20 140 true).run Tryz.prog w = .ok (.tuple #[x, .bool true]) w := by kernel_rfl
theorem eqlNil (x : Value) (w : World) : (binOp BinOp.eql 20 (.iface 140 x) .nilIface).run Tryz.prog w = .ok (.bool false) w := by kernel_rfl
set_option maxHeartbeats 1000000 in
theorem catch_panicking (b : Nat) (x y : Value) (e p : Int) (w : World) (h0 : w.cell? ⟨b, 0, none⟩ = some x) (h1 : w.cell? ⟨b, 1, none⟩ = some y) (f0 : w.frozen? ⟨b, 0, none⟩ = false) (f1 : w.frozen? ⟨b, 1, none⟩ = false) :
    CallsD Tryz.prog 84 #[.pointer (some ⟨b, 0, none⟩)] (.panicking [wrongV e p]) w fun r u' w' => r = .returned (.tuple #[]) ∧ u' = .panicking [{ wrongV e p with recovered := true }] ∧
      w' = ((w.setCell ⟨b, 0, none⟩ (.int .i64 e)).setCell ⟨b, 1, none⟩ (.int .i64 p)).alloc (.cells #[.int .i64 e, .int .i64 p] 140) := by
  have hb : b < w.heap.size := World.block_lt_of_cell? w _ h0
  have k1 := assert57 (.agg #[.int .i64 e, .int .i64 p])
  have k2 := eqlNil (.agg #[.int .i64 e, .int .i64 p])
  refine callsD_of_wpS Tryz.func84 rfl fun c₀ cs hu => ?_
  apply wpS_seq
  apply wpS_region
  simp [wpOpsS, go_sem, recoverD, hu, Tryz.ntmps84, Exit.thenS]
  generalize hv : Value.iface 140 (.agg #[.int .i64 e, .int .i64 p]) = V
  have ee : (#[Value.pointer (some ⟨b, 0, none⟩)] ++ ((Array.replicate 16 undef).setIfInBounds 3 V).setIfInBounds 0 V) = #[.pointer (some ⟨b, 0, none⟩), V, undef, undef, V, undef, undef, undef, undef, undef, undef, undef, undef, undef, undef, undef, undef] := rfl
  rw [ee]
  clear ee
  subst hv
  refine wpS_of_wp ?_
  clear hu
  go_wp2_with fail
  exact ⟨rfl, _, rfl, _, results_none rfl _ _ _, rfl, rfl, rfl⟩
theorem fault_world (w1 : World) (N : Nat) (e p : Int) (o : Obj) {x y : Value} (n0 : w1.cell? ⟨N, 0, none⟩ = some x) (n1 : w1.cell? ⟨N, 1, none⟩ = some y) :
    w1.grownBy (((w1.setCell ⟨N, 0, none⟩ (.int .i64 e)).setCell ⟨N, 1, none⟩ (.int .i64 p)).alloc o) (some N) ∧
    (((w1.setCell ⟨N, 0, none⟩ (.int .i64 e)).setCell ⟨N, 1, none⟩ (.int .i64 p)).alloc o).cell? ⟨N, 0, none⟩ = some (.int .i64 e) ∧
    (((w1.setCell ⟨N, 0, none⟩ (.int .i64 e)).setCell ⟨N, 1, none⟩ (.int .i64 p)).alloc o).cell? ⟨N, 1, none⟩ = some (.int .i64 p) := by
  have hlt : N < w1.heap.size := World.block_lt_of_cell? w1 _ n0
  refine ⟨?_, ?_, ?_⟩
  · refine grown_alloc ?_ _
    refine grown_set ?_ _ _ (Or.inl rfl)
    refine grown_set ?_ _ _ (Or.inl rfl)
    exact World.grownBy.refl _ _
  · rw [World.cell?_alloc_past _ _ _ (by simpa [World.setCell] using hlt), World.cell?_setCell_other _ _ _ _ (by simp), World.cell?_setCell_same _ _ _ n0]
  · rw [World.cell?_alloc_past _ _ _ (by simpa [World.setCell] using hlt)]
    exact World.cell?_setCell_same _ _ _ ((World.cell?_setCell_other _ _ _ _ (by simp)).trans n1)
set_option maxHeartbeats 1000000 in
theorem caught_any (g : Nat) (cap : Array Value) (w : World) (Ok : World → Prop) (No : Int → Int → World → Prop) (hcf : ∀ w, (callFunc g cap).run Tryz.prog w = .ok (.enter g cap) w)
    (hc : Calls Tryz.prog g cap (w.alloc (.cells #[.int .i64 0, .int .i64 0] 46)) fun r w1 => w1.heap[w.heap.size]? = some (.cells #[.int .i64 0, .int .i64 0] 46 (0, 0)) ∧
      ((r = .returned (.tuple #[]) ∧ Ok w1) ∨ ∃ e p, r = .panicked [wrongV e p] ∧ No e p w1)) :
    Calls Tryz.prog 42 #[.func (.func g) #[] cap] w fun r w' => ∃ w1, w1.grownBy w' (some w.heap.size) ∧
      ((r = .returned (.agg #[.int .i64 0, .int .i64 0]) ∧ Ok w1) ∨ ∃ e p, r = .returned (.agg #[.int .i64 e, .int .i64 p]) ∧ No e p w1) := by
  have hmf : ∀ (fn : Fn) (first cap : Array Value) (w : World), (Instr.makeFunc fn first cap).run Tryz.prog w = .ok (.func fn first cap) w := fun _ _ _ _ => rfl
  have HC : Hid _ := hc
  clear hc
  go_enter_defers Tryz.func42, Tryz.ntmps42
  go_wp2_with fail
  refine Calls.mono HC.out ?_
  rintro r w1 ⟨hN, hr⟩
  have n0 : w1.cell? ⟨w.heap.size, 0, none⟩ = some (.int .i64 0) := by simp [World.cell?, hN]
  have n1 : w1.cell? ⟨w.heap.size, 1, none⟩ = some (.int .i64 0) := by simp [World.cell?, hN]
  have z0 : w1.frozen? ⟨w.heap.size, 0, none⟩ = false := by simp [World.frozen?, hN]
  have z1 : w1.frozen? ⟨w.heap.size, 1, none⟩ = false := by simp [World.frozen?, hN]
  clear hN
  rcases hr with ⟨rfl, hok⟩ | ⟨e, p, rfl, hno⟩
  · go_wp2_with fail
    refine leaves_cons (f := 84) (args := #[.pointer (some ⟨w.heap.size, 0, none⟩)]) (by simp) (by simp [go_sem]) ?_
    refine (catch_idle ⟨w.heap.size, 0, none⟩ _).mono ?_
    rintro r2 u' w'' ⟨rfl, rfl, rfl⟩
    show Leaves Tryz.prog Tryz.f42 _ _ [] FrameMode.returning _
    refine ⟨.agg #[.int .i64 0, .int .i64 0], ?_, w1, ?_, Or.inl ⟨rfl, hok⟩⟩
    · simp [results, Tryz.results42, go_sem, n0, n1]
    · exact grown_set (grown_set (World.grownBy.refl _ _) _ _ (Or.inl rfl)) _ _ (Or.inl rfl)
  · refine leaves_cons (f := 84) (args := #[.pointer (some ⟨w.heap.size, 0, none⟩)]) (by simp) (by simp [go_sem]) ?_
    refine (catch_panicking w.heap.size _ _ e p _ n0 n1 z0 z1).mono ?_
    rintro r2 u' w'' ⟨rfl, rfl, rfl⟩
    obtain ⟨hg, q0, q1⟩ := fault_world w1 w.heap.size e p _ n0 n1
    show Leaves Tryz.prog Tryz.f42 _ _ [] FrameMode.returning _
    generalize ((w1.setCell ⟨w.heap.size, 0, none⟩ (.int .i64 e)).setCell ⟨w.heap.size, 1, none⟩ (.int .i64 p)).alloc (.cells #[.int .i64 e, .int .i64 p] 140) = W2 at *
    refine ⟨.agg #[.int .i64 e, .int .i64 p], ?_, w1, hg, Or.inr ⟨e, p, rfl, hno⟩⟩
    simp [results, Tryz.results42, go_sem, q0, q1]
theorem fieldErr (a b : Int) (w : World) : (Instr.field 46 (.agg #[.int .i64 a, .int .i64 b]) 0).run Tryz.prog w = .ok (.int .i64 a) w := by kernel_rfl
theorem callCheck1 (args : Array Value) (w : World) : (callFunc 64 args).run Tryz.prog w = .ok (.enter 64 args) w := by kernel_rfl
theorem check1_any (w : World) (B : Nat) (P : Nat) (l : List ClassD) (v : Value) (hv : SL 4 RC (· < B) w v l) (hB : B ≤ w.heap.size) (hp : w.cell? ⟨P, 0, none⟩ = some v) :
    Calls Tryz.prog 64 #[.pointer (some ⟨P, 0, none⟩)] w fun r w' => ChkOut (checkL l) r ∧ Below w.heap.size w w' := by
  have HV := mkHid hv
  obtain ⟨ao, cl, rfl, -⟩ := hv
  go_enter Tryz.func64, Tryz.ntmps64
  go_wp2_with fail
  refine (checkClasses_any _ B l _ HV.out hB).mono ?_
  rintro r w1 ⟨⟨hc, rfl⟩ | ⟨hc, rfl⟩, hb⟩
  · exact ⟨rfl, Or.inl ⟨hc, rfl⟩, hb⟩
  · go_wp2
    go_end0
    exact ⟨Or.inr ⟨hc, rfl⟩, hb⟩
set_option maxHeartbeats 1000000 in
theorem Check_any (w : World) (B : Nat) (l : List ClassD) (v : Value) (hv : SL 4 RC (· < B) w v l) (hB' : B ≤ w.heap.size) :
    Calls Tryz.prog 34 #[v] w fun r w' => r = .returned (.int .i64 (checkL l)) ∧ Below w.heap.size w w' := by
  have hmf : ∀ (fn : Fn) (first cap : Array Value) (w : World), (Instr.makeFunc fn first cap).run Tryz.prog w = .ok (.func fn first cap) w := fun _ _ _ _ => rfl
  have HV := mkHid hv
  obtain ⟨ao, cl, rfl, -⟩ := hv
  have hB0 := (Below.refl w.heap.size w).alloc (Nat.le_refl _) (.cells #[.slice ao l.length cl] 22)
  have hB1 := hB0.alloc hB0.size (.cells #[.int .i64 0, .int .i64 0] 46)
  go_enter Tryz.func34, Tryz.ntmps34
  go_wp2_with fail
  refine (caught_any 64 _ _ (fun w1 => checkL l = 0 ∧ Below w.heap.size w w1) (fun e p w1 => checkL l = e ∧ Below w.heap.size w w1) (callCheck1 _) ?hc).mono ?_
  case hc =>
    refine (check1_any _ B w.heap.size l (.slice ao l.length cl) (HV.out.keptC (Kp.below (hB1.mono hB'))) (by simp; omega) (by simp [go_sem])).mono ?_
    rintro r w1 ⟨hr, hb⟩
    have hb' := hB1.trans (hb.mono (by simp; omega))
    refine ⟨?_, ?_⟩
    · rw [hb.block (w.alloc (.cells #[.slice ao l.length cl] 22)).heap.size (by simp)]
      show ((w.heap.push _).push _)[(w.heap.push _).size]? = _
      rw [Array.getElem?_push, if_pos rfl]
    · rcases hr with ⟨hc, rfl⟩ | ⟨hc, rfl⟩
      · exact Or.inr ⟨_, _, rfl, rfl, hb'⟩
      · exact Or.inl ⟨rfl, hc, hb'⟩
  rintro r w2 ⟨w1, hg, hr⟩
  have hz : (w.alloc (.cells #[.slice ao l.length cl] 22)).heap.size = w.heap.size + 1 := by simp
  rw [hz] at hg
  clear hB0 hB1 hz
  rcases hr with ⟨rfl, hc, hB⟩ | ⟨e, p, rfl, hc, hB⟩
  · have HC := mkHid hc
    have HB := mkHid (below_of_grown hB hg (by omega))
    clear hc hg hB hmf hB'
    have hfd := fieldErr
    go_wp2
    go_ret
    exact ⟨by rw [HC.out]; rfl, HB.out⟩
  · have HC := mkHid hc
    have HB := mkHid (below_of_grown hB hg (by omega))
    clear hc hg hB hmf hB'
    have hfd := fieldErr
    go_wp2
    go_ret
    exact ⟨by rw [HC.out]; rfl, HB.out⟩
end Go.Proofs.YtfibgdcpbkaaoaaGreatDoor
/- Linked classes in memory. -/
namespace Go.Proofs.YtfibgdcpbkaaoaaGreatDoor
open Go.RowKit Go.Maps
def RI (_ : Nat → Prop) (_ : World) (cs : List Value) (n : Int) : Prop := cs = [.int .i64 n]
def RO (_ : Nat → Prop) (_ : World) (cs : List Value) (n : Nat) : Prop := cs = [.int .i64 n]
def RS (_ : Nat → Prop) (_ : World) (cs : List Value) (s : ByteArray) : Prop := cs = [.string s] ∧ s.size ≤ maxLen
def RT (_ : Nat → Prop) (_ : World) (cs : List Value) (t : TargD) : Prop := cs = [.int .i64 t.cls, .int .i64 t.meth]
def RSl {α : Type} (n : Nat) (R : (Nat → Prop) → World → List Value → α → Prop) (M : Nat → Prop) (w : World) (cs : List Value) (x : List α) : Prop := ∃ v, cs = [v] ∧ SL n R M w v x
theorem SL.keptI {M : Nat → Prop} {w w' : World} {v : Value} {l : List Int} (h : SL 1 RI M w v l) (hk : Kp M w w') : SL 1 RI M w' v l := h.kept hk fun _ _ h => h
theorem SL.keptO {M : Nat → Prop} {w w' : World} {v : Value} {l : List Nat} (h : SL 1 RO M w v l) (hk : Kp M w w') : SL 1 RO M w' v l := h.kept hk fun _ _ h => h
theorem SL.keptS {M : Nat → Prop} {w w' : World} {v : Value} {l : List ByteArray} (h : SL 1 RS M w v l) (hk : Kp M w w') : SL 1 RS M w' v l := h.kept hk fun _ _ h => h
theorem SL.keptT {M : Nat → Prop} {w w' : World} {v : Value} {l : List TargD} (h : SL 2 RT M w v l) (hk : Kp M w w') : SL 2 RT M w' v l := h.kept hk fun _ _ h => h
theorem SL.keptSl {α : Type} {n : Nat} {R : (Nat → Prop) → World → List Value → α → Prop} {M : Nat → Prop} {w w' : World} {v : Value} {l : List (List α)} (h : SL 1 (RSl n R) M w v l) (hk : Kp M w w') (hR : ∀ cs x, R M w cs x → R M w' cs x) : SL 1 (RSl n R) M w' v l :=
  h.kept hk fun _ _ ⟨v, e, hs⟩ => ⟨v, e, hs.kept hk hR⟩
theorem SL.monoI {M M' : Nat → Prop} {w : World} {v : Value} {l : List Int} (h : SL 1 RI M w v l) (hM : ∀ b, M b → M' b) : SL 1 RI M' w v l := h.mono hM fun _ _ h => h
theorem SL.monoO {M M' : Nat → Prop} {w : World} {v : Value} {l : List Nat} (h : SL 1 RO M w v l) (hM : ∀ b, M b → M' b) : SL 1 RO M' w v l := h.mono hM fun _ _ h => h
theorem SL.monoS {M M' : Nat → Prop} {w : World} {v : Value} {l : List ByteArray} (h : SL 1 RS M w v l) (hM : ∀ b, M b → M' b) : SL 1 RS M' w v l := h.mono hM fun _ _ h => h
theorem SL.monoT {M M' : Nat → Prop} {w : World} {v : Value} {l : List TargD} (h : SL 2 RT M w v l) (hM : ∀ b, M b → M' b) : SL 2 RT M' w v l := h.mono hM fun _ _ h => h
theorem SL.monoSl {α : Type} {n : Nat} {R : (Nat → Prop) → World → List Value → α → Prop} {M M' : Nat → Prop} {w : World} {v : Value} {l : List (List α)} (h : SL 1 (RSl n R) M w v l) (hM : ∀ b, M b → M' b) (hR : ∀ cs x, R M w cs x → R M' w cs x) : SL 1 (RSl n R) M' w v l :=
  h.mono hM fun _ _ ⟨v, e, hs⟩ => ⟨v, e, hs.mono hM hR⟩
theorem SL.atI {M : Nat → Prop} {w : World} {ao : Option Addr} {len cap : Nat} {l : List Int} (h : SL 1 RI M w (.slice ao len cap) l) (k : Nat) (hk : k < l.length) :
    ∃ b off, ao = some ⟨b, off, none⟩ ∧ b < w.heap.size ∧ w.cell? ⟨b, off + k, none⟩ = some (.int .i64 l[k]) := by
  obtain ⟨b, off, cs, e, _, hb, _, hc, rfl⟩ := h.at k hk
  exact ⟨b, off, e, hb, by have := hc 0 (by decide); simpa using this⟩
theorem SL.atO {M : Nat → Prop} {w : World} {ao : Option Addr} {len cap : Nat} {l : List Nat} (h : SL 1 RO M w (.slice ao len cap) l) (k : Nat) (hk : k < l.length) :
    ∃ b off, ao = some ⟨b, off, none⟩ ∧ b < w.heap.size ∧ w.cell? ⟨b, off + k, none⟩ = some (.int .i64 l[k]) := by
  obtain ⟨b, off, cs, e, _, hb, _, hc, rfl⟩ := h.at k hk
  exact ⟨b, off, e, hb, by have := hc 0 (by decide); simpa using this⟩
theorem SL.atS {M : Nat → Prop} {w : World} {ao : Option Addr} {len cap : Nat} {l : List ByteArray} (h : SL 1 RS M w (.slice ao len cap) l) (k : Nat) (hk : k < l.length) :
    ∃ b off, ao = some ⟨b, off, none⟩ ∧ b < w.heap.size ∧ w.cell? ⟨b, off + k, none⟩ = some (.string l[k]) ∧ l[k].size ≤ maxLen := by
  obtain ⟨b, off, cs, e, _, hb, _, hc, rfl, hs⟩ := h.at k hk
  exact ⟨b, off, e, hb, (by have := hc 0 (by decide); simpa using this), hs⟩
theorem SL.atT {M : Nat → Prop} {w : World} {ao : Option Addr} {len cap : Nat} {l : List TargD} (h : SL 2 RT M w (.slice ao len cap) l) (k : Nat) (hk : k < l.length) :
    ∃ b off, ao = some ⟨b, off, none⟩ ∧ b < w.heap.size ∧ w.cell? ⟨b, off + k * 2, none⟩ = some (.int .i64 l[k].cls) ∧ w.cell? ⟨b, off + k * 2 + 1, none⟩ = some (.int .i64 l[k].meth) := by
  obtain ⟨b, off, cs, e, _, hb, _, hc, rfl⟩ := h.at k hk
  exact ⟨b, off, e, hb, hc 0 (by decide), hc 1 (by decide)⟩
theorem SL.atSl {α : Type} {n : Nat} {R : (Nat → Prop) → World → List Value → α → Prop} {M : Nat → Prop} {w : World} {ao : Option Addr} {len cap : Nat} {l : List (List α)} (h : SL 1 (RSl n R) M w (.slice ao len cap) l) (k : Nat) (hk : k < l.length) :
    ∃ b off a c, ao = some ⟨b, off, none⟩ ∧ b < w.heap.size ∧ w.cell? ⟨b, off + k, none⟩ = some (.slice a l[k].length c) ∧ SL n R M w (.slice a l[k].length c) l[k] := by
  obtain ⟨b, off, cs, e, _, hb, _, hc, v, rfl, hs⟩ := h.at k hk
  have hv := hs
  obtain ⟨a, c, rfl, -⟩ := hv
  exact ⟨b, off, a, c, e, hb, (by have := hc 0 (by decide); simpa using this), hs⟩
theorem tl_inj {s t : ByteArray} (h : s.toList = t.toList) : s = t := bytes_eq (by rwa [ByteArray.toList_eq, ByteArray.toList_eq] at h)
theorem tl_nil {s : ByteArray} (h : s.toList = []) : s = ⟨#[]⟩ := tl_inj (h.trans (by rw [ByteArray.toList_eq]))
theorem nil_tl {s : ByteArray} (h : s = ⟨#[]⟩) : s.toList = [] := by rw [h, ByteArray.toList_eq]
theorem law9 : Keyed Tryz.prog 9 := string_keyed Tryz.underlying9
theorem zero3 (w : World) : (zeroValue 3).run Tryz.prog w = .ok (.int .i64 0) w := by kernel_rfl
def key (s : ByteArray) : Lit := .string s.data.toList
theorem isKey (s : ByteArray) : WideAt.IsKeyLit (key s) := trivial
theorem key_inj {s t : ByteArray} (h : s ≠ t) : key s ≠ key t := fun e => h (bytes_eq (by injection e))
structure NumD (l : List ClassD) (D : DataW Unit) : Prop where
  has : ∀ s, Maps.has D (key s) = decide (0 ≤ num l s)
  at_ : ∀ s z, 0 ≤ num l s → D.atKey (key s) z = .lit (.int .i64 (num l s))
  le : Maps.size D ≤ l.length
  eq : Maps.size D = l.length ↔ askNames l = true
theorem numD_nil : NumD [] (.map []) := ⟨fun s => by rw [num_nil]; rfl, fun s z h => by rw [num_nil] at h; omega, Nat.le_refl _, by simp [askNames, differB, Maps.size]⟩
theorem numD_put {l : List ClassD} {D : DataW Unit} (h : NumD l D) (ht : Tidy D) (c : ClassD) : NumD (l ++ [c]) (D.put (key c.name) (.lit (.int .i64 l.length))) := by
  have hm := ht.isMap
  refine ⟨fun s => ?_, fun s z hn => ?_, ?_, ?_⟩
  · rw [num_snoc]
    by_cases e : c.name = s
    · subst e
      rw [has_put_same hm (isKey _), if_pos rfl]
      simp
    · rw [has_put_other (key_inj (Ne.symm e)), if_neg e, h.has]
  · rw [num_snoc] at hn ⊢
    by_cases e : c.name = s
    · subst e
      rw [atKey_put_same hm (isKey _), if_pos rfl]
    · rw [if_neg e] at hn ⊢
      rw [atKey_put_other (key_inj (Ne.symm e)), h.at_ s z hn]
  · have := h.le
    rw [size_put ht, List.length_append]
    split <;> simp <;> omega
  · have h1 := h.le
    have h2 := h.eq
    have h3 := h.has c.name
    rw [size_put ht, List.length_append, askNames, differ_names_snoc, h3]
    show _ ↔ (askNames l && _) = true
    by_cases e : 0 ≤ num l c.name
    · simp [e]
      omega
    · simp [e]
      exact h2
def NumMap (w : World) (b : Nat) (l : List ClassD) : Prop := ∃ D : DataW Unit, w.ownsMap Tryz.prog 9 (plainElem Tryz.prog 3) b l.length D ∧ NumD l D
theorem NumMap.lt {w : World} {b : Nat} {l : List ClassD} (h : NumMap w b l) : b < w.heap.size := by
  obtain ⟨D, h, _⟩ := h
  exact h.lt
theorem NumMap.kept {w w' : World} {b : Nat} {l : List ClassD} (h : NumMap w b l) {row : Option Nat} (hg : w.grownBy w' row) (hne : some b ≠ row) : NumMap w' b l := by
  obtain ⟨D, h, hd⟩ := h
  exact ⟨D, h.kept hg hne, hd⟩
theorem NumMap.below {B : Nat} {w w' : World} {b : Nat} {l : List ClassD} (h : NumMap w b l) (hb : Below B w w') (hB : b < B) : NumMap w' b l := by
  obtain ⟨D, ⟨es, clock, e, h⟩, hd⟩ := h
  exact ⟨D, ⟨es, clock, (hb.block b hB).trans e, h⟩, hd⟩
structure Web (B : Nat) (w : World) (b : Nat) (l : List ClassD) (vC vS vF vN vT vL : Value) (Bm : Nat) : Prop where
  bB : b < B
  mB : Bm < B
  le : B ≤ w.heap.size
  blk : w.heap[b]? = some (.cells #[vC, vS, vF, vN, vT, .map (some Bm), vL] 72 (0, 0))
  sC : SL 4 RC (· < B) w vC l
  sS : SL 1 RI (· < B) w vS ((List.range l.length).map (supAt l))
  sF : SL 1 (RSl 3 RF) (· < B) w vF ((List.range l.length).map (fieldsOf l))
  sN : SL 1 (RSl 1 RS) (· < B) w vN ((List.range l.length).map (namesOf l))
  sT : SL 1 (RSl 2 RT) (· < B) w vT ((List.range l.length).map (targetsOf l))
  sL : SL 1 (RSl 1 RO) (· < B) w vL ((List.range l.length).map (lineOf l))
  nm : NumMap w Bm l
theorem Web.below {B : Nat} {w w' : World} {b : Nat} {l : List ClassD} {vC vS vF vN vT vL : Value} {Bm : Nat} (h : Web B w b l vC vS vF vN vT vL Bm) (hb : Below B w w') : Web B w' b l vC vS vF vN vT vL Bm :=
  ⟨h.bB, h.mB, Nat.le_trans h.le hb.size, (hb.block b h.bB).trans h.blk, h.sC.keptC (Kp.below hb), h.sS.keptI (Kp.below hb), h.sF.keptSl (Kp.below hb) fun _ _ h => h, h.sN.keptSl (Kp.below hb) fun _ _ h => h, h.sT.keptSl (Kp.below hb) fun _ _ h => h, h.sL.keptSl (Kp.below hb) fun _ _ h => h, h.nm.below hb h.mB⟩
theorem cell_of {W : World} {X t : Nat} {c : Array Value} (h : W.heap[X]? = some (.cells c t (0, 0))) (j : Nat) {x : Value} (hx : c[j]? = some x) : W.cell? ⟨X, j, none⟩ = some x := by
  simp [World.cell?, h, hx]
theorem frz_of {W : World} {X t : Nat} {c : Array Value} (h : W.heap[X]? = some (.cells c t (0, 0))) (j : Nat) : W.frozen? ⟨X, j, none⟩ = false := by simp [World.frozen?, h]
theorem lt_of {W : World} {X : Nat} {o : Obj} (h : W.heap[X]? = some o) : X < W.heap.size := (Array.getElem?_eq_some_iff.1 h).1
set_option maxHeartbeats 1000000 in
theorem number_any (w : World) (b Bm : Nat) (l : List ClassD) (s : ByteArray) (hm : w.cell? ⟨b, 5, none⟩ = some (.map (some Bm))) (hN : NumMap w Bm l) (hs : s.size ≤ maxLen) :
    Calls Tryz.prog 61 #[.pointer (some ⟨b, 0, none⟩), .string s] w fun r w' => r = .returned (.int .i64 (num l s)) ∧ w' = w := by
  obtain ⟨D, hown, hD⟩ := hN
  have hkey : keyOf Tryz.prog 9 (.string s) = some (key s) := Go.WideMaps.keyOf_string_mk Tryz.underlying9 hs
  have HD := mkHid hD
  have HK := mkHid hkey
  clear hD hkey
  go_enter Tryz.func61, Tryz.ntmps61
  go_wp2_with (at_lookup; refine wpList_lookup_own_ok_int _ rfl _ _ 69 rfl 9 3 .i64 law9 Tryz.underlying69 Tryz.underlying3 (zero3 _) Bm l.length D rfl hown _ _ rfl HK.out ?_)
  intro c hat hw
  clear hw
  have HAT := mkHid hat
  clear hat hown hm hs
  rw [HD.out.has s]
  by_cases h : 0 ≤ num l s
  · have hd : decide (0 ≤ num l s) = true := by simp [h]
    have HE : Hid (c = num l s) := by
      have e := HAT.out
      rw [HD.out.at_ s _ h] at e
      exact ((Lit.int.inj (DataW.lit.inj e)).2).symm
    rw [hd]
    clear h hd
    go_wp2
    go_ret
    exact ⟨by rw [HE.out]; rfl, rfl⟩
  · have hd : decide (0 ≤ num l s) = false := by simp [h]
    have HE : Hid (num l s = -1) := by
      have := (num_le l s).1
      show num l s = -1
      omega
    rw [hd]
    clear h hd
    go_wp2
    go_ret
    exact ⟨by rw [HE.out]; rfl, rfl⟩
end Go.Proofs.YtfibgdcpbkaaoaaGreatDoor
/- Lists of which all, or some, elements hold. -/
namespace Go.Proofs.YtfibgdcpbkaaoaaGreatDoor
open Go.RowKit
def idx {α : Type} (p : α → Bool) (l : List α) : Int := match l.findIdx? p with | some i => (i : Int) | none => -1
theorem idx_hit {α : Type} {p : α → Bool} {l : List α} {k : Nat} (hk : k < l.length) (h : ∀ x ∈ l.take k, p x = false) (hp : p l[k] = true) : idx p l = k := by
  have : l.findIdx? p = some k := by
    rw [List.findIdx?_eq_some_iff_getElem]
    refine ⟨hk, hp, fun j hj => ?_⟩
    have := h l[j] (by rw [List.mem_take_iff_getElem]; exact ⟨j, by omega, rfl⟩)
    simp [this]
  simp [idx, this]
theorem idx_none {α : Type} {p : α → Bool} {l : List α} (h : ∀ x ∈ l, p x = false) : idx p l = -1 := by
  have : l.findIdx? p = none := by
    rw [List.findIdx?_eq_none_iff]
    exact h
  simp [idx, this]
theorem idx_any {α : Type} (p : α → Bool) (l : List α) : decide (0 ≤ idx p l) = l.any p := by
  unfold idx
  cases h : l.findIdx? p with
  | none =>
    rw [List.findIdx?_eq_none_iff] at h
    have : l.any p = false := by rw [List.any_eq_false]; intro x hx; simp [h x hx]
    rw [this]
    rfl
  | some i =>
    have hs := List.findIdx?_eq_some_iff_getElem.1 h
    obtain ⟨hi, hp, _⟩ := hs
    have : l.any p = true := List.any_eq_true.2 ⟨_, List.getElem_mem hi, hp⟩
    rw [this]
    simp
theorem take_more {α : Type} {p : α → Bool} {l : List α} {k : Nat} (hk : k < l.length) (h : ∀ x ∈ l.take k, p x = false) (hp : p l[k] = false) : ∀ x ∈ l.take (k + 1), p x = false := by
  intro x hx
  rw [List.take_succ_eq_append_getElem hk] at hx
  rcases List.mem_append.1 hx with hx | hx
  · exact h x hx
  · rw [List.mem_singleton] at hx
    rw [hx, hp]
theorem all_not {α : Type} (p : α → Bool) (l : List α) : (!l.any fun x => !p x) = l.all p := by
  induction l with
  | nil => rfl
  | cons x l ih => rw [List.any_cons, List.all_cons, ← ih]; cases p x <;> simp
set_option maxHeartbeats 1000000 in
theorem containsG {α : Type} {fc fi a b : Nat} {F : Func} {q0 q1 q2 q3 q4 q5 : String} {x1 x2 x3 x4 x5 x6 : Array Edge} (hf : Tryz.prog.funcs[fc]? = some F) (hn : F.ntmps = 9) (hr : F.results = #[.tmp 4])
    (hb : F.body = some ((Code.region 0 #[⟨some 4, .assign (.const (.bool false)), 4, q0, x1, none⟩] false).seq ((Code.region 1 #[⟨some 5, .move (.tmp 0), a, q1, x2, none⟩, ⟨some 6, .move (.tmp 1), b, q2, x3, none⟩, ⟨some 7, .call { callee := .value (.func fi), args := #[.tmp 5, .tmp 6], argTypes := #[a, b] }, 3, q3, x4, none⟩, ⟨some 8, .binOp .geq 3 (.tmp 7) (.const (.int .i64 0)) 3, 4, q4, x5, none⟩, ⟨some 4, .assign (.tmp 8), 4, q5, x6, none⟩] false).seq Code.ret)))
    (hcf : ∀ args w, (callFunc fi args).run Tryz.prog w = .ok (.enter fi args) w) (w : World) (ao : Option Addr) (m c : Nat) (g : Nat) (cap : Array Value) (p : α → Bool) (l : List α)
    (hi : Calls Tryz.prog fi #[.slice ao m c, .func (.func g) #[] cap] w fun r w' => r = .returned (.int .i64 (idx p l)) ∧ Below w.heap.size w w') :
    Calls Tryz.prog fc #[.slice ao m c, .func (.func g) #[] cap] w fun r w' => r = .returned (.bool (l.any p)) ∧ Below w.heap.size w w' := by
  have HC := mkHid hi
  clear hi
  have HI := mkHid (idx_any p l)
  refine calls_of_wp hf hb ?_
  simp only [hn, List.size_toArray, List.length_cons, List.length_nil, Nat.reduceAdd, Nat.reduceSub, Array.replicate_succ, Array.replicate_zero, List.push_toArray, List.append_toArray, List.nil_append, List.cons_append]
  go_wp2_with fail
  refine HC.out.mono ?_
  rintro r w1 ⟨rfl, hb⟩
  go_wp2_with fail
  refine bodyPost_ret (results_tmp hr _ _ _) rfl ?_
  exact ⟨by rw [← HI.out]; rfl, hb⟩
theorem idxAt {a e n : Nat} (hu : ∀ V, (underlying a).run Tryz.prog V = .ok (.slice e) V) (hs : ∀ V, (sizeOf e).run Tryz.prog V = .ok n V) {b off k len cl : Nat} (hk : k < len) (V : World) :
    (Instr.indexAt a (.slice (some ⟨b, off, none⟩) len cl) (.int .i64 k)).run Tryz.prog V = .ok (.pointer (some ⟨b, off + k * n, none⟩)) V := by
  simp [Instr.indexAt, asIntOf, hu, hs, Sem.run_bind, Addr.add, hk]
theorem lenAt {a e : Nat} (hu : ∀ V, (underlying a).run Tryz.prog V = .ok (.slice e) V) {ao : Option Addr} {len cl : Nat} (V : World) :
    (Builtin.len_ #[a] 3 #[.slice ao len cl]).run Tryz.prog V = .ok (.int .i64 len) V := by
  simp [Builtin.len_, hu, Sem.run_bind, goInt]
def ElG {α : Type} (ag : Bool) (R : (Nat → Prop) → World → List Value → α → Prop) (B : Nat) (W : World) (u : Value) (x : α) : Prop := ∃ cs, (if ag then u = .agg cs.toArray else cs = [u]) ∧ R (· < B) W cs x
theorem elAt {α : Type} {R : (Nat → Prop) → World → List Value → α → Prop} {a e n B : Nat} {ag : Bool} (hu : ∀ V, (underlying a).run Tryz.prog V = .ok (.slice e) V) (hs : ∀ V, (sizeOf e).run Tryz.prog V = .ok n V) (h1 : ag = false → n = 1)
    {W : World} {ao : Option Addr} {cl : Nat} {l : List α} (h : SL n R (· < B) W (.slice ao l.length cl) l) (k : Nat) (hk : k < l.length) :
    ∃ P u, (∀ V, (Instr.indexAt a (.slice ao l.length cl) (.int .i64 k)).run Tryz.prog V = .ok (.pointer (some P)) V) ∧ (if ag then ∃ cs, u = .agg cs ∧ (loadCellsFrom P 0 n #[]).run Tryz.prog W = .ok cs W else W.cell? P = some u) ∧ ElG ag R B W u l[k] := by
  obtain ⟨b, off, cs, rfl, -, -, hn, hc, hr⟩ := h.at k hk
  cases ag
  · obtain rfl := h1 rfl
    match cs, hn with
    | [u], _ => exact ⟨_, u, idxAt hu hs hk, by simpa using hc 0 (by omega), [u], rfl, hr⟩
  · refine ⟨_, .agg cs.toArray, idxAt hu hs hk, ⟨cs.toArray, rfl, ?_⟩, cs, rfl, hr⟩
    have := run_loadCells_list (P := Tryz.prog) W ⟨b, off + k * n, none⟩ cs (fun j v hv => by rw [Addr.add_mid, hc j (by have := (List.getElem?_eq_some_iff.1 hv).1; omega), hv])
    rw [hn] at this
    exact this
set_option maxRecDepth 100000 in
set_option maxHeartbeats 1000000 in
theorem indexG {α : Type} {f a b e : Nat} {F : Func} {q0 q1 q2 q3 q4 q5 q6 q7 q8 q9 q10 q11 q12 q13 q14 q15 q16 q17 : String} {x0 x1 x2 x3 x4 x5 x6 x7 x8 x9 x10 x11 x12 x13 x14 x15 x16 x17 : Array Edge} (hf : Tryz.prog.funcs[f]? = some F) (hn : F.ntmps = 19) (hr : F.results = #[ResultVar.tmp 4])
    (hb : F.body = some ((Code.region 0 #[⟨some 4, Op.assign (Operand.const (Value.int IntKind.i64 0)), 3, q0, x0, none⟩] false).seq (((Code.region 1 #[⟨some 6, Op.move (Operand.tmp 0), a, q1, x1, none⟩, ⟨some 7, Op.call { callee := Callee.builtin Builtin.len, args := #[Operand.tmp 6], argTypes := #[a] }, 3, q2, x2, none⟩, ⟨some 8, Op.move (Operand.const (Value.int IntKind.i64 0)), 3, q3, x3, none⟩] false).seq (Code.block 0 ((Code.region 2 #[⟨some 9, Op.binOp BinOp.lss 3 (Operand.tmp 8) (Operand.tmp 7) 3, 0, q4, x4, none⟩] false).seq ((Code.cond (Operand.tmp 9) Code.skip (Code.exit 0)).seq ((Code.block 1 ((Code.region 3 #[⟨some 10, Op.move (Operand.tmp 8), 3, q5, x5, none⟩, ⟨some 5, Op.assign (Operand.tmp 10), 3, q6, x6, none⟩] false).seq ((Code.region 4 #[⟨some 11, Op.move (Operand.tmp 1), b, q7, x7, none⟩, ⟨some 12, Op.move (Operand.tmp 0), a, q8, x8, none⟩, ⟨some 13, Op.move (Operand.tmp 5), 3, q9, x9, none⟩, ⟨some 14, Op.indexAddr a (Operand.tmp 12) (Operand.tmp 13), 0, q10, x10, none⟩, ⟨some 15, Op.load e (Operand.tmp 14), e, q11, x11, none⟩, ⟨some 16, Op.call { callee := Callee.value (Operand.tmp 11), args := #[Operand.tmp 15], argTypes := #[e] }, 4, q12, x12, none⟩] false).seq (Code.cond (Operand.tmp 16) ((Code.region 5 #[⟨some 17, Op.move (Operand.tmp 5), 3, q13, x13, none⟩, ⟨some 4, Op.assign (Operand.tmp 17), 3, q14, x14, none⟩] false).seq Code.ret) Code.skip)))).seq (Code.region 6 #[⟨some 18, Op.binOp BinOp.add 3 (Operand.tmp 8) (Operand.const (Value.int IntKind.i64 1)) 3, 3, q15, x15, none⟩, ⟨some 8, Op.move (Operand.tmp 18), 3, q16, x16, none⟩] false)))).loop)).seq ((Code.region 7 #[⟨some 4, Op.assign (Operand.const (Value.int IntKind.i64 (-1))), 3, q17, x17, none⟩] false).seq Code.ret))))
    (El : Nat → World → Value → α → Prop) (w : World) (B : Nat) (ao : Option Addr) (cl : Nat) (l : List α) (hll : l.length ≤ maxLen) (g : Nat) (cap : Array Value) (p : α → Bool) (hcf : ∀ args w, (callFunc g args).run Tryz.prog w = .ok (.enter g args) w)
    (R : (Nat → Prop) → World → List Value → α → Prop) (ag : Bool) (n : Nat) (hu : ∀ V, (underlying a).run Tryz.prog V = .ok (.slice e) V) (hag : ∀ W, (isAgg e).run Tryz.prog W = .ok ag W) (hsz : ∀ W, (sizeOf e).run Tryz.prog W = .ok n W) (h1 : ag = false → n = 1)
    (hsl : ∀ W, Below w.heap.size w W → SL n R (· < B) W (.slice ao l.length cl) l) (hto : ∀ {W u x}, ElG ag R B W u x → El B W u x)
    (hc : ∀ x ∈ l, ∀ u W, Below w.heap.size w W → El B W u x → Calls Tryz.prog g (#[u] ++ cap) W fun r W' => r = .returned (.bool (p x)) ∧ Below W.heap.size W W') :
    Calls Tryz.prog f #[.slice ao l.length cl, .func (.func g) #[] cap] w fun r w' => r = .returned (.int .i64 (idx p l)) ∧ Below w.heap.size w w' := by
  unfold maxLen at hll
  have HC := mkHid hc
  have HE := mkHid (fun k hk W hb => elAt (ag := ag) hu hsz h1 (hsl W hb) k hk)
  have hlen := fun W => lenAt hu (ao := ao) (len := l.length) (cl := cl) W
  clear hc hu hsl h1
  refine calls_of_wp hf hb ?_
  simp only [hn, List.size_toArray, List.length_cons, List.length_nil, Nat.reduceAdd, Nat.reduceSub, Array.replicate_succ, Array.replicate_zero, List.push_toArray, List.append_toArray, List.nil_append, List.cons_append]
  go_wp2_with fail
  go_loopw [8] (fun i wr => ∃ k : Nat, k ≤ l.length ∧ i = .int .i64 k ∧ Hid (∀ x ∈ l.take k, p x = false) ∧ Below w.heap.size w wr) (fun i _ => l.length - (intOf i).toNat)
  case atStart => exact ⟨0, Nat.zero_le _, rfl, (fun x hx => by cases hx), Below.refl _ _⟩
  case round =>
    obtain ⟨k, hk, rfl, HP, hBr⟩ := hrel
    by_cases hlt : k < l.length
    · obtain ⟨P, u, h1, h2, h3⟩ := HE.out k hlt _ hBr
      have HCALL := mkHid (HC.out l[k] (List.getElem_mem hlt) _ _ hBr (hto h3))
      clear h3
      cases ag
      · replace h2 : wr.cell? P = some u := h2
        go_wp2_with fail
        refine HCALL.out.mono ?_
        rintro r w2 ⟨rfl, hb2⟩
        have hB2 := hBr.trans (hb2.mono hBr.size)
        clear hb2 HCALL
        cases hp : p l[k]
        · have HX := mkHid (take_more hlt HP.out hp)
          clear hp
          go_wp2_with fail
          go_roundw
          case rel => exact ⟨k + 1, by omega, by go_num, HX.out, hB2⟩
          case measure => simp [intOf]; omega
        · have HX := mkHid (idx_hit hlt HP.out hp)
          clear hp
          go_wp2_with fail
          refine bodyPost_ret (results_tmp hr _ _ _) rfl ?_
          exact ⟨by rw [HX.out]; rfl, hB2⟩
      · obtain ⟨cs, rfl, h4⟩ : ∃ cs, u = .agg cs ∧ (loadCellsFrom P 0 n #[]).run Tryz.prog wr = .ok cs wr := h2
        go_wp2_with fail
        refine HCALL.out.mono ?_
        rintro r w2 ⟨rfl, hb2⟩
        have hB2 := hBr.trans (hb2.mono hBr.size)
        clear hb2 HCALL
        cases hp : p l[k]
        · have HX := mkHid (take_more hlt HP.out hp)
          clear hp
          go_wp2_with fail
          go_roundw
          case rel => exact ⟨k + 1, by omega, by go_num, HX.out, hB2⟩
          case measure => simp [intOf]; omega
        · have HX := mkHid (idx_hit hlt HP.out hp)
          clear hp
          go_wp2_with fail
          refine bodyPost_ret (results_tmp hr _ _ _) rfl ?_
          exact ⟨by rw [HX.out]; rfl, hB2⟩
    · have HX : Hid (idx p l = -1) := idx_none (by have := HP.out; rwa [List.take_of_length_le (by omega)] at this)
      go_wp2_with fail
      refine bodyPost_ret (results_tmp hr _ _ _) rfl ?_
      exact ⟨by rw [HX.out]; rfl, hBr⟩
set_option maxRecDepth 100000 in
set_option maxHeartbeats 1000000 in
theorem everyP1 {f b e : Nat} {F : Func} {q0 q1 q2 q3 q4 q5 : String} {x0 x1 x2 x3 x4 x5 : Array Edge} (hf : Tryz.prog.funcs[f]? = some F) (hn : F.ntmps = 8) (hr : F.results = #[ResultVar.tmp 3])
    (hb : F.body = some (((Code.region 0 #[⟨some 3, Op.assign (Operand.const (Value.bool false)), 4, q0, x0, none⟩] false).seq ((Code.region 1 #[⟨some 4, Op.load b (Operand.tmp 1), b, q1, x1, none⟩, ⟨some 5, Op.move (Operand.tmp 0), e, q2, x2, none⟩, ⟨some 6, Op.call { callee := Callee.value (Operand.tmp 4), args := #[Operand.tmp 5], argTypes := #[e] }, 4, q3, x3, none⟩, ⟨some 7, Op.unOp UnOp.not 4 (Operand.tmp 6), 4, q4, x4, none⟩, ⟨some 3, Op.assign (Operand.tmp 7), 4, q5, x5, none⟩] false).seq Code.ret))))
    (hlb : ∀ W, (isAgg b).run Tryz.prog W = .ok false W) (W : World) (P : Nat) (g : Nat) (first cap : Array Value) (u : Value) (bo : Bool) (hP : W.cell? ⟨P, 0, none⟩ = some (.func (.func g) first cap)) (hcf : ∀ args w, (callFunc g args).run Tryz.prog w = .ok (.enter g args) w)
    (hc : ∀ W', Below W.heap.size W W' → Calls Tryz.prog g (first ++ #[u] ++ cap) W' fun r W2 => r = .returned (.bool bo) ∧ Below W'.heap.size W' W2) :
    Calls Tryz.prog f #[u, .pointer (some ⟨P, 0, none⟩)] W fun r W' => r = .returned (.bool (!bo)) ∧ Below W.heap.size W W' := by
  have HC := mkHid hc
  clear hc
  refine calls_of_wp hf hb ?_
  simp only [hn, List.size_toArray, List.length_cons, List.length_nil, Nat.reduceAdd, Nat.reduceSub, Array.replicate_succ, Array.replicate_zero, List.push_toArray, List.append_toArray, List.nil_append, List.cons_append]
  go_wp2_with fail
  refine (HC.out _ (Below.refl _ _)).mono ?_
  rintro r W2 ⟨rfl, hb⟩
  go_wp2_with fail
  refine bodyPost_ret (results_tmp hr _ _ _) rfl ?_
  exact ⟨rfl, hb⟩
set_option maxRecDepth 100000 in
set_option maxHeartbeats 1000000 in
theorem everyA1 {f b e : Nat} {F : Func} {q0 q1 q2 q3 q4 q5 q6 : String} {x0 x1 x2 x3 x4 x5 x6 : Array Edge} (hf : Tryz.prog.funcs[f]? = some F) (hn : F.ntmps = 8) (hr : F.results = #[ResultVar.tmp 3])
    (hb : F.body = some (((Code.region 0 #[⟨some 2, Op.box e (Operand.tmp 0), 0, q0, x0, none⟩, ⟨some 3, Op.assign (Operand.const (Value.bool false)), 4, q1, x1, none⟩] false).seq ((Code.region 1 #[⟨some 4, Op.load b (Operand.tmp 1), b, q2, x2, none⟩, ⟨some 5, Op.load e (Operand.tmp 2), e, q3, x3, none⟩, ⟨some 6, Op.call { callee := Callee.value (Operand.tmp 4), args := #[Operand.tmp 5], argTypes := #[e] }, 4, q4, x4, none⟩, ⟨some 7, Op.unOp UnOp.not 4 (Operand.tmp 6), 4, q5, x5, none⟩, ⟨some 3, Op.assign (Operand.tmp 7), 4, q6, x6, none⟩] false).seq Code.ret))))
    (hlb : ∀ W, (isAgg b).run Tryz.prog W = .ok false W) (n : Nat) (hag : ∀ W, (isAgg e).run Tryz.prog W = .ok true W) (hsz : ∀ W, (sizeOf e).run Tryz.prog W = .ok n W) (W : World) (P : Nat) (g : Nat) (first cap : Array Value) (cs : Array Value) (hcs : cs.size = n) (bo : Bool) (hP : W.cell? ⟨P, 0, none⟩ = some (.func (.func g) first cap)) (hcf : ∀ args w, (callFunc g args).run Tryz.prog w = .ok (.enter g args) w)
    (hc : ∀ W', Below W.heap.size W W' → Calls Tryz.prog g (first ++ #[.agg cs] ++ cap) W' fun r W2 => r = .returned (.bool bo) ∧ Below W'.heap.size W' W2) :
    Calls Tryz.prog f #[.agg cs, .pointer (some ⟨P, 0, none⟩)] W fun r W' => r = .returned (.bool (!bo)) ∧ Below W.heap.size W W' := by
  have hPl := World.block_lt_of_cell? W _ hP
  have hld := run_loadCellsFrom_new (P := Tryz.prog) W e cs n hcs
  have HC := mkHid hc
  clear hc
  refine calls_of_wp hf hb ?_
  simp only [hn, List.size_toArray, List.length_cons, List.length_nil, Nat.reduceAdd, Nat.reduceSub, Array.replicate_succ, Array.replicate_zero, List.push_toArray, List.append_toArray, List.nil_append, List.cons_append]
  go_wp2_with fail
  have hB0 : ∀ o, Below W.heap.size W (W.alloc o) := fun o => (Below.refl _ _).alloc (Nat.le_refl _) o
  refine (HC.out _ (hB0 _)).mono ?_
  rintro r W2 ⟨rfl, hb⟩
  have hb2 : Below W.heap.size W W2 := (hB0 _).trans (hb.mono (by simp))
  clear hb hB0
  go_wp2_with fail
  refine bodyPost_ret (results_tmp hr _ _ _) rfl ?_
  exact ⟨rfl, hb2⟩
set_option maxRecDepth 100000 in
set_option maxHeartbeats 1000000 in
theorem everyG {α : Type} {f a b fc f1 : Nat} {F : Func} {q0 q1 q2 q3 q4 q5 q6 : String} {x0 x1 x2 x3 x4 x5 x6 : Array Edge} (hf : Tryz.prog.funcs[f]? = some F) (hn : F.ntmps = 9) (hr : F.results = #[ResultVar.tmp 4])
    (hb : F.body = some (((Code.region 0 #[⟨some 3, Op.box b (Operand.tmp 1), 0, q0, x0, none⟩, ⟨some 4, Op.assign (Operand.const (Value.bool false)), 4, q1, x1, none⟩] false).seq ((Code.region 1 #[⟨some 5, Op.move (Operand.tmp 0), a, q2, x2, none⟩, ⟨some 6, Op.makeFunc (Fn.func f1) #[] #[Operand.tmp 3], b, q3, x3, none⟩, ⟨some 7, Op.call { callee := Callee.value (Operand.func fc), args := #[Operand.tmp 5, Operand.tmp 6], argTypes := #[a, b] }, 4, q4, x4, none⟩, ⟨some 8, Op.unOp UnOp.not 4 (Operand.tmp 7), 4, q5, x5, none⟩, ⟨some 4, Op.assign (Operand.tmp 8), 4, q6, x6, none⟩] false).seq Code.ret))))
    (hcf : ∀ args w, (callFunc fc args).run Tryz.prog w = .ok (.enter fc args) w) (w : World) (v : Value) (g : Nat) (first cap : Array Value) (p : α → Bool) (l : List α)
    (hc : ∀ W, Below w.heap.size w W → W.cell? ⟨w.heap.size, 0, none⟩ = some (.func (.func g) first cap) → Calls Tryz.prog fc #[v, .func (.func f1) #[] #[.pointer (some ⟨w.heap.size, 0, none⟩)]] W fun r W' => r = .returned (.bool (l.any fun x => !p x)) ∧ Below W.heap.size W W') :
    Calls Tryz.prog f #[v, .func (.func g) first cap] w fun r w' => r = .returned (.bool (l.all p)) ∧ Below w.heap.size w w' := by
  have hmf : ∀ (fn : Fn) (first cap : Array Value) (w : World), (Instr.makeFunc fn first cap).run Tryz.prog w = .ok (.func fn first cap) w := fun _ _ _ _ => rfl
  have HC := mkHid hc
  clear hc
  have hB0 : ∀ o, Below w.heap.size w (w.alloc o) := fun o => (Below.refl _ _).alloc (Nat.le_refl _) o
  have HB0 := mkHid hB0
  clear hB0
  refine calls_of_wp hf hb ?_
  simp only [hn, List.size_toArray, List.length_cons, List.length_nil, Nat.reduceAdd, Nat.reduceSub, Array.replicate_succ, Array.replicate_zero, List.push_toArray, List.append_toArray, List.nil_append, List.cons_append]
  go_wp2_with fail
  refine (HC.out _ (HB0.out _) (by simp [go_sem])).mono ?_
  rintro r w1 ⟨rfl, hb⟩
  have hb2 : Below w.heap.size w w1 := (HB0.out _).trans (hb.mono (by simp))
  have HA := mkHid (all_not p l)
  clear hb
  go_wp2_with fail
  refine bodyPost_ret (results_tmp hr _ _ _) rfl ?_
  exact ⟨by rw [← HA.out]; rfl, hb2⟩
abbrev Ent (g : Nat) : Prop := ∀ args w, (callFunc g args).run Tryz.prog w = .ok (.enter g args) w
abbrev Ask1 {α : Type} (El : Nat → World → Value → α → Prop) (B : Nat) (w : World) (g : Nat) (cap : Array Value) (p : α → Bool) (l : List α) : Prop := ∀ x ∈ l, ∀ u W, Below w.heap.size w W → El B W u x → Calls Tryz.prog g (#[u] ++ cap) W fun r W' => r = .returned (.bool (p x)) ∧ Below W.heap.size W W'
abbrev Ask {α : Type} (El : Nat → World → Value → α → Prop) (B : Nat) (w : World) (g : Nat) (first cap : Array Value) (p : α → Bool) (l : List α) : Prop := ∀ x ∈ l, ∀ u W, Below w.heap.size w W → El B W u x → Calls Tryz.prog g (first ++ #[u] ++ cap) W fun r W' => r = .returned (.bool (p x)) ∧ Below W.heap.size W W'
def ElC (B : Nat) (w : World) (u : Value) (x : ClassD) : Prop := ∃ fo cf mo cm, u = .agg #[.string x.name, .string x.super, .slice fo x.fields.length cf, .slice mo x.meths.length cm] ∧ SL 3 RF (· < B) w (.slice fo x.fields.length cf) x.fields ∧ SL 9 RM (· < B) w (.slice mo x.meths.length cm) x.meths ∧ x.name.size ≤ maxLen ∧ x.super.size ≤ maxLen
theorem ElC.below {B : Nat} {w w' : World} {u : Value} {x : ClassD} (h : ElC B w u x) (hb : Below B w w') : ElC B w' u x := by
  obtain ⟨fo, cf, mo, cm, rfl, ef, em, es1, es2⟩ := h
  exact ⟨fo, cf, mo, cm, rfl, ef.keptF (Kp.below hb), em.keptM (Kp.below hb), es1, es2⟩
theorem indexC_any (w : World) (B : Nat) (v : Value) (l : List (ClassD)) (hv : SL 4 RC (· < B) w v l) (hB : B ≤ w.heap.size) (g : Nat) (cap : Array Value) (p : ClassD → Bool) (hcf : Ent g)
    (hc : Ask1 ElC B w g cap p l) :
    Calls Tryz.prog 188 #[v, .func (.func g) #[] cap] w fun r w' => r = .returned (.int .i64 (idx p l)) ∧ Below w.heap.size w w' := by
  have HV := hv
  obtain ⟨ao, cl, rfl, -, hll, -⟩ := hv
  refine indexG Tryz.func188 rfl rfl rfl ElC w B ao cl l hll g cap p hcf RC true 4 (fun _ => by kernel_rfl) (fun _ => by kernel_rfl) (fun _ => by kernel_rfl) nofun (fun W hb => HV.keptC (Kp.below (hb.mono hB))) ?_ hc
  rintro W u x ⟨cs, e, vf, vm, rfl, ⟨fo, cf, rfl, hf⟩, ⟨mo, cm, rfl, hm⟩, es⟩
  exact ⟨fo, cf, mo, cm, e, ⟨_, _, rfl, hf⟩, ⟨_, _, rfl, hm⟩, es⟩
theorem containsC_any (w : World) (B : Nat) (v : Value) (l : List (ClassD)) (hv : SL 4 RC (· < B) w v l) (hB : B ≤ w.heap.size) (g : Nat) (cap : Array Value) (p : ClassD → Bool) (hcf : Ent g)
    (hc : Ask1 ElC B w g cap p l) :
    Calls Tryz.prog 154 #[v, .func (.func g) #[] cap] w fun r w' => r = .returned (.bool (l.any p)) ∧ Below w.heap.size w w' := by
  have h := indexC_any w B v l hv hB g cap p hcf hc
  obtain ⟨ao, cl, rfl, -⟩ := hv
  exact containsG Tryz.func154 rfl rfl rfl (fun _ _ => by kernel_rfl) w ao _ cl g cap p l h
theorem everyC_any (w : World) (B : Nat) (v : Value) (l : List (ClassD)) (hv : SL 4 RC (· < B) w v l) (hB : B ≤ w.heap.size) (g : Nat) (first cap : Array Value) (p : ClassD → Bool) (hcf : Ent g)
    (hc : Ask ElC B w g first cap p l) :
    Calls Tryz.prog 115 #[v, .func (.func g) first cap] w fun r w' => r = .returned (.bool (l.all p)) ∧ Below w.heap.size w w' := by
  refine everyG Tryz.func115 rfl rfl rfl (fun _ _ => by kernel_rfl) w v g first cap p l fun W hW hP => ?_
  refine containsC_any W B v l (hv.keptC (Kp.below (hW.mono hB))) (Nat.le_trans hB hW.size) 155 _ (fun x => !p x) (fun _ _ => by kernel_rfl) fun x hx u W2 hW2 hu => ?_
  have hb := hW.trans (hW2.mono hW.size)
  obtain ⟨cs, rfl, hz⟩ : ∃ cs, u = .agg cs ∧ cs.size = 4 := by
    obtain ⟨_, _, _, _, rfl, -⟩ := hu
    exact ⟨_, rfl, rfl⟩
  exact everyA1 Tryz.func155 rfl rfl rfl (fun _ => by kernel_rfl) 4 (fun _ => by kernel_rfl) (fun _ => by kernel_rfl) W2 w.heap.size g first cap cs hz (p x) ((hW2.cell (World.block_lt_of_cell? W _ hP)).trans hP) hcf fun W' hW' => hc x hx _ W' (hb.trans (hW'.mono hb.size)) (hu.below (hW'.mono (Nat.le_trans hB hb.size)))
def ElF (_ : Nat) (_ : World) (u : Value) (x : FieldD) : Prop := u = .agg #[.string x.name, .int .i64 x.kind.kind, .string x.kind.cls] ∧ x.name.size ≤ maxLen ∧ x.kind.cls.size ≤ maxLen
theorem ElF.below {B : Nat} {w w' : World} {u : Value} {x : FieldD} (h : ElF B w u x) (_ : Below B w w') : ElF B w' u x := by
  obtain ⟨rfl, es1, es2⟩ := h
  exact ⟨rfl, es1, es2⟩
theorem indexF_any (w : World) (B : Nat) (v : Value) (l : List (FieldD)) (hv : SL 3 RF (· < B) w v l) (hB : B ≤ w.heap.size) (g : Nat) (cap : Array Value) (p : FieldD → Bool) (hcf : Ent g)
    (hc : Ask1 ElF B w g cap p l) :
    Calls Tryz.prog 190 #[v, .func (.func g) #[] cap] w fun r w' => r = .returned (.int .i64 (idx p l)) ∧ Below w.heap.size w w' := by
  have HV := hv
  obtain ⟨ao, cl, rfl, -, hll, -⟩ := hv
  refine indexG Tryz.func190 rfl rfl rfl ElF w B ao cl l hll g cap p hcf RF true 3 (fun _ => by kernel_rfl) (fun _ => by kernel_rfl) (fun _ => by kernel_rfl) nofun (fun W hb => HV.keptF (Kp.below (hb.mono hB))) ?_ hc
  rintro W u x ⟨cs, e, rfl, es⟩
  exact ⟨e, es⟩
theorem containsF_any (w : World) (B : Nat) (v : Value) (l : List (FieldD)) (hv : SL 3 RF (· < B) w v l) (hB : B ≤ w.heap.size) (g : Nat) (cap : Array Value) (p : FieldD → Bool) (hcf : Ent g)
    (hc : Ask1 ElF B w g cap p l) :
    Calls Tryz.prog 158 #[v, .func (.func g) #[] cap] w fun r w' => r = .returned (.bool (l.any p)) ∧ Below w.heap.size w w' := by
  have h := indexF_any w B v l hv hB g cap p hcf hc
  obtain ⟨ao, cl, rfl, -⟩ := hv
  exact containsG Tryz.func158 rfl rfl rfl (fun _ _ => by kernel_rfl) w ao _ cl g cap p l h
theorem everyF_any (w : World) (B : Nat) (v : Value) (l : List (FieldD)) (hv : SL 3 RF (· < B) w v l) (hB : B ≤ w.heap.size) (g : Nat) (first cap : Array Value) (p : FieldD → Bool) (hcf : Ent g)
    (hc : Ask ElF B w g first cap p l) :
    Calls Tryz.prog 121 #[v, .func (.func g) first cap] w fun r w' => r = .returned (.bool (l.all p)) ∧ Below w.heap.size w w' := by
  refine everyG Tryz.func121 rfl rfl rfl (fun _ _ => by kernel_rfl) w v g first cap p l fun W hW hP => ?_
  refine containsF_any W B v l (hv.keptF (Kp.below (hW.mono hB))) (Nat.le_trans hB hW.size) 159 _ (fun x => !p x) (fun _ _ => by kernel_rfl) fun x hx u W2 hW2 hu => ?_
  have hb := hW.trans (hW2.mono hW.size)
  obtain ⟨cs, rfl, hz⟩ : ∃ cs, u = .agg cs ∧ cs.size = 3 := by
    obtain ⟨rfl, -⟩ := hu
    exact ⟨_, rfl, rfl⟩
  exact everyA1 Tryz.func159 rfl rfl rfl (fun _ => by kernel_rfl) 3 (fun _ => by kernel_rfl) (fun _ => by kernel_rfl) W2 w.heap.size g first cap cs hz (p x) ((hW2.cell (World.block_lt_of_cell? W _ hP)).trans hP) hcf fun W' hW' => hc x hx _ W' (hb.trans (hW'.mono hb.size)) (hu.below (hW'.mono (Nat.le_trans hB hb.size)))
def ElK (_ : Nat) (_ : World) (u : Value) (x : KindD) : Prop := u = .agg #[.int .i64 x.kind, .string x.cls] ∧ x.cls.size ≤ maxLen
theorem ElK.below {B : Nat} {w w' : World} {u : Value} {x : KindD} (h : ElK B w u x) (_ : Below B w w') : ElK B w' u x := by
  obtain ⟨rfl, es1⟩ := h
  exact ⟨rfl, es1⟩
theorem indexK_any (w : World) (B : Nat) (v : Value) (l : List (KindD)) (hv : SL 2 RK (· < B) w v l) (hB : B ≤ w.heap.size) (g : Nat) (cap : Array Value) (p : KindD → Bool) (hcf : Ent g)
    (hc : Ask1 ElK B w g cap p l) :
    Calls Tryz.prog 199 #[v, .func (.func g) #[] cap] w fun r w' => r = .returned (.int .i64 (idx p l)) ∧ Below w.heap.size w w' := by
  have HV := hv
  obtain ⟨ao, cl, rfl, -, hll, -⟩ := hv
  refine indexG Tryz.func199 rfl rfl rfl ElK w B ao cl l hll g cap p hcf RK true 2 (fun _ => by kernel_rfl) (fun _ => by kernel_rfl) (fun _ => by kernel_rfl) nofun (fun W hb => HV.keptK (Kp.below (hb.mono hB))) ?_ hc
  rintro W u x ⟨cs, e, rfl, es⟩
  exact ⟨e, es⟩
theorem containsK_any (w : World) (B : Nat) (v : Value) (l : List (KindD)) (hv : SL 2 RK (· < B) w v l) (hB : B ≤ w.heap.size) (g : Nat) (cap : Array Value) (p : KindD → Bool) (hcf : Ent g)
    (hc : Ask1 ElK B w g cap p l) :
    Calls Tryz.prog 191 #[v, .func (.func g) #[] cap] w fun r w' => r = .returned (.bool (l.any p)) ∧ Below w.heap.size w w' := by
  have h := indexK_any w B v l hv hB g cap p hcf hc
  obtain ⟨ao, cl, rfl, -⟩ := hv
  exact containsG Tryz.func191 rfl rfl rfl (fun _ _ => by kernel_rfl) w ao _ cl g cap p l h
theorem everyK_any (w : World) (B : Nat) (v : Value) (l : List (KindD)) (hv : SL 2 RK (· < B) w v l) (hB : B ≤ w.heap.size) (g : Nat) (first cap : Array Value) (p : KindD → Bool) (hcf : Ent g)
    (hc : Ask ElK B w g first cap p l) :
    Calls Tryz.prog 160 #[v, .func (.func g) first cap] w fun r w' => r = .returned (.bool (l.all p)) ∧ Below w.heap.size w w' := by
  refine everyG Tryz.func160 rfl rfl rfl (fun _ _ => by kernel_rfl) w v g first cap p l fun W hW hP => ?_
  refine containsK_any W B v l (hv.keptK (Kp.below (hW.mono hB))) (Nat.le_trans hB hW.size) 192 _ (fun x => !p x) (fun _ _ => by kernel_rfl) fun x hx u W2 hW2 hu => ?_
  have hb := hW.trans (hW2.mono hW.size)
  obtain ⟨cs, rfl, hz⟩ : ∃ cs, u = .agg cs ∧ cs.size = 2 := by
    obtain ⟨rfl, -⟩ := hu
    exact ⟨_, rfl, rfl⟩
  exact everyA1 Tryz.func192 rfl rfl rfl (fun _ => by kernel_rfl) 2 (fun _ => by kernel_rfl) (fun _ => by kernel_rfl) W2 w.heap.size g first cap cs hz (p x) ((hW2.cell (World.block_lt_of_cell? W _ hP)).trans hP) hcf fun W' hW' => hc x hx _ W' (hb.trans (hW'.mono hb.size)) (hu.below (hW'.mono (Nat.le_trans hB hb.size)))
def ElH (_ : Nat) (_ : World) (u : Value) (x : HandD) : Prop := u = .agg #[.int .i64 x.frm, .int .i64 x.upto, .int .i64 x.loc, .string x.cls] ∧ x.cls.size ≤ maxLen
theorem ElH.below {B : Nat} {w w' : World} {u : Value} {x : HandD} (h : ElH B w u x) (_ : Below B w w') : ElH B w' u x := by
  obtain ⟨rfl, es1⟩ := h
  exact ⟨rfl, es1⟩
theorem indexH_any (w : World) (B : Nat) (v : Value) (l : List (HandD)) (hv : SL 4 RH (· < B) w v l) (hB : B ≤ w.heap.size) (g : Nat) (cap : Array Value) (p : HandD → Bool) (hcf : Ent g)
    (hc : Ask1 ElH B w g cap p l) :
    Calls Tryz.prog 200 #[v, .func (.func g) #[] cap] w fun r w' => r = .returned (.int .i64 (idx p l)) ∧ Below w.heap.size w w' := by
  have HV := hv
  obtain ⟨ao, cl, rfl, -, hll, -⟩ := hv
  refine indexG Tryz.func200 rfl rfl rfl ElH w B ao cl l hll g cap p hcf RH true 4 (fun _ => by kernel_rfl) (fun _ => by kernel_rfl) (fun _ => by kernel_rfl) nofun (fun W hb => HV.keptH (Kp.below (hb.mono hB))) ?_ hc
  rintro W u x ⟨cs, e, rfl, es⟩
  exact ⟨e, es⟩
theorem containsH_any (w : World) (B : Nat) (v : Value) (l : List (HandD)) (hv : SL 4 RH (· < B) w v l) (hB : B ≤ w.heap.size) (g : Nat) (cap : Array Value) (p : HandD → Bool) (hcf : Ent g)
    (hc : Ask1 ElH B w g cap p l) :
    Calls Tryz.prog 194 #[v, .func (.func g) #[] cap] w fun r w' => r = .returned (.bool (l.any p)) ∧ Below w.heap.size w w' := by
  have h := indexH_any w B v l hv hB g cap p hcf hc
  obtain ⟨ao, cl, rfl, -⟩ := hv
  exact containsG Tryz.func194 rfl rfl rfl (fun _ _ => by kernel_rfl) w ao _ cl g cap p l h
theorem everyH_any (w : World) (B : Nat) (v : Value) (l : List (HandD)) (hv : SL 4 RH (· < B) w v l) (hB : B ≤ w.heap.size) (g : Nat) (first cap : Array Value) (p : HandD → Bool) (hcf : Ent g)
    (hc : Ask ElH B w g first cap p l) :
    Calls Tryz.prog 164 #[v, .func (.func g) first cap] w fun r w' => r = .returned (.bool (l.all p)) ∧ Below w.heap.size w w' := by
  refine everyG Tryz.func164 rfl rfl rfl (fun _ _ => by kernel_rfl) w v g first cap p l fun W hW hP => ?_
  refine containsH_any W B v l (hv.keptH (Kp.below (hW.mono hB))) (Nat.le_trans hB hW.size) 195 _ (fun x => !p x) (fun _ _ => by kernel_rfl) fun x hx u W2 hW2 hu => ?_
  have hb := hW.trans (hW2.mono hW.size)
  obtain ⟨cs, rfl, hz⟩ : ∃ cs, u = .agg cs ∧ cs.size = 4 := by
    obtain ⟨rfl, -⟩ := hu
    exact ⟨_, rfl, rfl⟩
  exact everyA1 Tryz.func195 rfl rfl rfl (fun _ => by kernel_rfl) 4 (fun _ => by kernel_rfl) (fun _ => by kernel_rfl) W2 w.heap.size g first cap cs hz (p x) ((hW2.cell (World.block_lt_of_cell? W _ hP)).trans hP) hcf fun W' hW' => hc x hx _ W' (hb.trans (hW'.mono hb.size)) (hu.below (hW'.mono (Nat.le_trans hB hb.size)))
def ElM (B : Nat) (w : World) (u : Value) (x : MethD) : Prop := ∃ ao ca ho ch, u = .agg #[.string x.name, .bool x.static, .slice ao x.args.length ca, .int .i64 x.ret.kind, .string x.ret.cls, .int .i64 x.stack, .int .i64 x.locals, .string x.code, .slice ho x.hands.length ch] ∧ SL 2 RK (· < B) w (.slice ao x.args.length ca) x.args ∧ SL 4 RH (· < B) w (.slice ho x.hands.length ch) x.hands ∧ x.name.size ≤ maxLen ∧ x.ret.cls.size ≤ maxLen ∧ x.code.size ≤ maxLen
theorem ElM.below {B : Nat} {w w' : World} {u : Value} {x : MethD} (h : ElM B w u x) (hb : Below B w w') : ElM B w' u x := by
  obtain ⟨ao, ca, ho, ch, rfl, ea, eh, es1, es2, es3⟩ := h
  exact ⟨ao, ca, ho, ch, rfl, ea.keptK (Kp.below hb), eh.keptH (Kp.below hb), es1, es2, es3⟩
theorem indexM_any (w : World) (B : Nat) (v : Value) (l : List (MethD)) (hv : SL 9 RM (· < B) w v l) (hB : B ≤ w.heap.size) (g : Nat) (cap : Array Value) (p : MethD → Bool) (hcf : Ent g)
    (hc : Ask1 ElM B w g cap p l) :
    Calls Tryz.prog 193 #[v, .func (.func g) #[] cap] w fun r w' => r = .returned (.int .i64 (idx p l)) ∧ Below w.heap.size w w' := by
  have HV := hv
  obtain ⟨ao, cl, rfl, -, hll, -⟩ := hv
  refine indexG Tryz.func193 rfl rfl rfl ElM w B ao cl l hll g cap p hcf RM true 9 (fun _ => by kernel_rfl) (fun _ => by kernel_rfl) (fun _ => by kernel_rfl) nofun (fun W hb => HV.keptM (Kp.below (hb.mono hB))) ?_ hc
  rintro W u x ⟨cs, e, va, vh, rfl, ⟨fo, cf, rfl, hf⟩, ⟨mo, cm, rfl, hm⟩, es⟩
  exact ⟨fo, cf, mo, cm, e, ⟨_, _, rfl, hf⟩, ⟨_, _, rfl, hm⟩, es⟩
theorem containsM_any (w : World) (B : Nat) (v : Value) (l : List (MethD)) (hv : SL 9 RM (· < B) w v l) (hB : B ≤ w.heap.size) (g : Nat) (cap : Array Value) (p : MethD → Bool) (hcf : Ent g)
    (hc : Ask1 ElM B w g cap p l) :
    Calls Tryz.prog 162 #[v, .func (.func g) #[] cap] w fun r w' => r = .returned (.bool (l.any p)) ∧ Below w.heap.size w w' := by
  have h := indexM_any w B v l hv hB g cap p hcf hc
  obtain ⟨ao, cl, rfl, -⟩ := hv
  exact containsG Tryz.func162 rfl rfl rfl (fun _ _ => by kernel_rfl) w ao _ cl g cap p l h
theorem everyM_any (w : World) (B : Nat) (v : Value) (l : List (MethD)) (hv : SL 9 RM (· < B) w v l) (hB : B ≤ w.heap.size) (g : Nat) (first cap : Array Value) (p : MethD → Bool) (hcf : Ent g)
    (hc : Ask ElM B w g first cap p l) :
    Calls Tryz.prog 124 #[v, .func (.func g) first cap] w fun r w' => r = .returned (.bool (l.all p)) ∧ Below w.heap.size w w' := by
  refine everyG Tryz.func124 rfl rfl rfl (fun _ _ => by kernel_rfl) w v g first cap p l fun W hW hP => ?_
  refine containsM_any W B v l (hv.keptM (Kp.below (hW.mono hB))) (Nat.le_trans hB hW.size) 163 _ (fun x => !p x) (fun _ _ => by kernel_rfl) fun x hx u W2 hW2 hu => ?_
  have hb := hW.trans (hW2.mono hW.size)
  obtain ⟨cs, rfl, hz⟩ : ∃ cs, u = .agg cs ∧ cs.size = 9 := by
    obtain ⟨_, _, _, _, rfl, -⟩ := hu
    exact ⟨_, rfl, rfl⟩
  exact everyA1 Tryz.func163 rfl rfl rfl (fun _ => by kernel_rfl) 9 (fun _ => by kernel_rfl) (fun _ => by kernel_rfl) W2 w.heap.size g first cap cs hz (p x) ((hW2.cell (World.block_lt_of_cell? W _ hP)).trans hP) hcf fun W' hW' => hc x hx _ W' (hb.trans (hW'.mono hb.size)) (hu.below (hW'.mono (Nat.le_trans hB hb.size)))
def ElS (_ : Nat) (_ : World) (u : Value) (x : ByteArray) : Prop := u = .string x ∧ x.size ≤ maxLen
theorem ElS.below {B : Nat} {w w' : World} {u : Value} {x : ByteArray} (h : ElS B w u x) (_ : Below B w w') : ElS B w' u x := by
  obtain ⟨rfl, es1⟩ := h
  exact ⟨rfl, es1⟩
theorem indexS_any (w : World) (B : Nat) (v : Value) (l : List (ByteArray)) (hv : SL 1 RS (· < B) w v l) (hB : B ≤ w.heap.size) (g : Nat) (cap : Array Value) (p : ByteArray → Bool) (hcf : Ent g)
    (hc : Ask1 ElS B w g cap p l) :
    Calls Tryz.prog 198 #[v, .func (.func g) #[] cap] w fun r w' => r = .returned (.int .i64 (idx p l)) ∧ Below w.heap.size w w' := by
  have HV := hv
  obtain ⟨ao, cl, rfl, -, hll, -⟩ := hv
  refine indexG Tryz.func198 rfl rfl rfl ElS w B ao cl l hll g cap p hcf RS false 1 (fun _ => by kernel_rfl) (fun _ => by kernel_rfl) (fun _ => by kernel_rfl) (fun _ => rfl) (fun W hb => HV.keptS (Kp.below (hb.mono hB))) ?_ hc
  rintro W u x ⟨cs, e, rfl, es⟩
  exact ⟨(List.head_eq_of_cons_eq e).symm, es⟩
theorem containsS_any (w : World) (B : Nat) (v : Value) (l : List (ByteArray)) (hv : SL 1 RS (· < B) w v l) (hB : B ≤ w.heap.size) (g : Nat) (cap : Array Value) (p : ByteArray → Bool) (hcf : Ent g)
    (hc : Ask1 ElS B w g cap p l) :
    Calls Tryz.prog 186 #[v, .func (.func g) #[] cap] w fun r w' => r = .returned (.bool (l.any p)) ∧ Below w.heap.size w w' := by
  have h := indexS_any w B v l hv hB g cap p hcf hc
  obtain ⟨ao, cl, rfl, -⟩ := hv
  exact containsG Tryz.func186 rfl rfl rfl (fun _ _ => by kernel_rfl) w ao _ cl g cap p l h
theorem everyS_any (w : World) (B : Nat) (v : Value) (l : List (ByteArray)) (hv : SL 1 RS (· < B) w v l) (hB : B ≤ w.heap.size) (g : Nat) (first cap : Array Value) (p : ByteArray → Bool) (hcf : Ent g)
    (hc : Ask ElS B w g first cap p l) :
    Calls Tryz.prog 152 #[v, .func (.func g) first cap] w fun r w' => r = .returned (.bool (l.all p)) ∧ Below w.heap.size w w' := by
  refine everyG Tryz.func152 rfl rfl rfl (fun _ _ => by kernel_rfl) w v g first cap p l fun W hW hP => ?_
  refine containsS_any W B v l (hv.keptS (Kp.below (hW.mono hB))) (Nat.le_trans hB hW.size) 187 _ (fun x => !p x) (fun _ _ => by kernel_rfl) fun x hx u W2 hW2 hu => ?_
  have hb := hW.trans (hW2.mono hW.size)
  exact everyP1 Tryz.func187 rfl rfl rfl (fun _ => by kernel_rfl) W2 w.heap.size g first cap u (p x) ((hW2.cell (World.block_lt_of_cell? W _ hP)).trans hP) hcf fun W' hW' => hc x hx _ W' (hb.trans (hW'.mono hb.size)) (hu.below (hW'.mono (Nat.le_trans hB hb.size)))
def ElIs (B : Nat) (w : World) (u : Value) (x : List Nat) : Prop := ∃ ao ca, u = .slice ao x.length ca ∧ SL 1 RO (· < B) w (.slice ao x.length ca) x
theorem ElIs.below {B : Nat} {w w' : World} {u : Value} {x : List Nat} (h : ElIs B w u x) (hb : Below B w w') : ElIs B w' u x := by
  obtain ⟨ao, ca, rfl, ea⟩ := h
  exact ⟨ao, ca, rfl, ea.keptO (Kp.below hb)⟩
theorem indexIs_any (w : World) (B : Nat) (v : Value) (l : List (List Nat)) (hv : SL 1 (RSl 1 RO) (· < B) w v l) (hB : B ≤ w.heap.size) (g : Nat) (cap : Array Value) (p : List Nat → Bool) (hcf : Ent g)
    (hc : Ask1 ElIs B w g cap p l) :
    Calls Tryz.prog 189 #[v, .func (.func g) #[] cap] w fun r w' => r = .returned (.int .i64 (idx p l)) ∧ Below w.heap.size w w' := by
  have HV := hv
  obtain ⟨ao, cl, rfl, -, hll, -⟩ := hv
  refine indexG Tryz.func189 rfl rfl rfl ElIs w B ao cl l hll g cap p hcf (RSl 1 RO) false 1 (fun _ => by kernel_rfl) (fun _ => by kernel_rfl) (fun _ => by kernel_rfl) (fun _ => rfl) (fun W hb => HV.keptSl (Kp.below (hb.mono hB)) fun _ _ h => h) ?_ hc
  rintro W u x ⟨cs, e, v, rfl, ao, ca, rfl, h⟩
  exact ⟨ao, ca, (List.head_eq_of_cons_eq e).symm, _, _, rfl, h⟩
theorem containsIs_any (w : World) (B : Nat) (v : Value) (l : List (List Nat)) (hv : SL 1 (RSl 1 RO) (· < B) w v l) (hB : B ≤ w.heap.size) (g : Nat) (cap : Array Value) (p : List Nat → Bool) (hcf : Ent g)
    (hc : Ask1 ElIs B w g cap p l) :
    Calls Tryz.prog 156 #[v, .func (.func g) #[] cap] w fun r w' => r = .returned (.bool (l.any p)) ∧ Below w.heap.size w w' := by
  have h := indexIs_any w B v l hv hB g cap p hcf hc
  obtain ⟨ao, cl, rfl, -⟩ := hv
  exact containsG Tryz.func156 rfl rfl rfl (fun _ _ => by kernel_rfl) w ao _ cl g cap p l h
theorem everyIs_any (w : World) (B : Nat) (v : Value) (l : List (List Nat)) (hv : SL 1 (RSl 1 RO) (· < B) w v l) (hB : B ≤ w.heap.size) (g : Nat) (first cap : Array Value) (p : List Nat → Bool) (hcf : Ent g)
    (hc : Ask ElIs B w g first cap p l) :
    Calls Tryz.prog 118 #[v, .func (.func g) first cap] w fun r w' => r = .returned (.bool (l.all p)) ∧ Below w.heap.size w w' := by
  refine everyG Tryz.func118 rfl rfl rfl (fun _ _ => by kernel_rfl) w v g first cap p l fun W hW hP => ?_
  refine containsIs_any W B v l (hv.keptSl (Kp.below (hW.mono hB)) fun _ _ h => h) (Nat.le_trans hB hW.size) 157 _ (fun x => !p x) (fun _ _ => by kernel_rfl) fun x hx u W2 hW2 hu => ?_
  have hb := hW.trans (hW2.mono hW.size)
  exact everyP1 Tryz.func157 rfl rfl rfl (fun _ => by kernel_rfl) W2 w.heap.size g first cap u (p x) ((hW2.cell (World.block_lt_of_cell? W _ hP)).trans hP) hcf fun W' hW' => hc x hx _ W' (hb.trans (hW'.mono hb.size)) (hu.below (hW'.mono (Nat.le_trans hB hb.size)))
def ElFs (B : Nat) (w : World) (u : Value) (x : List FieldD) : Prop := ∃ ao ca, u = .slice ao x.length ca ∧ SL 3 RF (· < B) w (.slice ao x.length ca) x
theorem ElFs.below {B : Nat} {w w' : World} {u : Value} {x : List FieldD} (h : ElFs B w u x) (hb : Below B w w') : ElFs B w' u x := by
  obtain ⟨ao, ca, rfl, ea⟩ := h
  exact ⟨ao, ca, rfl, ea.keptF (Kp.below hb)⟩
theorem indexFs_any (w : World) (B : Nat) (v : Value) (l : List (List FieldD)) (hv : SL 1 (RSl 3 RF) (· < B) w v l) (hB : B ≤ w.heap.size) (g : Nat) (cap : Array Value) (p : List FieldD → Bool) (hcf : Ent g)
    (hc : Ask1 ElFs B w g cap p l) :
    Calls Tryz.prog 196 #[v, .func (.func g) #[] cap] w fun r w' => r = .returned (.int .i64 (idx p l)) ∧ Below w.heap.size w w' := by
  have HV := hv
  obtain ⟨ao, cl, rfl, -, hll, -⟩ := hv
  refine indexG Tryz.func196 rfl rfl rfl ElFs w B ao cl l hll g cap p hcf (RSl 3 RF) false 1 (fun _ => by kernel_rfl) (fun _ => by kernel_rfl) (fun _ => by kernel_rfl) (fun _ => rfl) (fun W hb => HV.keptSl (Kp.below (hb.mono hB)) fun _ _ h => h) ?_ hc
  rintro W u x ⟨cs, e, v, rfl, ao, ca, rfl, h⟩
  exact ⟨ao, ca, (List.head_eq_of_cons_eq e).symm, _, _, rfl, h⟩
theorem containsFs_any (w : World) (B : Nat) (v : Value) (l : List (List FieldD)) (hv : SL 1 (RSl 3 RF) (· < B) w v l) (hB : B ≤ w.heap.size) (g : Nat) (cap : Array Value) (p : List FieldD → Bool) (hcf : Ent g)
    (hc : Ask1 ElFs B w g cap p l) :
    Calls Tryz.prog 166 #[v, .func (.func g) #[] cap] w fun r w' => r = .returned (.bool (l.any p)) ∧ Below w.heap.size w w' := by
  have h := indexFs_any w B v l hv hB g cap p hcf hc
  obtain ⟨ao, cl, rfl, -⟩ := hv
  exact containsG Tryz.func166 rfl rfl rfl (fun _ _ => by kernel_rfl) w ao _ cl g cap p l h
theorem everyFs_any (w : World) (B : Nat) (v : Value) (l : List (List FieldD)) (hv : SL 1 (RSl 3 RF) (· < B) w v l) (hB : B ≤ w.heap.size) (g : Nat) (first cap : Array Value) (p : List FieldD → Bool) (hcf : Ent g)
    (hc : Ask ElFs B w g first cap p l) :
    Calls Tryz.prog 126 #[v, .func (.func g) first cap] w fun r w' => r = .returned (.bool (l.all p)) ∧ Below w.heap.size w w' := by
  refine everyG Tryz.func126 rfl rfl rfl (fun _ _ => by kernel_rfl) w v g first cap p l fun W hW hP => ?_
  refine containsFs_any W B v l (hv.keptSl (Kp.below (hW.mono hB)) fun _ _ h => h) (Nat.le_trans hB hW.size) 167 _ (fun x => !p x) (fun _ _ => by kernel_rfl) fun x hx u W2 hW2 hu => ?_
  have hb := hW.trans (hW2.mono hW.size)
  exact everyP1 Tryz.func167 rfl rfl rfl (fun _ => by kernel_rfl) W2 w.heap.size g first cap u (p x) ((hW2.cell (World.block_lt_of_cell? W _ hP)).trans hP) hcf fun W' hW' => hc x hx _ W' (hb.trans (hW'.mono hb.size)) (hu.below (hW'.mono (Nat.le_trans hB hb.size)))
def ElSs (B : Nat) (w : World) (u : Value) (x : List ByteArray) : Prop := ∃ ao ca, u = .slice ao x.length ca ∧ SL 1 RS (· < B) w (.slice ao x.length ca) x
theorem ElSs.below {B : Nat} {w w' : World} {u : Value} {x : List ByteArray} (h : ElSs B w u x) (hb : Below B w w') : ElSs B w' u x := by
  obtain ⟨ao, ca, rfl, ea⟩ := h
  exact ⟨ao, ca, rfl, ea.keptS (Kp.below hb)⟩
theorem indexSs_any (w : World) (B : Nat) (v : Value) (l : List (List ByteArray)) (hv : SL 1 (RSl 1 RS) (· < B) w v l) (hB : B ≤ w.heap.size) (g : Nat) (cap : Array Value) (p : List ByteArray → Bool) (hcf : Ent g)
    (hc : Ask1 ElSs B w g cap p l) :
    Calls Tryz.prog 197 #[v, .func (.func g) #[] cap] w fun r w' => r = .returned (.int .i64 (idx p l)) ∧ Below w.heap.size w w' := by
  have HV := hv
  obtain ⟨ao, cl, rfl, -, hll, -⟩ := hv
  refine indexG Tryz.func197 rfl rfl rfl ElSs w B ao cl l hll g cap p hcf (RSl 1 RS) false 1 (fun _ => by kernel_rfl) (fun _ => by kernel_rfl) (fun _ => by kernel_rfl) (fun _ => rfl) (fun W hb => HV.keptSl (Kp.below (hb.mono hB)) fun _ _ h => h) ?_ hc
  rintro W u x ⟨cs, e, v, rfl, ao, ca, rfl, h⟩
  exact ⟨ao, ca, (List.head_eq_of_cons_eq e).symm, _, _, rfl, h⟩
theorem containsSs_any (w : World) (B : Nat) (v : Value) (l : List (List ByteArray)) (hv : SL 1 (RSl 1 RS) (· < B) w v l) (hB : B ≤ w.heap.size) (g : Nat) (cap : Array Value) (p : List ByteArray → Bool) (hcf : Ent g)
    (hc : Ask1 ElSs B w g cap p l) :
    Calls Tryz.prog 171 #[v, .func (.func g) #[] cap] w fun r w' => r = .returned (.bool (l.any p)) ∧ Below w.heap.size w w' := by
  have h := indexSs_any w B v l hv hB g cap p hcf hc
  obtain ⟨ao, cl, rfl, -⟩ := hv
  exact containsG Tryz.func171 rfl rfl rfl (fun _ _ => by kernel_rfl) w ao _ cl g cap p l h
theorem everySs_any (w : World) (B : Nat) (v : Value) (l : List (List ByteArray)) (hv : SL 1 (RSl 1 RS) (· < B) w v l) (hB : B ≤ w.heap.size) (g : Nat) (first cap : Array Value) (p : List ByteArray → Bool) (hcf : Ent g)
    (hc : Ask ElSs B w g first cap p l) :
    Calls Tryz.prog 136 #[v, .func (.func g) first cap] w fun r w' => r = .returned (.bool (l.all p)) ∧ Below w.heap.size w w' := by
  refine everyG Tryz.func136 rfl rfl rfl (fun _ _ => by kernel_rfl) w v g first cap p l fun W hW hP => ?_
  refine containsSs_any W B v l (hv.keptSl (Kp.below (hW.mono hB)) fun _ _ h => h) (Nat.le_trans hB hW.size) 172 _ (fun x => !p x) (fun _ _ => by kernel_rfl) fun x hx u W2 hW2 hu => ?_
  have hb := hW.trans (hW2.mono hW.size)
  exact everyP1 Tryz.func172 rfl rfl rfl (fun _ => by kernel_rfl) W2 w.heap.size g first cap u (p x) ((hW2.cell (World.block_lt_of_cell? W _ hP)).trans hP) hcf fun W' hW' => hc x hx _ W' (hb.trans (hW'.mono hb.size)) (hu.below (hW'.mono (Nat.le_trans hB hb.size)))
end Go.Proofs.YtfibgdcpbkaaoaaGreatDoor
/- Is there a class of a name? -/
namespace Go.Proofs.YtfibgdcpbkaaoaaGreatDoor
open Go.RowKit
def Nums (w : World) (b : Nat) (l : List ClassD) : Prop := ∃ Bm, w.cell? ⟨b, 5, none⟩ = some (.map (some Bm)) ∧ NumMap w Bm l
theorem Nums.lt {w : World} {b : Nat} {l : List ClassD} (h : Nums w b l) : b < w.heap.size := by
  obtain ⟨Bm, h, _⟩ := h
  exact World.block_lt_of_cell? w _ h
theorem Nums.below {w w' : World} {b : Nat} {l : List ClassD} (h : Nums w b l) (hb : Below w.heap.size w w') : Nums w' b l := by
  have hl := h.lt
  obtain ⟨Bm, h, hn⟩ := h
  exact ⟨Bm, (hb.cell (p := ⟨b, 5, none⟩) hl).trans h, hn.below hb hn.lt⟩
theorem numberN (w : World) (b : Nat) (l : List ClassD) (s : ByteArray) (hN : Nums w b l) (hs : s.size ≤ maxLen) :
    Calls Tryz.prog 61 #[.pointer (some ⟨b, 0, none⟩), .string s] w fun r w' => r = .returned (.int .i64 (num l s)) ∧ w' = w := by
  obtain ⟨Bm, h, hn⟩ := hN
  exact number_any w b Bm l s h hn hs
theorem has1_any (w : World) (b P : Nat) (l : List ClassD) (s : ByteArray) (hN : Nums w b l) (hP : w.cell? ⟨P, 0, none⟩ = some (.pointer (some ⟨b, 0, none⟩))) (hs : s.size ≤ maxLen) :
    Calls Tryz.prog 153 #[.string s, .pointer (some ⟨P, 0, none⟩)] w fun r w' => r = .returned (.bool (hasC l s)) ∧ w' = w := by
  have HN := mkHid hN
  clear hN
  go_enter Tryz.func153, Tryz.ntmps153
  go_wp2_with fail
  refine (numberN _ b l s HN.out hs).mono ?_
  rintro r w1 ⟨rfl, rfl⟩
  clear hs hP
  go_wp2_with fail
  go_ret
  exact ⟨rfl, rfl⟩
set_option maxHeartbeats 1000000 in
theorem has_any (w : World) (b B : Nat) (l : List ClassD) (v : Value) (ns : List ByteArray) (hN : Nums w b l) (hv : SL 1 RS (· < B) w v ns) (hB : B ≤ w.heap.size) :
    Calls Tryz.prog 114 #[.pointer (some ⟨b, 0, none⟩), v] w fun r w' => r = .returned (.bool (ns.all (hasC l))) ∧ Below w.heap.size w w' := by
  have hmf : ∀ (fn : Fn) (first cap : Array Value) (w : World), (Instr.makeFunc fn first cap).run Tryz.prog w = .ok (.func fn first cap) w := fun _ _ _ _ => rfl
  have HV := mkHid hv
  obtain ⟨ao, cl, rfl, -⟩ := hv
  have HN := mkHid hN
  have HB0 := mkHid (fun o => (Below.refl w.heap.size w).alloc (Nat.le_refl _) o)
  clear hN
  go_enter Tryz.func114, Tryz.ntmps114
  go_wp2_with fail
  refine (everyS_any _ B _ ns (HV.out.keptS (Kp.below ((HB0.out _).mono hB))) (by simp; omega) 153 #[] _ (hasC l) (fun args w => by kernel_rfl) ?_).mono ?_
  · rintro x hx u W hW ⟨rfl, hs⟩
    refine (has1_any W b w.heap.size l x ((HN.out.below (HB0.out _)).below hW) ((hW.cell (p := ⟨w.heap.size, 0, none⟩) (by simp)).trans (by simp [go_sem])) hs).mono ?_
    rintro r w' ⟨rfl, rfl⟩
    exact ⟨rfl, Below.refl _ _⟩
  rintro r w1 ⟨rfl, hb⟩
  have hb2 : Below w.heap.size w w1 := (HB0.out _).trans (hb.mono (by simp))
  clear hb
  go_wp2_with fail
  go_ret
  exact ⟨rfl, hb2⟩
theorem one_S (w : World) (s : ByteArray) (t g : Nat) (hs : s.size ≤ maxLen) (hg : w.heap.size = g) : SL 1 RS (· < g + 1) (w.alloc (.cells #[.string s] t)) (.slice (some ⟨g, 0, none⟩) 1 1) [s] := by
  subst hg
  refine ⟨some ⟨w.heap.size, 0, none⟩, 1, rfl, Nat.le_refl _, by unfold maxLen; simp, fun k hk => ?_⟩
  have : k = 0 := by simpa using hk
  subst this
  refine ⟨w.heap.size, 0, [.string s], rfl, by simp, by simp, rfl, fun j hj => ?_, rfl, hs⟩
  have : j = 0 := by omega
  subst this
  simp [go_sem]
theorem one_K (w : World) (k : KindD) (t g : Nat) (hs : k.cls.size ≤ maxLen) (hg : w.heap.size = g) : SL 2 RK (· < g + 1) (w.alloc (.cells #[.int .i64 k.kind, .string k.cls] t)) (.slice (some ⟨g, 0, none⟩) 1 1) [k] := by
  subst hg
  refine ⟨some ⟨w.heap.size, 0, none⟩, 1, rfl, Nat.le_refl _, by unfold maxLen; simp, fun i hi => ?_⟩
  have : i = 0 := by simpa using hi
  subst this
  refine ⟨w.heap.size, 0, [.int .i64 k.kind, .string k.cls], rfl, by simp, by simp, rfl, fun j hj => ?_, rfl, hs⟩
  rcases (by omega : j = 0 ∨ j = 1) with rfl | rfl <;> simp [go_sem]
set_option maxHeartbeats 1000000 in
theorem knows1_any (w : World) (b P : Nat) (l : List ClassD) (k : KindD) (hN : Nums w b l) (hP : w.cell? ⟨P, 0, none⟩ = some (.pointer (some ⟨b, 0, none⟩))) (hs : k.cls.size ≤ maxLen) :
    Calls Tryz.prog 161 #[.agg #[.int .i64 k.kind, .string k.cls], .pointer (some ⟨P, 0, none⟩)] w fun r w' => r = .returned (.bool (knowsK l k)) ∧ Below w.heap.size w w' := by
  have HN := mkHid hN
  have hPl := World.block_lt_of_cell? w _ hP
  have HB0 := mkHid (fun o => (Below.refl w.heap.size w).alloc (Nat.le_refl _) o)
  clear hN
  by_cases h : k.cls = ⟨#[]⟩
  · have HK : Hid (knowsK l k = true) := by show knowsK l k = true; simp [knowsK, h]
    have h' := nil_tl h
    clear h hs
    go_enter Tryz.func161, Tryz.ntmps161
    go_wp2_with fail
    go_ret
    exact ⟨by rw [HK.out]; rfl, HB0.out _⟩
  · have HK : Hid (knowsK l k = hasC l k.cls) := by show knowsK l k = _; simp [knowsK, h]
    have h' : ¬ k.cls.toList = [] := fun e => h (tl_nil e)
    have HS := mkHid hs
    clear h hs
    go_enter Tryz.func161, Tryz.ntmps161
    go_wp2_with fail
    have hB1 := HB0.out (.cells #[.int .i64 k.kind, .string k.cls] 40)
    have hB2 := hB1.alloc hB1.size (.cells #[.string k.cls] 9)
    refine (has_any _ b (w.heap.size + 1 + 1) l _ [k.cls] (HN.out.below hB2) (one_S _ k.cls _ (w.heap.size + 1) HS.out (by simp)) (by simp)).mono ?_
    rintro r w1 ⟨rfl, hb⟩
    have hB3 := hB2.trans (hb.mono (by simp; omega))
    clear hb hB1 hB2
    go_wp2_with fail
    go_ret
    exact ⟨by rw [HK.out]; simp [h'], hB3⟩
set_option maxHeartbeats 1000000 in
theorem knows_any (w : World) (b B : Nat) (l : List ClassD) (v : Value) (ks : List KindD) (hN : Nums w b l) (hv : SL 2 RK (· < B) w v ks) (hB : B ≤ w.heap.size) :
    Calls Tryz.prog 123 #[.pointer (some ⟨b, 0, none⟩), v] w fun r w' => r = .returned (.bool (ks.all (knowsK l))) ∧ Below w.heap.size w w' := by
  have hmf : ∀ (fn : Fn) (first cap : Array Value) (w : World), (Instr.makeFunc fn first cap).run Tryz.prog w = .ok (.func fn first cap) w := fun _ _ _ _ => rfl
  have HV := mkHid hv
  obtain ⟨ao, cl, rfl, -⟩ := hv
  have HN := mkHid hN
  have HB0 := mkHid (fun o => (Below.refl w.heap.size w).alloc (Nat.le_refl _) o)
  clear hN
  go_enter Tryz.func123, Tryz.ntmps123
  go_wp2_with fail
  refine (everyK_any _ B _ ks (HV.out.keptK (Kp.below ((HB0.out _).mono hB))) (by simp; omega) 161 #[] _ (knowsK l) (fun args w => by kernel_rfl) ?_).mono ?_
  · rintro x hx u W hW ⟨rfl, hs⟩
    exact knows1_any W b w.heap.size l x ((HN.out.below (HB0.out _)).below hW) ((hW.cell (p := ⟨w.heap.size, 0, none⟩) (by simp)).trans (by simp [go_sem])) hs
  rintro r w1 ⟨rfl, hb⟩
  have hb2 : Below w.heap.size w w1 := (HB0.out _).trans (hb.mono (by simp))
  clear hb
  go_wp2_with fail
  go_ret
  exact ⟨rfl, hb2⟩
end Go.Proofs.YtfibgdcpbkaaoaaGreatDoor
/- What is asked after classes that are to hang together: all but two questions. -/
namespace Go.Proofs.YtfibgdcpbkaaoaaGreatDoor
open Go.RowKit Go.Maps
theorem below_dn {B : Nat} {w w' : World} (h : Below B w w') (n : Nat) : Below B w (w'.drewN n) := ⟨h.os, h.tape, h.output, h.size, h.block⟩
theorem Web.nums {B : Nat} {w : World} {b : Nat} {l : List ClassD} {vC vS vF vN vT vL : Value} {Bm : Nat} (h : Web B w b l vC vS vF vN vT vL Bm) : Nums w b l := ⟨Bm, cell_of h.blk 5 rfl, h.nm⟩
theorem Web.cell0 {B : Nat} {w : World} {b : Nat} {l : List ClassD} {vC vS vF vN vT vL : Value} {Bm : Nat} (h : Web B w b l vC vS vF vN vT vL Bm) : w.cell? ⟨b, 0, none⟩ = some vC := cell_of h.blk 0 rfl
set_option maxHeartbeats 1000000 in
theorem namesDiffer_any (w : World) (B b : Nat) (l : List ClassD) (vC vS vF vN vT vL : Value) (Bm : Nat) (hw : Web B w b l vC vS vF vN vT vL Bm) :
    Calls Tryz.prog 71 #[.pointer (some ⟨b, 0, none⟩)] w fun r w' => r = .returned (.bool (askNames l)) ∧ Below w.heap.size w w' := by
  have c0 := hw.cell0
  have c5 := cell_of hw.blk 5 (x := .map (some Bm)) rfl
  obtain ⟨ao, cl, rfl, -, hll, -⟩ := hw.sC
  obtain ⟨D, hown, hD⟩ := hw.nm
  have hlen : ∀ n ty, (Builtin.len_ #[69] ty #[.map (some Bm)]).run Tryz.prog (w.drewN n) = .ok (.int .i64 (Maps.size D)) (w.drewN n) := fun n ty => World.ownsMap.len (w := w.drewN n) hown Tryz.underlying69 ty
  have HR : Hid (((Maps.size D : Int) == (l.length : Int)) = askNames l) := by
    show ((Maps.size D : Int) == (l.length : Int)) = askNames l
    rw [Bool.eq_iff_iff, ← hD.eq, beq_iff_eq]
    constructor <;> intro h <;> omega
  clear hD hown hw
  unfold maxLen at hll
  go_enter Tryz.func71, Tryz.ntmps71
  go_wp2_with fail
  go_quiet (fail)
  go_wp2_with fail
  go_ret
  exact ⟨by rw [← HR.out]; rfl, below_dn (Below.refl _ _) _⟩
theorem two_S (w : World) (s s' : ByteArray) (t : Nat) (hs : s.size ≤ maxLen) (hs' : s'.size ≤ maxLen) : SL 1 RS (· < w.heap.size + 1) (w.alloc (.cells #[.string s, .string s'] t)) (.slice (some ⟨w.heap.size, 0, none⟩) 2 2) [s, s'] := by
  refine ⟨some ⟨w.heap.size, 0, none⟩, 2, rfl, Nat.le_refl _, by unfold maxLen; simp, fun k hk => ?_⟩
  have hk2 : k < 2 := by simpa using hk
  rcases (by omega : k = 0 ∨ k = 1) with rfl | rfl
  · refine ⟨w.heap.size, 0, [.string s], rfl, by simp, by simp, rfl, fun j hj => ?_, rfl, hs⟩
    have : j = 0 := by omega
    subst this
    simp [go_sem]
  · refine ⟨w.heap.size, 0, [.string s'], rfl, by simp, by simp, rfl, fun j hj => ?_, rfl, hs'⟩
    have : j = 0 := by omega
    subst this
    simp [go_sem]
set_option maxHeartbeats 1000000 in
theorem hasTopAndError_any (w : World) (B b : Nat) (l : List ClassD) (vC vS vF vN vT vL : Value) (Bm : Nat) (hw : Web B w b l vC vS vF vN vT vL Bm) :
    Calls Tryz.prog 72 #[.pointer (some ⟨b, 0, none⟩)] w fun r w' => r = .returned (.bool (askTop l)) ∧ Below w.heap.size w w' := by
  have HN := mkHid hw.nums
  have HB0 := mkHid (fun o => (Below.refl w.heap.size w).alloc (Nat.le_refl _) o)
  go_enter Tryz.func72, Tryz.ntmps72
  go_wp2_with fail
  have hB1 := HB0.out (.cells #[.string topName, .string errName] 9)
  refine (has_any _ b (w.heap.size + 1) l _ [topName, errName] (HN.out.below hB1) (two_S w topName errName _ (by decide) (by decide)) (by simp)).mono ?_
  rintro r w1 ⟨rfl, hb⟩
  have hB2 := hB1.trans (hb.mono (by simp))
  clear hb hB1
  go_wp2_with fail
  go_ret
  exact ⟨by simp [askTop], hB2⟩
theorem top_tl : topName.toList = [79, 98, 106, 101, 99, 116] := by rw [ByteArray.toList_eq]; rfl
def upperB (c : ClassD) : Bool := (decide (c.name = topName)) == (decide (c.super = (⟨#[]⟩ : ByteArray)))
set_option maxHeartbeats 1000000 in
theorem topAlone1_any (w : World) (B : Nat) (c : ClassD) (u : Value) (hu : ElC B w u c) :
    Calls Tryz.prog 116 #[u] w fun r w' => r = .returned (.bool (upperB c)) ∧ Below w.heap.size w w' := by
  obtain ⟨fo, cf, mo, cm, rfl, -, -, -, -⟩ := hu
  have HB0 := mkHid (fun o => (Below.refl w.heap.size w).alloc (Nat.le_refl _) o)
  by_cases h1 : c.name = topName
  · have t1 : c.name.toList = [79, 98, 106, 101, 99, 116] := by rw [h1]; exact top_tl
    by_cases h2 : c.super = ⟨#[]⟩
    · have t2 := nil_tl h2
      have HR : Hid (upperB c = true) := by show upperB c = true; simp [upperB, h1, h2]
      clear h1 h2
      go_enter Tryz.func116, Tryz.ntmps116
      go_wp2_with fail
      go_ret
      exact ⟨by rw [HR.out]; simp, HB0.out _⟩
    · have t2 : ¬ c.super.toList = [] := fun e => h2 (tl_nil e)
      have HR : Hid (upperB c = false) := by show upperB c = false; simp [upperB, h1, h2]
      clear h1 h2
      go_enter Tryz.func116, Tryz.ntmps116
      go_wp2_with fail
      go_ret
      exact ⟨by rw [HR.out]; simp [t2], HB0.out _⟩
  · have t1 : ¬ c.name.toList = [79, 98, 106, 101, 99, 116] := fun e => h1 (tl_inj (e.trans top_tl.symm))
    by_cases h2 : c.super = ⟨#[]⟩
    · have t2 := nil_tl h2
      have HR : Hid (upperB c = false) := by show upperB c = false; simp [upperB, h1, h2]
      clear h1 h2
      go_enter Tryz.func116, Tryz.ntmps116
      go_wp2_with fail
      go_ret
      exact ⟨by rw [HR.out]; simp [t1], HB0.out _⟩
    · have t2 : ¬ c.super.toList = [] := fun e => h2 (tl_nil e)
      have HR : Hid (upperB c = true) := by show upperB c = true; simp [upperB, h1, h2]
      clear h1 h2
      go_enter Tryz.func116, Tryz.ntmps116
      go_wp2_with fail
      go_ret
      exact ⟨by rw [HR.out]; simp; rw [beq_eq_false_iff_ne.2 t1]; (cases hh : c.super.toList with | nil => exact absurd hh t2 | cons _ _ => rfl), HB0.out _⟩
set_option maxHeartbeats 1000000 in
theorem topAlone_any (w : World) (B b : Nat) (l : List ClassD) (vC vS vF vN vT vL : Value) (Bm : Nat) (hw : Web B w b l vC vS vF vN vT vL Bm) :
    Calls Tryz.prog 73 #[.pointer (some ⟨b, 0, none⟩)] w fun r w' => r = .returned (.bool (askUpper l)) ∧ Below w.heap.size w w' := by
  have c0 := hw.cell0
  have HV := mkHid hw.sC
  have hle := hw.le
  obtain ⟨ao, cl, rfl, -⟩ := hw.sC
  clear hw
  go_enter Tryz.func73, Tryz.ntmps73
  go_wp2_with fail
  refine (everyC_any _ B _ l HV.out hle 116 #[] #[] upperB (fun args w => by kernel_rfl) ?_).mono ?_
  · intro x _ u W _ hu
    exact topAlone1_any W B x u hu
  rintro r w1 ⟨rfl, hb⟩
  go_wp2_with fail
  go_ret
  exact ⟨rfl, hb⟩
def superB (l : List ClassD) (c : ClassD) : Bool := decide (c.super = (⟨#[]⟩ : ByteArray)) || hasC l c.super
set_option maxHeartbeats 1000000 in
theorem supers1_any (w : World) (B b P : Nat) (l : List ClassD) (c : ClassD) (u : Value) (hu : ElC B w u c) (hN : Nums w b l) (hP : w.cell? ⟨P, 0, none⟩ = some (.pointer (some ⟨b, 0, none⟩))) :
    Calls Tryz.prog 117 #[u, .pointer (some ⟨P, 0, none⟩)] w fun r w' => r = .returned (.bool (superB l c)) ∧ Below w.heap.size w w' := by
  obtain ⟨fo, cf, mo, cm, rfl, -, -, -, hs⟩ := hu
  have hPl := World.block_lt_of_cell? w _ hP
  have HN := mkHid hN
  have HB0 := mkHid (fun o => (Below.refl w.heap.size w).alloc (Nat.le_refl _) o)
  clear hN
  by_cases h : c.super = ⟨#[]⟩
  · have HK : Hid (superB l c = true) := by show superB l c = true; simp [superB, h]
    have h' := nil_tl h
    clear h hs
    go_enter Tryz.func117, Tryz.ntmps117
    go_wp2_with fail
    go_ret
    exact ⟨by rw [HK.out]; rfl, HB0.out _⟩
  · have HK : Hid (superB l c = hasC l c.super) := by show superB l c = _; simp [superB, h]
    have h' : ¬ c.super.toList = [] := fun e => h (tl_nil e)
    have HS := mkHid hs
    clear h hs
    go_enter Tryz.func117, Tryz.ntmps117
    go_wp2_with fail
    have hB1 := HB0.out (.cells #[.string c.name, .string c.super, .slice fo c.fields.length cf, .slice mo c.meths.length cm] 37)
    have hB2 := hB1.alloc hB1.size (.cells #[.string c.super] 9)
    refine (has_any _ b (w.heap.size + 1 + 1) l _ [c.super] (HN.out.below hB2) (one_S _ c.super _ (w.heap.size + 1) HS.out (by simp)) (by simp)).mono ?_
    rintro r w1 ⟨rfl, hb⟩
    have hB3 := hB2.trans (hb.mono (by simp; omega))
    clear hb hB1 hB2
    go_wp2_with fail
    go_ret
    exact ⟨by rw [HK.out]; simp [h'], hB3⟩
set_option maxHeartbeats 1000000 in
theorem supersAreKnown_any (w : World) (B b : Nat) (l : List ClassD) (vC vS vF vN vT vL : Value) (Bm : Nat) (hw : Web B w b l vC vS vF vN vT vL Bm) :
    Calls Tryz.prog 74 #[.pointer (some ⟨b, 0, none⟩)] w fun r w' => r = .returned (.bool (askSupers l)) ∧ Below w.heap.size w w' := by
  have hmf : ∀ (fn : Fn) (first cap : Array Value) (w : World), (Instr.makeFunc fn first cap).run Tryz.prog w = .ok (.func fn first cap) w := fun _ _ _ _ => rfl
  have c0 := hw.cell0
  have hbl := lt_of hw.blk
  have HV := mkHid hw.sC
  have HN := mkHid hw.nums
  have hle := hw.le
  have HB0 := mkHid (fun o => (Below.refl w.heap.size w).alloc (Nat.le_refl _) o)
  obtain ⟨ao, cl, rfl, -⟩ := hw.sC
  clear hw
  go_enter Tryz.func74, Tryz.ntmps74
  go_wp2_with fail
  refine (everyC_any _ B _ l (HV.out.keptC (Kp.below ((HB0.out _).mono hle))) (by simp; omega) 117 #[] _ (superB l) (fun args w => by kernel_rfl) ?_).mono ?_
  · intro x _ u W hW hu
    exact supers1_any W B b w.heap.size l x u hu ((HN.out.below (HB0.out _)).below hW) ((hW.cell (p := ⟨w.heap.size, 0, none⟩) (by simp)).trans (by simp [go_sem]))
  rintro r w1 ⟨rfl, hb⟩
  have hb2 : Below w.heap.size w w1 := (HB0.out _).trans (hb.mono (by simp))
  clear hb
  go_wp2_with fail
  go_ret
  exact ⟨rfl, hb2⟩
set_option maxHeartbeats 1000000 in
theorem none1_any (w : World) (B b P : Nat) (l : List ClassD) (x : List Nat) (u : Value) (ao : Option Addr) (cl : Nat) (hu : ElIs B w u x) (hc0 : w.cell? ⟨b, 0, none⟩ = some (.slice ao l.length cl)) (hP : w.cell? ⟨P, 0, none⟩ = some (.pointer (some ⟨b, 0, none⟩))) :
    Calls Tryz.prog 119 #[u, .pointer (some ⟨P, 0, none⟩)] w fun r w' => r = .returned (.bool (decide (x.length ≤ l.length))) ∧ Below w.heap.size w w' := by
  obtain ⟨ai, ci, rfl, -⟩ := hu
  go_enter Tryz.func119, Tryz.ntmps119
  go_wp2_with fail
  go_ret
  exact ⟨by simp, Below.refl _ _⟩
set_option maxHeartbeats 1000000 in
theorem noneIsAboveItself_any (w : World) (B b : Nat) (l : List ClassD) (vC vS vF vN vT vL : Value) (Bm : Nat) (hw : Web B w b l vC vS vF vN vT vL Bm) :
    Calls Tryz.prog 75 #[.pointer (some ⟨b, 0, none⟩)] w fun r w' => r = .returned (.bool (askNone l)) ∧ Below w.heap.size w w' := by
  have hmf : ∀ (fn : Fn) (first cap : Array Value) (w : World), (Instr.makeFunc fn first cap).run Tryz.prog w = .ok (.func fn first cap) w := fun _ _ _ _ => rfl
  have c0 := hw.cell0
  have c6 := cell_of hw.blk 6 (x := vL) rfl
  have hbl := lt_of hw.blk
  have sL := hw.sL
  have hle := hw.le
  have HB0 := mkHid (fun o => (Below.refl w.heap.size w).alloc (Nat.le_refl _) o)
  obtain ⟨ao, cl, rfl, -⟩ := hw.sC
  have HLA : Hid (askNone l = ((List.range l.length).map (lineOf l)).all fun x => decide (x.length ≤ l.length)) := by
    show askNone l = _
    rw [askNone, List.all_map]
    rfl
  clear hw
  generalize (List.range l.length).map (lineOf l) = LL at *
  have HV := mkHid sL
  obtain ⟨al, cc, rfl, -⟩ := sL
  go_enter Tryz.func75, Tryz.ntmps75
  go_wp2_with fail
  refine (everyIs_any _ B _ _ (HV.out.keptSl (Kp.below ((HB0.out _).mono hle)) fun _ _ h => h) (by simp; omega) 119 #[] _ (fun x => decide (x.length ≤ l.length)) (fun args w => by kernel_rfl) ?_).mono ?_
  · intro x _ u W hW hu
    exact none1_any W B b w.heap.size l x u ao cl hu ((hW.cell (p := ⟨b, 0, none⟩) (by simp; omega)).trans (((HB0.out _).cell (p := ⟨b, 0, none⟩) hbl).trans c0)) ((hW.cell (p := ⟨w.heap.size, 0, none⟩) (by simp)).trans (by simp [go_sem]))
  rintro r w1 ⟨rfl, hb⟩
  have hb2 : Below w.heap.size w w1 := (HB0.out _).trans (hb.mono (by simp))
  clear hb
  go_wp2_with fail
  go_ret
  exact ⟨by rw [HLA.out]; rfl, hb2⟩
set_option maxHeartbeats 1000000 in
theorem told11_any (w : World) (B b P : Nat) (l : List ClassD) (x : FieldD) (u : Value) (hu : ElF B w u x) (hN : Nums w b l) (hP : w.cell? ⟨P, 0, none⟩ = some (.pointer (some ⟨b, 0, none⟩))) :
    Calls Tryz.prog 122 #[u, .pointer (some ⟨P, 0, none⟩)] w fun r w' => r = .returned (.bool (knowsK l x.kind)) ∧ Below w.heap.size w w' := by
  obtain ⟨rfl, -, hs⟩ := hu
  have hPl := World.block_lt_of_cell? w _ hP
  have HN := mkHid hN
  have HS := mkHid hs
  have HB0 := mkHid (fun o => (Below.refl w.heap.size w).alloc (Nat.le_refl _) o)
  clear hN hs
  go_enter Tryz.func122, Tryz.ntmps122
  go_wp2_with fail
  have hB1 := HB0.out (.cells #[.string x.name, .int .i64 x.kind.kind, .string x.kind.cls] 84)
  have hB2 := hB1.alloc hB1.size (.cells #[.int .i64 x.kind.kind, .string x.kind.cls] 40)
  refine (knows_any _ b (w.heap.size + 1 + 1) l _ [x.kind] (HN.out.below hB2) (one_K _ x.kind _ (w.heap.size + 1) HS.out (by simp)) (by simp)).mono ?_
  rintro r w1 ⟨rfl, hb⟩
  have hB3 := hB2.trans (hb.mono (by simp; omega))
  clear hb hB1 hB2
  go_wp2_with fail
  go_ret
  exact ⟨by simp, hB3⟩
set_option maxHeartbeats 1000000 in
theorem knowsTold1_any (w : World) (B b P : Nat) (l : List ClassD) (x : HandD) (u : Value) (hu : ElH B w u x) (hN : Nums w b l) (hP : w.cell? ⟨P, 0, none⟩ = some (.pointer (some ⟨b, 0, none⟩))) :
    Calls Tryz.prog 165 #[u, .pointer (some ⟨P, 0, none⟩)] w fun r w' => r = .returned (.bool (hasC l x.cls)) ∧ Below w.heap.size w w' := by
  obtain ⟨rfl, hs⟩ := hu
  have hPl := World.block_lt_of_cell? w _ hP
  have HN := mkHid hN
  have HS := mkHid hs
  have HB0 := mkHid (fun o => (Below.refl w.heap.size w).alloc (Nat.le_refl _) o)
  clear hN hs
  go_enter Tryz.func165, Tryz.ntmps165
  go_wp2_with fail
  have hB1 := HB0.out (.cells #[.int .i64 x.frm, .int .i64 x.upto, .int .i64 x.loc, .string x.cls] 111)
  have hB2 := hB1.alloc hB1.size (.cells #[.string x.cls] 9)
  refine (has_any _ b (w.heap.size + 1 + 1) l _ [x.cls] (HN.out.below hB2) (one_S _ x.cls _ (w.heap.size + 1) HS.out (by simp)) (by simp)).mono ?_
  rintro r w1 ⟨rfl, hb⟩
  have hB3 := hB2.trans (hb.mono (by simp; omega))
  clear hb hB1 hB2
  go_wp2_with fail
  go_ret
  exact ⟨by simp, hB3⟩
set_option maxHeartbeats 2000000 in
theorem knowsTold_any (w : World) (B b : Nat) (l : List ClassD) (x : MethD) (u : Value) (hu : ElM B w u x) (hN : Nums w b l) (hB : B ≤ w.heap.size) :
    Calls Tryz.prog 125 #[.pointer (some ⟨b, 0, none⟩), u] w fun r w' => r = .returned (.bool (knowsM l x)) ∧ Below w.heap.size w w' := by
  have hmf : ∀ (fn : Fn) (first cap : Array Value) (w : World), (Instr.makeFunc fn first cap).run Tryz.prog w = .ok (.func fn first cap) w := fun _ _ _ _ => rfl
  obtain ⟨ao, ca, ho, ch, rfl, ea, eh, -, hs, -⟩ := hu
  have HN := mkHid hN
  have HS := mkHid hs
  have EA := mkHid ea
  have EH := mkHid eh
  have HB0 := mkHid (fun o => (Below.refl w.heap.size w).alloc (Nat.le_refl _) o)
  clear hN hs ea eh
  have hB1 := HB0.out (.cells #[.pointer (some ⟨b, 0, none⟩)] 65)
  have hB2 := hB1.alloc hB1.size (.cells #[.string x.name, .bool x.static, .slice ao x.args.length ca, .int .i64 x.ret.kind, .string x.ret.cls, .int .i64 x.stack, .int .i64 x.locals, .string x.code, .slice ho x.hands.length ch] 43)
  go_enter Tryz.func125, Tryz.ntmps125
  go_wp2_with fail
  refine (knows_any _ b B l _ x.args (HN.out.below hB2) (EA.out.keptK (Kp.below (hB2.mono hB))) (by simp; omega)).mono ?_
  rintro r w1 ⟨rfl, hb⟩
  have d0 : w1.cell? ⟨w.heap.size, 0, none⟩ = some (.pointer (some ⟨b, 0, none⟩)) := (hb.cell (p := ⟨w.heap.size, 0, none⟩) (by simp; omega)).trans (by simp [go_sem])
  have d3 : w1.cell? ⟨w.heap.size + 1, 3, none⟩ = some (.int .i64 x.ret.kind) := (hb.cell (p := ⟨w.heap.size + 1, 3, none⟩) (by simp)).trans (by simp [go_sem])
  have d4 : w1.cell? ⟨w.heap.size + 1, 4, none⟩ = some (.string x.ret.cls) := (hb.cell (p := ⟨w.heap.size + 1, 4, none⟩) (by simp)).trans (by simp [go_sem])
  have d8 : w1.cell? ⟨w.heap.size + 1, 8, none⟩ = some (.slice ho x.hands.length ch) := (hb.cell (p := ⟨w.heap.size + 1, 8, none⟩) (by simp)).trans (by simp [go_sem])
  have hB3 := hB2.trans (hb.mono (by simp; omega))
  have hz1 : w.heap.size + 1 < w1.heap.size := World.block_lt_of_cell? w1 _ d3
  have HM : Hid (knowsM l x = (x.args.all (knowsK l) && knowsK l x.ret && x.hands.all (fun h => hasC l h.cls))) := rfl
  clear hb hB1 hB2
  cases ha : x.args.all (knowsK l)
  · have HR : Hid (knowsM l x = false) := by rw [HM.out, ha]; rfl
    clear ha
    go_wp2_with fail
    go_ret
    exact ⟨by rw [HR.out]; rfl, hB3⟩
  have HA := mkHid ha
  clear ha
  go_wp2_with fail
  have hB4 := hB3.alloc hB3.size (.cells #[.int .i64 x.ret.kind, .string x.ret.cls] 40)
  refine (knows_any _ b (w1.heap.size + 1) l _ [x.ret] (HN.out.below hB4) (one_K w1 x.ret _ w1.heap.size HS.out rfl) (by simp)).mono ?_
  rintro r w2 ⟨rfl, hb⟩
  have hB5 := hB4.trans (hb.mono (by have := hB3.size; simp; omega))
  have f0 : w2.cell? ⟨w.heap.size, 0, none⟩ = some (.pointer (some ⟨b, 0, none⟩)) := (hb.cell (p := ⟨w.heap.size, 0, none⟩) (by simp; omega)).trans (by rw [World.cell?_alloc_past _ _ _ (by omega)]; exact d0)
  have f8 : w2.cell? ⟨w.heap.size + 1, 8, none⟩ = some (.slice ho x.hands.length ch) := (hb.cell (p := ⟨w.heap.size + 1, 8, none⟩) (by simp; omega)).trans (by rw [World.cell?_alloc_past _ _ _ (by omega)]; exact d8)
  clear hb hB3 hB4 d0 d3 d4 d8
  cases hr : knowsK l x.ret
  · have HR : Hid (knowsM l x = false) := by rw [HM.out, HA.out, hr]; rfl
    have hr' : ([x.ret].all (knowsK l)) = false := by simp [hr]
    rw [hr']
    clear hr hr'
    go_wp2_with fail
    go_ret
    exact ⟨by rw [HR.out]; rfl, hB5⟩
  have HR : Hid (knowsM l x = x.hands.all (fun h => hasC l h.cls)) := by rw [HM.out, HA.out, hr]; rfl
  have hr' : ([x.ret].all (knowsK l)) = true := by simp [hr]
  rw [hr']
  clear hr hr'
  go_wp2_with fail
  refine (everyH_any _ B _ x.hands (EH.out.keptH (Kp.below (hB5.mono hB))) (by have := hB5.size; omega) 165 #[] _ (fun h => hasC l h.cls) (fun args w => by kernel_rfl) ?_).mono ?_
  · intro y _ u W hW hu
    exact knowsTold1_any W B b w.heap.size l y u hu ((HN.out.below hB5).below hW) ((hW.cell (p := ⟨w.heap.size, 0, none⟩) (World.block_lt_of_cell? w2 _ f0)).trans f0)
  rintro r w3 ⟨rfl, hb⟩
  have hB6 := hB5.trans (hb.mono hB5.size)
  clear hb hB5 f0 f8
  go_wp2_with fail
  go_ret
  exact ⟨by rw [HR.out]; rfl, hB6⟩
def toldB (l : List ClassD) (c : ClassD) : Bool := (c.fields.all fun f => knowsK l f.kind) && c.meths.all (knowsM l)
set_option maxHeartbeats 2000000 in
theorem told1_any (w : World) (B b P : Nat) (l : List ClassD) (c : ClassD) (u : Value) (hu : ElC B w u c) (hN : Nums w b l) (hP : w.cell? ⟨P, 0, none⟩ = some (.pointer (some ⟨b, 0, none⟩))) (hB : B ≤ w.heap.size) :
    Calls Tryz.prog 120 #[u, .pointer (some ⟨P, 0, none⟩)] w fun r w' => r = .returned (.bool (toldB l c)) ∧ Below w.heap.size w w' := by
  have hmf : ∀ (fn : Fn) (first cap : Array Value) (w : World), (Instr.makeFunc fn first cap).run Tryz.prog w = .ok (.func fn first cap) w := fun _ _ _ _ => rfl
  obtain ⟨fo, cf, mo, cm, rfl, ef, em, -, -⟩ := hu
  have hPl := World.block_lt_of_cell? w _ hP
  have HN := mkHid hN
  have EF := mkHid ef
  have EM := mkHid em
  have HB0 := mkHid (fun o => (Below.refl w.heap.size w).alloc (Nat.le_refl _) o)
  clear hN ef em
  have hB1 := HB0.out (.cells #[.string c.name, .string c.super, .slice fo c.fields.length cf, .slice mo c.meths.length cm] 37)
  go_enter Tryz.func120, Tryz.ntmps120
  go_wp2_with fail
  refine (everyF_any _ B _ c.fields (EF.out.keptF (Kp.below (hB1.mono hB))) (by simp; omega) 122 #[] _ (fun f => knowsK l f.kind) (fun args w => by kernel_rfl) ?_).mono ?_
  · intro y _ u W hW hu
    exact told11_any W B b P l y u hu ((HN.out.below hB1).below hW) ((hW.cell (p := ⟨P, 0, none⟩) (by simp; omega)).trans ((hB1.cell (p := ⟨P, 0, none⟩) hPl).trans hP))
  rintro r w1 ⟨rfl, hb⟩
  have d3 : w1.cell? ⟨w.heap.size, 3, none⟩ = some (.slice mo c.meths.length cm) := (hb.cell (p := ⟨w.heap.size, 3, none⟩) (by simp)).trans (by simp [go_sem])
  have hB2 := hB1.trans (hb.mono (by simp))
  have hz1 : w.heap.size < w1.heap.size := World.block_lt_of_cell? w1 _ d3
  have hP1 : w1.cell? ⟨P, 0, none⟩ = some (.pointer (some ⟨b, 0, none⟩)) := (hB2.cell (p := ⟨P, 0, none⟩) hPl).trans hP
  have HM : Hid (toldB l c = ((c.fields.all fun f => knowsK l f.kind) && c.meths.all (knowsM l))) := rfl
  clear hb hB1 hP
  cases ha : c.fields.all fun f => knowsK l f.kind
  · have HR : Hid (toldB l c = false) := by rw [HM.out, ha]; rfl
    clear ha
    go_wp2_with fail
    go_ret
    exact ⟨by rw [HR.out]; rfl, hB2⟩
  have HR : Hid (toldB l c = c.meths.all (knowsM l)) := by rw [HM.out, ha]; rfl
  clear ha
  go_wp2_with fail
  refine (everyM_any _ B _ c.meths (EM.out.keptM (Kp.below (hB2.mono hB))) (by omega) 125 _ #[] (knowsM l) (fun args w => by kernel_rfl) ?_).mono ?_
  · intro y _ u W hW hu
    exact knowsTold_any W B b l y u hu ((HN.out.below hB2).below hW) (by have := hW.size; omega)
  rintro r w2 ⟨rfl, hb⟩
  have hB3 := hB2.trans (hb.mono hB2.size)
  clear hb hB2
  go_wp2_with fail
  go_ret
  exact ⟨by rw [HR.out]; rfl, hB3⟩
set_option maxHeartbeats 1000000 in
theorem allToldIsKnown_any (w : World) (B b : Nat) (l : List ClassD) (vC vS vF vN vT vL : Value) (Bm : Nat) (hw : Web B w b l vC vS vF vN vT vL Bm) :
    Calls Tryz.prog 77 #[.pointer (some ⟨b, 0, none⟩)] w fun r w' => r = .returned (.bool (askTold l)) ∧ Below w.heap.size w w' := by
  have hmf : ∀ (fn : Fn) (first cap : Array Value) (w : World), (Instr.makeFunc fn first cap).run Tryz.prog w = .ok (.func fn first cap) w := fun _ _ _ _ => rfl
  have c0 := hw.cell0
  have hbl := lt_of hw.blk
  have HV := mkHid hw.sC
  have HN := mkHid hw.nums
  have hle := hw.le
  have HB0 := mkHid (fun o => (Below.refl w.heap.size w).alloc (Nat.le_refl _) o)
  obtain ⟨ao, cl, rfl, -⟩ := hw.sC
  clear hw
  go_enter Tryz.func77, Tryz.ntmps77
  go_wp2_with fail
  refine (everyC_any _ B _ l (HV.out.keptC (Kp.below ((HB0.out _).mono hle))) (by simp; omega) 120 #[] _ (toldB l) (fun args w => by kernel_rfl) ?_).mono ?_
  · intro x _ u W hW hu
    exact told1_any W B b w.heap.size l x u hu ((HN.out.below (HB0.out _)).below hW) ((hW.cell (p := ⟨w.heap.size, 0, none⟩) (by simp)).trans (by simp [go_sem])) (by have := hW.size; simp at this; omega)
  rintro r w1 ⟨rfl, hb⟩
  have hb2 : Below w.heap.size w w1 := (HB0.out _).trans (hb.mono (by simp))
  clear hb
  go_wp2_with fail
  go_ret
  exact ⟨rfl, hb2⟩
set_option maxHeartbeats 1000000 in
theorem few1_any (w : World) (B : Nat) (x : List FieldD) (u : Value) (hu : ElFs B w u x) : Calls Tryz.prog 135 #[u] w fun r w' => r = .returned (.bool (decide (x.length ≤ 12))) ∧ Below w.heap.size w w' := by
  obtain ⟨ai, ci, rfl, -⟩ := hu
  go_enter Tryz.func135, Tryz.ntmps135
  go_wp2_with fail
  go_ret
  exact ⟨by simp; omega, Below.refl _ _⟩
set_option maxHeartbeats 1000000 in
theorem few2_any (w : World) (B : Nat) (x : List ByteArray) (u : Value) (hu : ElSs B w u x) : Calls Tryz.prog 137 #[u] w fun r w' => r = .returned (.bool (decide (x.length ≤ 16))) ∧ Below w.heap.size w w' := by
  obtain ⟨ai, ci, rfl, -⟩ := hu
  go_enter Tryz.func137, Tryz.ntmps137
  go_wp2_with fail
  go_ret
  exact ⟨by simp; omega, Below.refl _ _⟩
set_option maxHeartbeats 1000000 in
theorem areFew_any (w : World) (B b : Nat) (l : List ClassD) (vC vS vF vN vT vL : Value) (Bm : Nat) (hw : Web B w b l vC vS vF vN vT vL Bm) :
    Calls Tryz.prog 80 #[.pointer (some ⟨b, 0, none⟩)] w fun r w' => r = .returned (.bool (askFew l)) ∧ Below w.heap.size w w' := by
  have c2 := cell_of hw.blk 2 (x := vF) rfl
  have c3 := cell_of hw.blk 3 (x := vN) rfl
  have hbl := lt_of hw.blk
  have sF := hw.sF
  have sN := hw.sN
  have hle := hw.le
  have HM : Hid (askFew l = ((((List.range l.length).map (fieldsOf l)).all fun x => decide (x.length ≤ 12)) && (((List.range l.length).map (namesOf l)).all fun x => decide (x.length ≤ 16)))) := by
    show askFew l = _
    rw [askFew, List.all_map, List.all_map]
    rfl
  clear hw
  generalize (List.range l.length).map (fieldsOf l) = LF at *
  generalize (List.range l.length).map (namesOf l) = LN at *
  have HF := mkHid sF
  have HN := mkHid sN
  obtain ⟨af, cf, rfl, -⟩ := sF
  obtain ⟨an, cn, rfl, -⟩ := sN
  go_enter Tryz.func80, Tryz.ntmps80
  go_wp2_with fail
  refine (everyFs_any _ B _ _ HF.out hle 135 #[] #[] (fun x => decide (x.length ≤ 12)) (fun args w => by kernel_rfl) ?_).mono ?_
  · intro x _ u W _ hu
    exact few1_any W B x u hu
  rintro r w1 ⟨rfl, hb⟩
  have d3 : w1.cell? ⟨b, 3, none⟩ = some (.slice an _ cn) := (hb.cell (p := ⟨b, 3, none⟩) hbl).trans c3
  cases ha : LF.all fun x => decide (x.length ≤ 12)
  · have HR : Hid (askFew l = false) := by rw [HM.out, ha]; rfl
    clear ha
    go_wp2_with fail
    go_ret
    exact ⟨by rw [HR.out]; rfl, hb⟩
  have HR : Hid (askFew l = (LN.all fun x => decide (x.length ≤ 16))) := by rw [HM.out, ha]; rfl
  clear ha
  go_wp2_with fail
  refine (everySs_any _ B _ _ (HN.out.keptSl (Kp.below (hb.mono hle)) fun _ _ h => h) (by have := hb.size; omega) 137 #[] #[] (fun x => decide (x.length ≤ 16)) (fun args w => by kernel_rfl) ?_).mono ?_
  · intro x _ u W _ hu
    exact few2_any W B x u hu
  rintro r w2 ⟨rfl, hb2⟩
  have hb3 := hb.trans (hb2.mono hb.size)
  clear hb hb2
  go_wp2_with fail
  go_ret
  exact ⟨by rw [HR.out]; rfl, hb3⟩
end Go.Proofs.YtfibgdcpbkaaoaaGreatDoor
