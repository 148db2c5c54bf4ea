/- The contracts of the check of classes. -/
import Derived.Test.YtjdnmblggdobgaaGreatChkMeth
namespace Go.Proofs.YtjdnmblggdobgaaGreat
open Go.RowKit

theorem chk_field_no1 {f : FieldD} (h : isNameB f.name = false) : checkField f = 1 := by rw [checkField, h, dem_false]
theorem chk_field_no2 {f : FieldD} (h : isNameB f.name = true) (h2 : rightB f.kind = false) : checkField f = 7 := by rw [checkField, h, dem_true, h2, dem_false]
theorem chk_field_ok {f : FieldD} (h : isNameB f.name = true) (h2 : rightB f.kind = true) : checkField f = 0 := by rw [checkField, h, dem_true, h2, dem_true]

set_option maxHeartbeats 4000000 in
theorem checkClass_any (w : World) (B : Nat) (c : ClassD) (vf vm : Value) (hf : SL 3 RF (· < B) w vf c.fields) (hm : SL 9 RM (· < B) w vm c.meths) (hB : B ≤ w.heap.size) (hs1 : c.name.size ≤ maxLen) (hs2 : c.super.size ≤ maxLen) :
    Calls Tryz.prog 232 #[.agg #[.string c.name, .string c.super, vf, vm]] w fun r w' => ChkOut (checkClass c) r ∧ Below w.heap.size w w' := by
  obtain ⟨name, super, fields, meths⟩ := c
  dsimp only at *
  have HF := mkHid hf
  have HM := mkHid hm
  obtain ⟨fo, cf, rfl, hcf, hlf, _⟩ := hf
  obtain ⟨mo, cm, rfl, hcm, hlm, _⟩ := hm
  unfold maxLen at hlf hlm
  have e0 := size0 super
  have HX0 : Hid (checkClass ⟨name, super, fields, meths⟩ = dem (isNameB name) 1 (dem (decide (super.size = 0) || isNameB super) 1 (dem (decide (fields.length ≤ 6)) 2 (dem (decide (meths.length ≤ 8)) 2 (thenE (allE checkField fields) (allE checkMeth meths)))))) := rfl
  generalize checkClass ⟨name, super, fields, meths⟩ = X at *
  go_enter Tryz.func232, Tryz.ntmps232
  go_wp2_with fail
  generalize hW : w.alloc (.cells #[.string name, .string super, .slice fo fields.length cf, .slice mo meths.length cm] 162) = W0
  have hz : W0.heap.size = w.heap.size + 1 := by rw [← hW]; simp
  have hB0 : Below w.heap.size w W0 := by rw [← hW]; exact (Below.refl w.heap.size w).alloc (Nat.le_refl _) _
  have c0 : W0.cell? ⟨w.heap.size, 0, none⟩ = some (.string name) := by rw [← hW]; simp [go_sem]
  have c1 : W0.cell? ⟨w.heap.size, 1, none⟩ = some (.string super) := by rw [← hW]; simp [go_sem]
  have c2 : W0.cell? ⟨w.heap.size, 2, none⟩ = some (.slice fo fields.length cf) := by rw [← hW]; simp [go_sem]
  have c3 : W0.cell? ⟨w.heap.size, 3, none⟩ = some (.slice mo meths.length cm) := by rw [← hW]; simp [go_sem]
  clear hW
  refine (isName_any _ _ hs1).mono ?_
  rintro r w1 ⟨rfl, rfl⟩
  go_wp2_with fail
  refine (demand_any _ _ _).mono ?_
  rintro r w1 ⟨rfl, ⟨hb, rfl⟩ | ⟨hb, rfl⟩⟩
  · exact ⟨rfl, chk_no (by rw [HX0.out, hb, dem_false]) (by decide), hB0⟩
  have HX1 := mkHid (HX0.out.trans (by rw [hb, dem_true]))
  clear hb HX0
  by_cases hq : super.size = 0
  · have HX2 := mkHid (HX1.out.trans (by rw [decide_eq_true hq, Bool.true_or, dem_true]))
    have e1 : super.toList.isEmpty = true := by rw [e0, decide_eq_true hq]
    clear HX1 hq e0
    go_wp2_with fail
    refine (demand_any _ _ _).mono ?_
    rintro r w1 ⟨rfl, ⟨hb, rfl⟩ | ⟨hb, rfl⟩⟩
    · cases hb
    clear hb
    by_cases hq : fields.length ≤ 6
    rotate_left
    · have hq' : ¬ (fields.length : Int) ≤ 6 := by omega
      go_wp2_with fail
      refine (demand_any _ _ _).mono ?_
      rintro r w1 ⟨rfl, ⟨hb, rfl⟩ | ⟨hb, rfl⟩⟩
      · exact ⟨rfl, chk_no (by rw [HX2.out, decide_eq_false hq, dem_false]) (by decide), hB0⟩
      · exact absurd hb (by first | (simp; done) | (simp; omega))
    have hq3 : (fields.length : Int) ≤ 6 := by omega
    have HX3 := mkHid (HX2.out.trans (by rw [decide_eq_true hq, dem_true]))
    clear hq HX2
    go_wp2_with fail
    refine (demand_any _ _ _).mono ?_
    rintro r w1 ⟨rfl, ⟨hb, rfl⟩ | ⟨hb, rfl⟩⟩
    · exact absurd hb (by simp)
    clear hb
    by_cases hq : meths.length ≤ 8
    rotate_left
    · have hq' : ¬ (meths.length : Int) ≤ 8 := by omega
      go_wp2_with fail
      refine (demand_any _ _ _).mono ?_
      rintro r w1 ⟨rfl, ⟨hb, rfl⟩ | ⟨hb, rfl⟩⟩
      · exact ⟨rfl, chk_no (by rw [HX3.out, decide_eq_false hq, dem_false]) (by decide), hB0⟩
      · exact absurd hb (by first | (simp; done) | (simp; omega))
    have hq4 : (meths.length : Int) ≤ 8 := by omega
    have HX4 := mkHid (HX3.out.trans (by rw [decide_eq_true hq, dem_true]))
    clear hq HX3
    go_wp2_with fail
    refine (demand_any _ _ _).mono ?_
    rintro r w1 ⟨rfl, ⟨hb, rfl⟩ | ⟨hb, rfl⟩⟩
    · exact absurd hb (by simp)
    clear hb
    go_wp2_with fail
    go_loopw [32] (fun i wr => ∃ k : Nat, k ≤ fields.length ∧ i = .int .i64 k ∧ Hid (allE checkField (fields.drop k) = allE checkField fields) ∧ Below (w.heap.size + 1) w1 wr) (fun i _ => fields.length - (intOf i).toNat)
    case atStart => exact ⟨0, Nat.zero_le _, rfl, rfl, Below.refl _ _⟩
    case round =>
      obtain ⟨k, hk, rfl, HP, hBr⟩ := hrel
      have hsz : w.heap.size + 1 ≤ wr.heap.size := by have := hBr.size; omega
      by_cases hlt : k < fields.length
      · obtain ⟨b, off, rfl, hbl, e0, e1, e2, es, es2⟩ := (HF.out.keptF (Kp.below ((hB0.trans (hBr.mono (by omega))).mono hB))).atF k hlt
        have hBa := hBr.alloc hsz (.cells #[.string fields[k].name, .int .i64 fields[k].kind.kind, .string fields[k].kind.cls] 125)
        go_wp2_with fail
        refine (isName_any _ fields[k].name es).mono ?_
        rintro r w2 ⟨rfl, rfl⟩
        go_wp2_with fail
        refine (demand_any _ _ _).mono ?_
        rintro r w3 ⟨rfl, ⟨hb, rfl⟩ | ⟨hb, rfl⟩⟩
        · refine ⟨rfl, chk_no (e := 1) ?_ (by decide), hB0.trans (hBa.mono (by omega))⟩
          rw [HX4.out, ← HP.out, allE_no hlt (by rw [chk_field_no1 hb]; decide), chk_field_no1 hb, thenE_e (by decide)]
        have HB1 := mkHid hb
        clear hb
        go_wp2_with fail
        refine (isRight_any _ fields[k].kind es2).mono ?_
        rintro r w2 ⟨rfl, hb2⟩
        have hBs := hBa.trans (hb2.mono (by simp; omega))
        clear hb2 hBa e0 e1 e2
        go_wp2_with fail
        refine (demand_any _ _ _).mono ?_
        rintro r w3 ⟨rfl, ⟨hb, rfl⟩ | ⟨hb, rfl⟩⟩
        · refine ⟨rfl, chk_no (e := 7) ?_ (by decide), hB0.trans (hBs.mono (by omega))⟩
          rw [HX4.out, ← HP.out, allE_no hlt (by rw [chk_field_no2 HB1.out hb]; decide), chk_field_no2 HB1.out hb, thenE_e (by decide)]
        · have HB := mkHid (chk_field_ok HB1.out hb)
          clear hb
          go_wp2_with fail
          go_roundw
          case rel => exact ⟨k + 1, by omega, by go_num, (allE_ok hlt HB.out).symm.trans HP.out, hBs⟩
          case measure => simp [intOf]; omega
      · have HX5 := mkHid (HX4.out.trans (by rw [← HP.out, allE_end hlt, thenE_0]))
        have d3 := (hBr.cell (p := ⟨w.heap.size, 3, none⟩) (by simp)).trans c3
        clear HP HX4
        have hBs := hBr
        clear hBr
        go_wp2_with fail
        go_loopw [48] (fun i wr => ∃ k : Nat, k ≤ meths.length ∧ i = .int .i64 k ∧ Hid (allE checkMeth (meths.drop k) = allE checkMeth meths) ∧ Below (w.heap.size + 1) w1 wr) (fun i _ => meths.length - (intOf i).toNat)
        case atStart => exact ⟨0, Nat.zero_le _, rfl, rfl, hBs⟩
        case round =>
          obtain ⟨k, hk, rfl, HP, hBr⟩ := hrel
          have hsz : w.heap.size + 1 ≤ wr.heap.size := by have := hBr.size; omega
          by_cases hlt : k < meths.length
          · have hBw : Below w.heap.size w wr := hB0.trans (hBr.mono (by omega))
            obtain ⟨b, off, va, vh, rfl, hbl, e0, e1, e2, e3, e4, e5, e6, e7, e8, ea, eh, es1, es2, es3⟩ := (HM.out.keptM (Kp.below (hBw.mono hB))).atM k hlt
            have hBa := fun t => hBr.alloc hsz (.cells #[.string meths[k].name, .bool meths[k].static, va, .int .i64 meths[k].ret.kind, .string meths[k].ret.cls, .int .i64 meths[k].stack, .int .i64 meths[k].locals, .string meths[k].code, vh] t)
            have HBA := mkHid hBa
            have EA := mkHid ea
            have EH := mkHid eh
            obtain ⟨ao, ca, rfl, _⟩ := ea
            obtain ⟨ho, ch, rfl, _⟩ := eh
            clear hBa
            go_wp2_with fail
            refine (checkMethod_any _ B meths[k] _ _ (EA.out.keptK (Kp.below ((Below.refl _ _).alloc (by omega) _))) (EH.out.keptH (Kp.below ((Below.refl _ _).alloc (by omega) _))) (by simp; omega) es1 es2).mono ?_
            rintro r w2 ⟨hr, hb2⟩
            have hBs := (HBA.out _).trans (hb2.mono (by simp; omega))
            clear hb2 HBA e0 e1 e2 e3 e4 e5 e6 e7 e8
            rcases hr with ⟨hc, rfl⟩ | ⟨hc, rfl⟩
            · refine ⟨rfl, chk_no ?_ hc, hB0.trans (hBs.mono (by omega))⟩
              rw [HX5.out, ← HP.out, allE_no hlt hc]
            · have HB := mkHid hc
              clear hc
              go_wp2_with fail
              go_roundw
              case rel => exact ⟨k + 1, by omega, by go_num, (allE_ok hlt HB.out).symm.trans HP.out, hBs⟩
              case measure => simp [intOf]; omega
          · go_wp2_with fail
            go_end0
            exact ⟨chk_ok (by rw [HX5.out, ← HP.out, allE_end hlt]), hB0.trans (hBr.mono (by omega))⟩
  · have HX2 := mkHid (HX1.out.trans (by rw [decide_eq_false hq, Bool.false_or]))
    have e1 : super.toList.isEmpty = false := by rw [e0, decide_eq_false hq]
    clear HX1 hq e0
    go_wp2_with fail
    refine (isName_any _ _ hs2).mono ?_
    rintro r w1 ⟨rfl, rfl⟩
    go_wp2_with fail
    refine (demand_any _ _ _).mono ?_
    rintro r w1 ⟨rfl, ⟨hb, rfl⟩ | ⟨hb, rfl⟩⟩
    · exact ⟨rfl, chk_no (by rw [HX2.out, hb, dem_false]) (by decide), hB0⟩
    have HX3 := mkHid (HX2.out.trans (by rw [hb, dem_true]))
    clear hb HX2
    by_cases hq : fields.length ≤ 6
    rotate_left
    · have hq' : ¬ (fields.length : Int) ≤ 6 := by omega
      go_wp2_with fail
      refine (demand_any _ _ _).mono ?_
      rintro r w1 ⟨rfl, ⟨hb, rfl⟩ | ⟨hb, rfl⟩⟩
      · exact ⟨rfl, chk_no (by rw [HX3.out, decide_eq_false hq, dem_false]) (by decide), hB0⟩
      · exact absurd hb (by first | (simp; done) | (simp; omega))
    have hq4 : (fields.length : Int) ≤ 6 := by omega
    have HX4 := mkHid (HX3.out.trans (by rw [decide_eq_true hq, dem_true]))
    clear hq HX3
    go_wp2_with fail
    refine (demand_any _ _ _).mono ?_
    rintro r w1 ⟨rfl, ⟨hb, rfl⟩ | ⟨hb, rfl⟩⟩
    · exact absurd hb (by simp)
    clear hb
    by_cases hq : meths.length ≤ 8
    rotate_left
    · have hq' : ¬ (meths.length : Int) ≤ 8 := by omega
      go_wp2_with fail
      refine (demand_any _ _ _).mono ?_
      rintro r w1 ⟨rfl, ⟨hb, rfl⟩ | ⟨hb, rfl⟩⟩
      · exact ⟨rfl, chk_no (by rw [HX4.out, decide_eq_false hq, dem_false]) (by decide), hB0⟩
      · exact absurd hb (by first | (simp; done) | (simp; omega))
    have hq5 : (meths.length : Int) ≤ 8 := by omega
    have HX5 := mkHid (HX4.out.trans (by rw [decide_eq_true hq, dem_true]))
    clear hq HX4
    go_wp2_with fail
    refine (demand_any _ _ _).mono ?_
    rintro r w1 ⟨rfl, ⟨hb, rfl⟩ | ⟨hb, rfl⟩⟩
    · exact absurd hb (by simp)
    clear hb
    go_wp2_with fail
    go_loopw [32] (fun i wr => ∃ k : Nat, k ≤ fields.length ∧ i = .int .i64 k ∧ Hid (allE checkField (fields.drop k) = allE checkField fields) ∧ Below (w.heap.size + 1) w1 wr) (fun i _ => fields.length - (intOf i).toNat)
    case atStart => exact ⟨0, Nat.zero_le _, rfl, rfl, Below.refl _ _⟩
    case round =>
      obtain ⟨k, hk, rfl, HP, hBr⟩ := hrel
      have hsz : w.heap.size + 1 ≤ wr.heap.size := by have := hBr.size; omega
      by_cases hlt : k < fields.length
      · obtain ⟨b, off, rfl, hbl, e0, e1, e2, es, es2⟩ := (HF.out.keptF (Kp.below ((hB0.trans (hBr.mono (by omega))).mono hB))).atF k hlt
        have hBa := hBr.alloc hsz (.cells #[.string fields[k].name, .int .i64 fields[k].kind.kind, .string fields[k].kind.cls] 125)
        go_wp2_with fail
        refine (isName_any _ fields[k].name es).mono ?_
        rintro r w2 ⟨rfl, rfl⟩
        go_wp2_with fail
        refine (demand_any _ _ _).mono ?_
        rintro r w3 ⟨rfl, ⟨hb, rfl⟩ | ⟨hb, rfl⟩⟩
        · refine ⟨rfl, chk_no (e := 1) ?_ (by decide), hB0.trans (hBa.mono (by omega))⟩
          rw [HX5.out, ← HP.out, allE_no hlt (by rw [chk_field_no1 hb]; decide), chk_field_no1 hb, thenE_e (by decide)]
        have HB1 := mkHid hb
        clear hb
        go_wp2_with fail
        refine (isRight_any _ fields[k].kind es2).mono ?_
        rintro r w2 ⟨rfl, hb2⟩
        have hBs := hBa.trans (hb2.mono (by simp; omega))
        clear hb2 hBa e0 e1 e2
        go_wp2_with fail
        refine (demand_any _ _ _).mono ?_
        rintro r w3 ⟨rfl, ⟨hb, rfl⟩ | ⟨hb, rfl⟩⟩
        · refine ⟨rfl, chk_no (e := 7) ?_ (by decide), hB0.trans (hBs.mono (by omega))⟩
          rw [HX5.out, ← HP.out, allE_no hlt (by rw [chk_field_no2 HB1.out hb]; decide), chk_field_no2 HB1.out hb, thenE_e (by decide)]
        · have HB := mkHid (chk_field_ok HB1.out hb)
          clear hb
          go_wp2_with fail
          go_roundw
          case rel => exact ⟨k + 1, by omega, by go_num, (allE_ok hlt HB.out).symm.trans HP.out, hBs⟩
          case measure => simp [intOf]; omega
      · have HX6 := mkHid (HX5.out.trans (by rw [← HP.out, allE_end hlt, thenE_0]))
        have d3 := (hBr.cell (p := ⟨w.heap.size, 3, none⟩) (by simp)).trans c3
        clear HP HX5
        have hBs := hBr
        clear hBr
        go_wp2_with fail
        go_loopw [48] (fun i wr => ∃ k : Nat, k ≤ meths.length ∧ i = .int .i64 k ∧ Hid (allE checkMeth (meths.drop k) = allE checkMeth meths) ∧ Below (w.heap.size + 1) w1 wr) (fun i _ => meths.length - (intOf i).toNat)
        case atStart => exact ⟨0, Nat.zero_le _, rfl, rfl, hBs⟩
        case round =>
          obtain ⟨k, hk, rfl, HP, hBr⟩ := hrel
          have hsz : w.heap.size + 1 ≤ wr.heap.size := by have := hBr.size; omega
          by_cases hlt : k < meths.length
          · have hBw : Below w.heap.size w wr := hB0.trans (hBr.mono (by omega))
            obtain ⟨b, off, va, vh, rfl, hbl, e0, e1, e2, e3, e4, e5, e6, e7, e8, ea, eh, es1, es2, es3⟩ := (HM.out.keptM (Kp.below (hBw.mono hB))).atM k hlt
            have hBa := fun t => hBr.alloc hsz (.cells #[.string meths[k].name, .bool meths[k].static, va, .int .i64 meths[k].ret.kind, .string meths[k].ret.cls, .int .i64 meths[k].stack, .int .i64 meths[k].locals, .string meths[k].code, vh] t)
            have HBA := mkHid hBa
            have EA := mkHid ea
            have EH := mkHid eh
            obtain ⟨ao, ca, rfl, _⟩ := ea
            obtain ⟨ho, ch, rfl, _⟩ := eh
            clear hBa
            go_wp2_with fail
            refine (checkMethod_any _ B meths[k] _ _ (EA.out.keptK (Kp.below ((Below.refl _ _).alloc (by omega) _))) (EH.out.keptH (Kp.below ((Below.refl _ _).alloc (by omega) _))) (by simp; omega) es1 es2).mono ?_
            rintro r w2 ⟨hr, hb2⟩
            have hBs := (HBA.out _).trans (hb2.mono (by simp; omega))
            clear hb2 HBA e0 e1 e2 e3 e4 e5 e6 e7 e8
            rcases hr with ⟨hc, rfl⟩ | ⟨hc, rfl⟩
            · refine ⟨rfl, chk_no ?_ hc, hB0.trans (hBs.mono (by omega))⟩
              rw [HX6.out, ← HP.out, allE_no hlt hc]
            · have HB := mkHid hc
              clear hc
              go_wp2_with fail
              go_roundw
              case rel => exact ⟨k + 1, by omega, by go_num, (allE_ok hlt HB.out).symm.trans HP.out, hBs⟩
              case measure => simp [intOf]; omega
          · go_wp2_with fail
            go_end0
            exact ⟨chk_ok (by rw [HX6.out, ← HP.out, allE_end hlt]), hB0.trans (hBr.mono (by omega))⟩

set_option maxHeartbeats 1000000 in
theorem checkClasses_any (w : World) (B : Nat) (l : List ClassD) (v : Value) (hv : SL 4 RC (· < B) w v l) (hB : B ≤ w.heap.size) :
    Calls Tryz.prog 197 #[v] w fun r w' => ChkOut (checkL l) r ∧ Below w.heap.size w w' := by
  have HV := mkHid hv
  obtain ⟨ao, cl, rfl, hcl, hll, _⟩ := hv
  unfold maxLen at hll
  have HX0 : Hid (checkL l = dem (decide (l.length ≤ 10)) 2 (allE checkClass l)) := rfl
  generalize checkL l = X at *
  go_enter Tryz.func197, Tryz.ntmps197
  by_cases hq : l.length ≤ 10
  rotate_left
  · have hq' : ¬ (l.length : Int) ≤ 10 := by omega
    go_wp2_with fail
    refine (demand_any _ _ _).mono ?_
    rintro r w1 ⟨rfl, ⟨hb, rfl⟩ | ⟨hb, rfl⟩⟩
    · exact ⟨rfl, chk_no (by rw [HX0.out, decide_eq_false hq, dem_false]) (by decide), Below.refl _ _⟩
    · exact absurd hb (by first | (simp; done) | (simp; omega))
  have hq1 : (l.length : Int) ≤ 10 := by omega
  have HX1 := mkHid (HX0.out.trans (by rw [decide_eq_true hq, dem_true]))
  clear hq HX0
  go_wp2_with fail
  refine (demand_any _ _ _).mono ?_
  rintro r w1 ⟨rfl, ⟨hb, rfl⟩ | ⟨hb, rfl⟩⟩
  · exact absurd hb (by simp)
  clear hb
  go_wp2_with fail
  go_loopw [10] (fun i wr => ∃ k : Nat, k ≤ l.length ∧ i = .int .i64 k ∧ Hid (allE checkClass (l.drop k) = allE checkClass l) ∧ Below w1.heap.size w1 wr) (fun i _ => l.length - (intOf i).toNat)
  case atStart => exact ⟨0, Nat.zero_le _, rfl, rfl, Below.refl _ _⟩
  case round =>
    obtain ⟨k, hk, rfl, HP, hBr⟩ := hrel
    have hsz := hBr.size
    by_cases hlt : k < l.length
    · obtain ⟨b, off, vf, vm, rfl, hbl, e0, e1, e2, e3, ef, em, es1, es2⟩ := (HV.out.keptC (Kp.below (hBr.mono hB))).atC k hlt
      have hBa := fun t => hBr.alloc hsz (.cells #[.string l[k].name, .string l[k].super, vf, vm] t)
      have HBA := mkHid hBa
      have EF := mkHid ef
      have EM := mkHid em
      obtain ⟨fo, cf, rfl, _⟩ := ef
      obtain ⟨mo, cm, rfl, _⟩ := em
      clear hBa
      go_wp2_with fail
      refine (checkClass_any _ B l[k] _ _ (EF.out.keptF (Kp.below ((Below.refl _ _).alloc (by omega) _))) (EM.out.keptM (Kp.below ((Below.refl _ _).alloc (by omega) _))) (by simp; omega) es1 es2).mono ?_
      rintro r w2 ⟨hr, hb2⟩
      have hBs := (HBA.out _).trans (hb2.mono (by simp; omega))
      clear hb2 HBA e0 e1 e2 e3
      rcases hr with ⟨hc, rfl⟩ | ⟨hc, rfl⟩
      · refine ⟨rfl, chk_no ?_ hc, hBs⟩
        rw [HX1.out, ← HP.out, allE_no hlt hc]
      · have HB := mkHid hc
        clear hc
        go_wp2_with fail
        go_roundw
        case rel => exact ⟨k + 1, by omega, by go_num, (allE_ok hlt HB.out).symm.trans HP.out, hBs⟩
        case measure => simp [intOf]; omega
    · go_wp2_with fail
      go_end0
      exact ⟨chk_ok (by rw [HX1.out, ← HP.out, allE_end hlt]), hBr⟩
end Go.Proofs.YtjdnmblggdobgaaGreat
