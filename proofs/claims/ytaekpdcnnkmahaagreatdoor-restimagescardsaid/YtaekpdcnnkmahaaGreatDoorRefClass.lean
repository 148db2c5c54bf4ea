/- The contract of the document's own check of classes. -/
import Derived.Test.YtaekpdcnnkmahaaGreatDoorRefMeth
namespace Go.Proofs.YtaekpdcnnkmahaaGreatDoor
open Go.RowKit

set_option maxRecDepth 100000 in
set_option maxHeartbeats 16000000 in
theorem checkClassesOf_any (w : World) (B : Nat) (l : List ClassD) (v : Value) (hv : SL 4 RC (· < B) w v l) (hB : B ≤ w.heap.size) :
    Calls Tryz.prog 10 #[v] w fun r w' => r = .returned (.int .i64 (checkL l)) ∧ Below w.heap.size w w' := by
  have HV := mkHid hv
  obtain ⟨ao, cl, rfl, hcl, hll, -⟩ := hv
  unfold maxLen at hll
  have HX0 : Hid (checkL l = dem (decide (l.length ≤ 10)) 2 (allE checkClass l)) := rfl
  generalize checkL l = X at *
  go_enter Tryz.func10, Tryz.ntmps10
  by_cases hq : l.length ≤ 10
  rotate_left
  · have hq' : (10 : Int) < l.length := by omega
    have HE := mkHid (HX0.out.trans (by rw [decide_eq_false hq, dem_false]))
    go_wp2_with fail
    go_ret
    exact ⟨by rw [HE.out]; rfl, Below.refl _ _⟩
  have hq1 : ¬ (10 : Int) < l.length := by omega
  have HX1 := mkHid (HX0.out.trans (by rw [decide_eq_true hq, dem_true]))
  clear hq HX0
  go_wp2_with fail
  go_loopw [3] (fun i wr => ∃ k : Nat, k ≤ l.length ∧ i = .int .i64 k ∧ Hid (allE checkClass (l.drop k) = allE checkClass l) ∧ Below w.heap.size w wr) (fun i _ => l.length - (intOf i).toNat)
  case atStart => exact ⟨0, Nat.zero_le _, rfl, rfl, Below.refl _ _⟩
  case round =>
    obtain ⟨k, hk, rfl, HP, hBr⟩ := hrel
    have hszr := hBr.size
    by_cases hlt : k < l.length
    rotate_left
    · have HE := mkHid (HX1.out.trans (by rw [← HP.out, allE_end hlt]))
      go_wp2_with fail
      go_ret
      exact ⟨by rw [HE.out]; rfl, hBr⟩
    obtain ⟨b, off, vf, vm, rfl, hbl, e0, e1, e2, e3, ef, em, es1, es2⟩ := (HV.out.keptC (Kp.below (hBr.mono hB))).atC k hlt
    have HNO := mkHid (fun (e : Int) (he : e ≠ 0) (hc : checkClass l[k] = e) => HX1.out.trans ((HP.out.symm.trans (allE_no hlt (by rw [hc]; exact he))).trans hc))
    have HOK := mkHid (fun (hc : checkClass l[k] = 0) => (allE_ok hlt hc).symm.trans HP.out)
    have HC0 : Hid (checkClass l[k] = checkClass l[k]) := rfl
    generalize l[k] = c at *
    obtain ⟨name, super, fields, meths⟩ := c
    dsimp only at *
    have HC1 : Hid (checkClass ⟨name, super, fields, meths⟩ = dem (isNameB name) 1 (dem (decide (super.size = 0) || isNameB super) 1 (dem (decide (fields.length ≤ 6)) 2 (dem (decide (meths.length ≤ 8)) 2 (thenE (allE checkField fields) (allE checkMeth meths)))))) := rfl
    generalize checkClass ⟨name, super, fields, meths⟩ = Y at *
    have EF := mkHid ef
    have EM := mkHid em
    obtain ⟨fo, cf, rfl, hcf, hlf, -⟩ := ef
    obtain ⟨mo, cm, rfl, hcm, hlm, -⟩ := em
    unfold maxLen at hlf hlm
    have s0 := size0 super
    clear HC0 HP
    go_wp2_with fail
    generalize hW : wr.alloc (.cells #[.string name, .string super, .slice fo fields.length cf, .slice mo meths.length cm] 61) = W0
    have hz : W0.heap.size = wr.heap.size + 1 := by rw [← hW]; simp
    have hB0 : Below wr.heap.size wr W0 := by rw [← hW]; exact (Below.refl wr.heap.size wr).alloc (Nat.le_refl _) _
    have hBw : Below w.heap.size w W0 := hBr.trans (hB0.mono hszr)
    have c0 : W0.cell? ⟨wr.heap.size, 0, none⟩ = some (.string name) := by rw [← hW]; simp [go_sem]
    have c1 : W0.cell? ⟨wr.heap.size, 1, none⟩ = some (.string super) := by rw [← hW]; simp [go_sem]
    have c2 : W0.cell? ⟨wr.heap.size, 2, none⟩ = some (.slice fo fields.length cf) := by rw [← hW]; simp [go_sem]
    have c3 : W0.cell? ⟨wr.heap.size, 3, none⟩ = some (.slice mo meths.length cm) := by rw [← hW]; simp [go_sem]
    have hwl : wr.heap.size < W0.heap.size := by omega
    clear hW e0 e1 e2 e3
    refine (isNameOf_any _ _ es1).mono ?_
    rintro r w1 ⟨rfl, rfl⟩
    cases hb : isNameB name
    · have HE := mkHid (HNO.out 1 (by decide) (HC1.out.trans (by rw [hb, dem_false])))
      go_wp2_with fail
      go_ret
      exact ⟨by rw [HE.out]; rfl, hBw⟩
    have HC2 := mkHid (HC1.out.trans (by rw [hb, dem_true]))
    clear hb HC1
    by_cases hq : super.size = 0
    · have HC3 := mkHid (HC2.out.trans (by rw [decide_eq_true hq, Bool.true_or, dem_true]))
      have s1 : super.toList.isEmpty = true := by rw [s0, decide_eq_true hq]
      clear HC2 hq s0
      by_cases hq : fields.length ≤ 6
      rotate_left
      · have hq' : (6 : Int) < fields.length := by omega
        have HE := mkHid (HNO.out 2 (by decide) (HC3.out.trans (by rw [decide_eq_false hq, dem_false])))
        go_wp2_with fail
        go_ret
        exact ⟨by rw [HE.out]; rfl, hBw⟩
      have hq3 : ¬ (6 : Int) < fields.length := by omega
      have HC4 := mkHid (HC3.out.trans (by rw [decide_eq_true hq, dem_true]))
      clear hq HC3
      by_cases hq : meths.length ≤ 8
      rotate_left
      · have hq' : (8 : Int) < meths.length := by omega
        have HE := mkHid (HNO.out 2 (by decide) (HC4.out.trans (by rw [decide_eq_false hq, dem_false])))
        go_wp2_with fail
        go_ret
        exact ⟨by rw [HE.out]; rfl, hBw⟩
      have hq4 : ¬ (8 : Int) < meths.length := by omega
      have HC5 := mkHid (HC4.out.trans (by rw [decide_eq_true hq, dem_true]))
      clear hq HC4
      go_wp2_with fail
      go_loopw [5] (fun i wi => ∃ j : Nat, j ≤ fields.length ∧ i = .int .i64 j ∧ Hid (allE checkField (fields.drop j) = allE checkField fields) ∧ Below (wr.heap.size + 1) w1 wi) (fun i _ => fields.length - (intOf i).toNat)
      case atStart => exact ⟨0, Nat.zero_le _, rfl, rfl, Below.refl _ _⟩
      case round =>
        rename World => wi
        obtain ⟨j, hj, rfl, HP, hBi⟩ := hrel
        have hsz : wr.heap.size + 1 ≤ wi.heap.size := by have := hBi.size; omega
        have hw0 : wr.heap.size < wi.heap.size := by omega
        have d2 := (hBi.cell (p := ⟨wr.heap.size, 2, none⟩) (by simp)).trans c2
        by_cases hlt2 : j < fields.length
        · obtain ⟨b2, off2, rfl, hbl2, e0, e1, e2, et1, et2⟩ := (EF.out.keptF (Kp.below ((hB0.trans (hBi.mono (by omega))).mono (by omega)))).atF j hlt2
          go_wp2_with fail
          refine (isNameOf_any _ fields[j].name et1).mono ?_
          rintro r w2 ⟨rfl, rfl⟩
          cases h1 : isNameB fields[j].name
          · have HE := mkHid (HNO.out 1 (by decide) (HC5.out.trans (by rw [← HP.out, allE_no hlt2 (by rw [chk_field_no1 h1]; decide), chk_field_no1 h1, thenE_e (by decide)])))
            go_wp2_with fail
            go_ret
            exact ⟨by rw [HE.out]; rfl, hBw.trans (hBi.mono (by omega))⟩
          have H1 := mkHid h1
          clear h1
          go_wp2_with fail
          refine (rightOf_any _ fields[j].kind et2).mono ?_
          rintro r w3 ⟨rfl, hb2⟩
          have hBs := hBi.trans (hb2.mono (by omega))
          clear hb2 hBi e0 e1 e2 d2
          cases h2 : rightB fields[j].kind
          · have HE := mkHid (HNO.out 7 (by decide) (HC5.out.trans (by rw [← HP.out, allE_no hlt2 (by rw [chk_field_no2 H1.out h2]; decide), chk_field_no2 H1.out h2, thenE_e (by decide)])))
            go_wp2_with fail
            go_ret
            exact ⟨by rw [HE.out]; rfl, hBw.trans (hBs.mono (by omega))⟩
          have HO := mkHid (chk_field_ok H1.out h2)
          clear h2
          go_wp2_with fail
          go_roundw
          case rel => exact ⟨j + 1, by omega, by go_num, (allE_ok hlt2 HO.out).symm.trans HP.out, hBs⟩
          case measure => simp [intOf]; omega
        · have HC6 := mkHid (HC5.out.trans (by rw [← HP.out, allE_end hlt2, thenE_0]))
          clear HP HC5
          have hBs := hBi
          clear hBi
          go_wp2_with fail
          go_loopw [6] (fun i wi => ∃ j : Nat, j ≤ meths.length ∧ i = .int .i64 j ∧ Hid (allE checkMeth (meths.drop j) = allE checkMeth meths) ∧ Below (wr.heap.size + 1) w1 wi) (fun i _ => meths.length - (intOf i).toNat)
          case atStart => exact ⟨0, Nat.zero_le _, rfl, rfl, hBs⟩
          case round =>
            rename World => wi
            obtain ⟨j, hj, rfl, HP, hBi⟩ := hrel
            have hsz : wr.heap.size + 1 ≤ wi.heap.size := by have := hBi.size; omega
            have hw0 : wr.heap.size < wi.heap.size := by omega
            have d3 := (hBi.cell (p := ⟨wr.heap.size, 3, none⟩) (by simp)).trans c3
            by_cases hlt2 : j < meths.length
            · obtain ⟨b2, off2, va, vh, rfl, hbl2, e0, e1, e2, e3, e4, e5, e6, e7, e8, ea, eh, et1, et2, et3⟩ := (EM.out.keptM (Kp.below ((hB0.trans (hBi.mono (by omega))).mono (by omega)))).atM j hlt2
              have EA := mkHid ea
              have EH := mkHid eh
              obtain ⟨ao, ca, rfl, -⟩ := ea
              obtain ⟨ho, ch, rfl, -⟩ := eh
              go_wp2_with fail
              refine (checkMethodOf_any _ B meths[j] _ _ EA.out EH.out (by omega) et1 et2).mono ?_
              rintro r w3 ⟨rfl, hb2⟩
              have hBs2 := hBi.trans (hb2.mono (by omega))
              clear hb2 hBi e0 e1 e2 e3 e4 e5 e6 e7 e8 d3 EA EH
              by_cases hc : checkMeth meths[j] = 0
              · have HO := mkHid hc
                have hc' : (checkMeth meths[j] != 0) = false := by rw [hc]; rfl
                clear hc
                go_wp2_with fail
                go_roundw
                case rel => exact ⟨j + 1, by omega, by go_num, (allE_ok hlt2 HO.out).symm.trans HP.out, hBs2⟩
                case measure => simp [intOf]; omega
              · have HE := mkHid (HNO.out (checkMeth meths[j]) hc (HC6.out.trans (by rw [← HP.out, allE_no hlt2 hc])))
                have hc' : (checkMeth meths[j] != 0) = true := by rw [bne_iff_ne]; exact hc
                clear hc
                go_wp2_with fail
                go_ret
                exact ⟨by rw [HE.out]; rfl, hBw.trans (hBs2.mono (by omega))⟩
            · have HO := mkHid (HOK.out (HC6.out.trans (by rw [← HP.out, allE_end hlt2])))
              go_wp2_with fail
              go_roundw
              case rel => exact ⟨k + 1, by omega, by go_num, HO.out, hBw.trans (hBi.mono (by omega))⟩
              case measure => simp [intOf]; omega
    · have HC2b := mkHid (HC2.out.trans (by rw [decide_eq_false hq, Bool.false_or]))
      have s1 : super.toList.isEmpty = false := by rw [s0, decide_eq_false hq]
      clear HC2 hq s0
      go_wp2_with fail
      refine (isNameOf_any _ _ es2).mono ?_
      rintro r w1 ⟨rfl, rfl⟩
      cases hb : isNameB super
      · have HE := mkHid (HNO.out 1 (by decide) (HC2b.out.trans (by rw [hb, dem_false])))
        go_wp2_with fail
        go_ret
        exact ⟨by rw [HE.out]; rfl, hBw⟩
      have HC3 := mkHid (HC2b.out.trans (by rw [hb, dem_true]))
      clear hb HC2b
      by_cases hq : fields.length ≤ 6
      rotate_left
      · have hq' : (6 : Int) < fields.length := by omega
        have HE := mkHid (HNO.out 2 (by decide) (HC3.out.trans (by rw [decide_eq_false hq, dem_false])))
        go_wp2_with fail
        go_ret
        exact ⟨by rw [HE.out]; rfl, hBw⟩
      have hq3 : ¬ (6 : Int) < fields.length := by omega
      have HC4 := mkHid (HC3.out.trans (by rw [decide_eq_true hq, dem_true]))
      clear hq HC3
      by_cases hq : meths.length ≤ 8
      rotate_left
      · have hq' : (8 : Int) < meths.length := by omega
        have HE := mkHid (HNO.out 2 (by decide) (HC4.out.trans (by rw [decide_eq_false hq, dem_false])))
        go_wp2_with fail
        go_ret
        exact ⟨by rw [HE.out]; rfl, hBw⟩
      have hq4 : ¬ (8 : Int) < meths.length := by omega
      have HC5 := mkHid (HC4.out.trans (by rw [decide_eq_true hq, dem_true]))
      clear hq HC4
      go_wp2_with fail
      go_loopw [5] (fun i wi => ∃ j : Nat, j ≤ fields.length ∧ i = .int .i64 j ∧ Hid (allE checkField (fields.drop j) = allE checkField fields) ∧ Below (wr.heap.size + 1) w1 wi) (fun i _ => fields.length - (intOf i).toNat)
      case atStart => exact ⟨0, Nat.zero_le _, rfl, rfl, Below.refl _ _⟩
      case round =>
        rename World => wi
        obtain ⟨j, hj, rfl, HP, hBi⟩ := hrel
        have hsz : wr.heap.size + 1 ≤ wi.heap.size := by have := hBi.size; omega
        have hw0 : wr.heap.size < wi.heap.size := by omega
        have d2 := (hBi.cell (p := ⟨wr.heap.size, 2, none⟩) (by simp)).trans c2
        by_cases hlt2 : j < fields.length
        · obtain ⟨b2, off2, rfl, hbl2, e0, e1, e2, et1, et2⟩ := (EF.out.keptF (Kp.below ((hB0.trans (hBi.mono (by omega))).mono (by omega)))).atF j hlt2
          go_wp2_with fail
          refine (isNameOf_any _ fields[j].name et1).mono ?_
          rintro r w2 ⟨rfl, rfl⟩
          cases h1 : isNameB fields[j].name
          · have HE := mkHid (HNO.out 1 (by decide) (HC5.out.trans (by rw [← HP.out, allE_no hlt2 (by rw [chk_field_no1 h1]; decide), chk_field_no1 h1, thenE_e (by decide)])))
            go_wp2_with fail
            go_ret
            exact ⟨by rw [HE.out]; rfl, hBw.trans (hBi.mono (by omega))⟩
          have H1 := mkHid h1
          clear h1
          go_wp2_with fail
          refine (rightOf_any _ fields[j].kind et2).mono ?_
          rintro r w3 ⟨rfl, hb2⟩
          have hBs := hBi.trans (hb2.mono (by omega))
          clear hb2 hBi e0 e1 e2 d2
          cases h2 : rightB fields[j].kind
          · have HE := mkHid (HNO.out 7 (by decide) (HC5.out.trans (by rw [← HP.out, allE_no hlt2 (by rw [chk_field_no2 H1.out h2]; decide), chk_field_no2 H1.out h2, thenE_e (by decide)])))
            go_wp2_with fail
            go_ret
            exact ⟨by rw [HE.out]; rfl, hBw.trans (hBs.mono (by omega))⟩
          have HO := mkHid (chk_field_ok H1.out h2)
          clear h2
          go_wp2_with fail
          go_roundw
          case rel => exact ⟨j + 1, by omega, by go_num, (allE_ok hlt2 HO.out).symm.trans HP.out, hBs⟩
          case measure => simp [intOf]; omega
        · have HC6 := mkHid (HC5.out.trans (by rw [← HP.out, allE_end hlt2, thenE_0]))
          clear HP HC5
          have hBs := hBi
          clear hBi
          go_wp2_with fail
          go_loopw [6] (fun i wi => ∃ j : Nat, j ≤ meths.length ∧ i = .int .i64 j ∧ Hid (allE checkMeth (meths.drop j) = allE checkMeth meths) ∧ Below (wr.heap.size + 1) w1 wi) (fun i _ => meths.length - (intOf i).toNat)
          case atStart => exact ⟨0, Nat.zero_le _, rfl, rfl, hBs⟩
          case round =>
            rename World => wi
            obtain ⟨j, hj, rfl, HP, hBi⟩ := hrel
            have hsz : wr.heap.size + 1 ≤ wi.heap.size := by have := hBi.size; omega
            have hw0 : wr.heap.size < wi.heap.size := by omega
            have d3 := (hBi.cell (p := ⟨wr.heap.size, 3, none⟩) (by simp)).trans c3
            by_cases hlt2 : j < meths.length
            · obtain ⟨b2, off2, va, vh, rfl, hbl2, e0, e1, e2, e3, e4, e5, e6, e7, e8, ea, eh, et1, et2, et3⟩ := (EM.out.keptM (Kp.below ((hB0.trans (hBi.mono (by omega))).mono (by omega)))).atM j hlt2
              have EA := mkHid ea
              have EH := mkHid eh
              obtain ⟨ao, ca, rfl, -⟩ := ea
              obtain ⟨ho, ch, rfl, -⟩ := eh
              go_wp2_with fail
              refine (checkMethodOf_any _ B meths[j] _ _ EA.out EH.out (by omega) et1 et2).mono ?_
              rintro r w3 ⟨rfl, hb2⟩
              have hBs2 := hBi.trans (hb2.mono (by omega))
              clear hb2 hBi e0 e1 e2 e3 e4 e5 e6 e7 e8 d3 EA EH
              by_cases hc : checkMeth meths[j] = 0
              · have HO := mkHid hc
                have hc' : (checkMeth meths[j] != 0) = false := by rw [hc]; rfl
                clear hc
                go_wp2_with fail
                go_roundw
                case rel => exact ⟨j + 1, by omega, by go_num, (allE_ok hlt2 HO.out).symm.trans HP.out, hBs2⟩
                case measure => simp [intOf]; omega
              · have HE := mkHid (HNO.out (checkMeth meths[j]) hc (HC6.out.trans (by rw [← HP.out, allE_no hlt2 hc])))
                have hc' : (checkMeth meths[j] != 0) = true := by rw [bne_iff_ne]; exact hc
                clear hc
                go_wp2_with fail
                go_ret
                exact ⟨by rw [HE.out]; rfl, hBw.trans (hBs2.mono (by omega))⟩
            · have HO := mkHid (HOK.out (HC6.out.trans (by rw [← HP.out, allE_end hlt2])))
              go_wp2_with fail
              go_roundw
              case rel => exact ⟨k + 1, by omega, by go_num, HO.out, hBw.trans (hBi.mono (by omega))⟩
              case measure => simp [intOf]; omega
end Go.Proofs.YtaekpdcnnkmahaaGreatDoor
