/- The contract of the document's own check of a method. -/
import Derived.Test.YtaekpdcnnkmahaaGreatDoorRefName
namespace Go.Proofs.YtaekpdcnnkmahaaGreatDoor
open Go.RowKit

theorem chk_hand_no1 {h : HandD} (h1 : isNameB h.cls = false) : checkHand h = 1 := by rw [checkHand, h1, dem_false]
theorem chk_hand_no2 {h : HandD} (h1 : isNameB h.cls = true) (h2 : win h.frm 200 = false) : checkHand h = 3 := by rw [checkHand, h1, dem_true, h2, dem_false]
theorem chk_hand_no3 {h : HandD} (h1 : isNameB h.cls = true) (h2 : win h.frm 200 = true) (h3 : win h.upto 200 = false) : checkHand h = 3 := by rw [checkHand, h1, dem_true, h2, dem_true, h3, dem_false]
theorem chk_hand_no4 {h : HandD} (h1 : isNameB h.cls = true) (h2 : win h.frm 200 = true) (h3 : win h.upto 200 = true) (h4 : win h.loc 200 = false) : checkHand h = 3 := by rw [checkHand, h1, dem_true, h2, dem_true, h3, dem_true, h4, dem_false]
theorem chk_hand_ok {h : HandD} (h1 : isNameB h.cls = true) (h2 : win h.frm 200 = true) (h3 : win h.upto 200 = true) (h4 : win h.loc 200 = true) : checkHand h = 0 := by rw [checkHand, h1, dem_true, h2, dem_true, h3, dem_true, h4, dem_true]

set_option maxHeartbeats 8000000 in
theorem checkMethodOf_any (w : World) (B : Nat) (m : MethD) (va vh : Value) (ha : SL 2 RK (· < B) w va m.args) (hh : SL 4 RH (· < B) w vh m.hands) (hB : B ≤ w.heap.size) (hs1 : m.name.size ≤ maxLen) (hs2 : m.ret.cls.size ≤ maxLen) :
    Calls Tryz.prog 41 #[.agg #[.string m.name, .bool m.static, va, .int .i64 m.ret.kind, .string m.ret.cls, .int .i64 m.stack, .int .i64 m.locals, .string m.code, vh]] w fun r w' => r = .returned (.int .i64 (checkMeth m)) ∧ Below w.heap.size w w' := by
  obtain ⟨name, static, args, ⟨rk, rc⟩, stack, locals, code, hands⟩ := m
  dsimp only at *
  have HA := mkHid ha
  have HH := mkHid hh
  obtain ⟨ao, ca, rfl, hca, hla, -⟩ := ha
  obtain ⟨ho, ch, rfl, hch, hlh, -⟩ := hh
  unfold maxLen at hla hlh
  have e0 := size0 rc
  have HX0 : Hid (checkMeth ⟨name, static, args, ⟨rk, rc⟩, stack, locals, code, hands⟩ = dem (isNameB name) 1 (dem (decide (args.length ≤ 4)) 2 (dem (decide (code.size ≤ 200)) 2 (dem (decide (hands.length ≤ 4)) 2 (dem (win stack 10) 3 (dem (win locals 10) 3 (thenE (allE checkArg args) (dem (returnedB ⟨rk, rc⟩) 7 (allE checkHand hands))))))))) := rfl
  generalize checkMeth ⟨name, static, args, ⟨rk, rc⟩, stack, locals, code, hands⟩ = X at *
  go_enter Tryz.func41, Tryz.ntmps41
  go_wp2_with fail
  generalize hW : w.alloc (.cells #[.string name, .bool static, .slice ao args.length ca, .int .i64 rk, .string rc, .int .i64 stack, .int .i64 locals, .string code, .slice ho hands.length ch] 76) = W0
  have hz : W0.heap.size = w.heap.size + 1 := by rw [← hW]; simp
  have hB0 : Below w.heap.size w W0 := by rw [← hW]; exact (Below.refl w.heap.size w).alloc (Nat.le_refl _) _
  have c0 : W0.cell? ⟨w.heap.size, 0, none⟩ = some (.string name) := by rw [← hW]; simp [go_sem]
  have c1 : W0.cell? ⟨w.heap.size, 1, none⟩ = some (.bool static) := by rw [← hW]; simp [go_sem]
  have c2 : W0.cell? ⟨w.heap.size, 2, none⟩ = some (.slice ao args.length ca) := by rw [← hW]; simp [go_sem]
  have c3 : W0.cell? ⟨w.heap.size, 3, none⟩ = some (.int .i64 rk) := by rw [← hW]; simp [go_sem]
  have c4 : W0.cell? ⟨w.heap.size, 4, none⟩ = some (.string rc) := by rw [← hW]; simp [go_sem]
  have c5 : W0.cell? ⟨w.heap.size, 5, none⟩ = some (.int .i64 stack) := by rw [← hW]; simp [go_sem]
  have c6 : W0.cell? ⟨w.heap.size, 6, none⟩ = some (.int .i64 locals) := by rw [← hW]; simp [go_sem]
  have c7 : W0.cell? ⟨w.heap.size, 7, none⟩ = some (.string code) := by rw [← hW]; simp [go_sem]
  have c8 : W0.cell? ⟨w.heap.size, 8, none⟩ = some (.slice ho hands.length ch) := by rw [← hW]; simp [go_sem]
  clear hW
  refine (isNameOf_any _ _ hs1).mono ?_
  rintro r w1 ⟨rfl, rfl⟩
  cases hb : isNameB name
  · have HE := mkHid (HX0.out.trans (by rw [hb, dem_false]))
    go_wp2_with fail
    go_ret
    exact ⟨by rw [HE.out]; rfl, hB0⟩
  have HX1 := mkHid (HX0.out.trans (by rw [hb, dem_true]))
  clear hb HX0
  by_cases hq : args.length ≤ 4
  rotate_left
  · have hq' : (4 : Int) < args.length := by omega
    have HE := mkHid (HX1.out.trans (by rw [decide_eq_false hq, dem_false]))
    go_wp2_with fail
    go_ret
    exact ⟨by rw [HE.out]; rfl, hB0⟩
  have hq1 : ¬ (4 : Int) < args.length := by omega
  have HX2 := mkHid (HX1.out.trans (by rw [decide_eq_true hq, dem_true]))
  clear hq HX1
  by_cases hq : code.size ≤ 200
  rotate_left
  · have hq' : (200 : Int) < code.size := by omega
    have HE := mkHid (HX2.out.trans (by rw [decide_eq_false hq, dem_false]))
    go_wp2_with fail
    go_ret
    exact ⟨by rw [HE.out]; rfl, hB0⟩
  have hq2 : ¬ (200 : Int) < code.size := by omega
  have HX3 := mkHid (HX2.out.trans (by rw [decide_eq_true hq, dem_true]))
  clear hq HX2
  by_cases hq : hands.length ≤ 4
  rotate_left
  · have hq' : (4 : Int) < hands.length := by omega
    have HE := mkHid (HX3.out.trans (by rw [decide_eq_false hq, dem_false]))
    go_wp2_with fail
    go_ret
    exact ⟨by rw [HE.out]; rfl, hB0⟩
  have hq3 : ¬ (4 : Int) < hands.length := by omega
  have HX4 := mkHid (HX3.out.trans (by rw [decide_eq_true hq, dem_true]))
  clear hq HX3
  go_wp2_with fail
  refine (betweenOf_any _ _ _).mono ?_
  rintro r w1 ⟨rfl, rfl⟩
  cases hb : win stack 10
  · have HE := mkHid (HX4.out.trans (by rw [hb, dem_false]))
    go_wp2_with fail
    go_ret
    exact ⟨by rw [HE.out]; rfl, hB0⟩
  have HX5 := mkHid (HX4.out.trans (by rw [hb, dem_true]))
  clear hb HX4
  go_wp2_with fail
  refine (betweenOf_any _ _ _).mono ?_
  rintro r w1 ⟨rfl, rfl⟩
  cases hb : win locals 10
  · have HE := mkHid (HX5.out.trans (by rw [hb, dem_false]))
    go_wp2_with fail
    go_ret
    exact ⟨by rw [HE.out]; rfl, hB0⟩
  have HX6 := mkHid (HX5.out.trans (by rw [hb, dem_true]))
  clear hb HX5
  go_wp2_with fail
  go_loopw [3] (fun i wr => ∃ k : Nat, k ≤ args.length ∧ i = .int .i64 k ∧ Hid (allE checkArg (args.drop k) = allE checkArg args) ∧ Below (w.heap.size + 1) w1 wr) (fun i _ => args.length - (intOf i).toNat)
  case atStart => exact ⟨0, Nat.zero_le _, rfl, rfl, Below.refl _ _⟩
  case round =>
    obtain ⟨k, hk, rfl, HP, hBr⟩ := hrel
    have hsz : w.heap.size + 1 ≤ wr.heap.size := by have := hBr.size; omega
    have hw0 : w.heap.size < wr.heap.size := by omega
    have d2 := (hBr.cell (p := ⟨w.heap.size, 2, none⟩) (by simp)).trans c2
    by_cases hlt : k < args.length
    · obtain ⟨b, off, rfl, hbl, e0, e1, es⟩ := (HA.out.keptK (Kp.below ((hB0.trans (hBr.mono (by omega))).mono hB))).atK k hlt
      go_wp2_with fail
      refine (rightOf_any _ args[k] es).mono ?_
      rintro r w2 ⟨rfl, hb2⟩
      have hBs := hBr.trans (hb2.mono (by omega))
      clear hb2 hBr e0 e1 d2
      cases hb : rightB args[k]
      · have HE := mkHid (HX6.out.trans (by rw [← HP.out, allE_no hlt (by rw [chk_arg_no hb]; decide), chk_arg_no hb, thenE_e (by decide)]))
        go_wp2_with fail
        go_ret
        exact ⟨by rw [HE.out]; rfl, hB0.trans (hBs.mono (by omega))⟩
      · have HB := mkHid (chk_arg_ok hb)
        clear hb
        go_wp2_with fail
        go_roundw
        case rel => exact ⟨k + 1, by omega, by go_num, (allE_ok hlt HB.out).symm.trans HP.out, hBs⟩
        case measure => simp [intOf]; omega
    · have HX7 := mkHid (HX6.out.trans (by rw [← HP.out, allE_end hlt, thenE_0]))
      have d3 := (hBr.cell (p := ⟨w.heap.size, 3, none⟩) (by simp)).trans c3
      have d4 := (hBr.cell (p := ⟨w.heap.size, 4, none⟩) (by simp)).trans c4
      clear HP HX6
      go_wp2_with fail
      refine (rightOf_any _ ⟨rk, rc⟩ hs2).mono ?_
      rintro r w2 ⟨rfl, hb2⟩
      have hBs := hBr.trans (hb2.mono (by omega))
      clear hb2 hBr d3 d4 d2
      have d3 := (hBs.cell (p := ⟨w.heap.size, 3, none⟩) (by simp)).trans c3
      have d4 := (hBs.cell (p := ⟨w.heap.size, 4, none⟩) (by simp)).trans c4
      have hw2 : w.heap.size < w2.heap.size := by have := hBs.size; omega
      have HR : Hid (returnedB ⟨rk, rc⟩ = (rightB ⟨rk, rc⟩ || (decide (rk = 0) && decide (rc.size = 0)))) := rfl
      cases hb : rightB ⟨rk, rc⟩
      · rw [hb, Bool.false_or] at HR
        by_cases h0 : rk = 0
        · by_cases h1 : rc.size = 0
          · have HX8 := mkHid (HX7.out.trans (by rw [HR.out, decide_eq_true h0, decide_eq_true h1, Bool.and_self, dem_true]))
            have b0 : (rk != 0) = false := by rw [h0]; rfl
            have b1 : rc.toList.isEmpty = true := by rw [e0, decide_eq_true h1]
            clear HR HX7 h0 h1 e0 hb
            go_wp2_with fail
            go_loopw [4] (fun i wr => ∃ k : Nat, k ≤ hands.length ∧ i = .int .i64 k ∧ Hid (allE checkHand (hands.drop k) = allE checkHand hands) ∧ Below (w.heap.size + 1) w1 wr) (fun i _ => hands.length - (intOf i).toNat)
            case atStart => exact ⟨0, Nat.zero_le _, rfl, rfl, hBs⟩
            case round =>
              obtain ⟨k, hk, rfl, HP, hBr⟩ := hrel
              have hsz : w.heap.size + 1 ≤ wr.heap.size := by have := hBr.size; omega
              have hw0 : w.heap.size < wr.heap.size := by omega
              have d8 := (hBr.cell (p := ⟨w.heap.size, 8, none⟩) (by simp)).trans c8
              by_cases hlt : k < hands.length
              · obtain ⟨b, off, rfl, hbl, e0, e1, e2, e3, es⟩ := (HH.out.keptH (Kp.below ((hB0.trans (hBr.mono (by omega))).mono hB))).atH k hlt
                have hBa := hBr.alloc hsz (.cells #[.int .i64 hands[k].frm, .int .i64 hands[k].upto, .int .i64 hands[k].loc, .string hands[k].cls] 79)
                go_wp2_with fail
                refine (isNameOf_any _ hands[k].cls es).mono ?_
                rintro r w2 ⟨rfl, rfl⟩
                cases h1 : isNameB hands[k].cls
                · have HE := mkHid (HX8.out.trans (by rw [← HP.out, allE_no hlt (by rw [chk_hand_no1 h1]; decide), chk_hand_no1 h1]))
                  go_wp2_with fail
                  go_ret
                  exact ⟨by rw [HE.out]; rfl, hB0.trans (hBa.mono (by omega))⟩
                have H1 := mkHid h1
                clear h1
                go_wp2_with fail
                refine (betweenOf_any _ _ _).mono ?_
                rintro r w2 ⟨rfl, rfl⟩
                cases h2 : win hands[k].frm 200
                · have HE := mkHid (HX8.out.trans (by rw [← HP.out, allE_no hlt (by rw [chk_hand_no2 H1.out h2]; decide), chk_hand_no2 H1.out h2]))
                  go_wp2_with fail
                  go_ret
                  exact ⟨by rw [HE.out]; rfl, hB0.trans (hBa.mono (by omega))⟩
                have H2 := mkHid h2
                clear h2
                go_wp2_with fail
                refine (betweenOf_any _ _ _).mono ?_
                rintro r w2 ⟨rfl, rfl⟩
                cases h3 : win hands[k].upto 200
                · have HE := mkHid (HX8.out.trans (by rw [← HP.out, allE_no hlt (by rw [chk_hand_no3 H1.out H2.out h3]; decide), chk_hand_no3 H1.out H2.out h3]))
                  go_wp2_with fail
                  go_ret
                  exact ⟨by rw [HE.out]; rfl, hB0.trans (hBa.mono (by omega))⟩
                have H3 := mkHid h3
                clear h3
                go_wp2_with fail
                refine (betweenOf_any _ _ _).mono ?_
                rintro r w2 ⟨rfl, rfl⟩
                cases h4 : win hands[k].loc 200
                · have HE := mkHid (HX8.out.trans (by rw [← HP.out, allE_no hlt (by rw [chk_hand_no4 H1.out H2.out H3.out h4]; decide), chk_hand_no4 H1.out H2.out H3.out h4]))
                  go_wp2_with fail
                  go_ret
                  exact ⟨by rw [HE.out]; rfl, hB0.trans (hBa.mono (by omega))⟩
                have HO := mkHid (chk_hand_ok H1.out H2.out H3.out h4)
                clear h4
                go_wp2_with fail
                go_roundw
                case rel => exact ⟨k + 1, by omega, by go_num, (allE_ok hlt HO.out).symm.trans HP.out, hBa⟩
                case measure => simp [intOf]; omega
              · have HE := mkHid (HX8.out.trans (by rw [← HP.out, allE_end hlt]))
                go_wp2_with fail
                go_ret
                exact ⟨by rw [HE.out]; rfl, hB0.trans (hBr.mono (by omega))⟩
          · have HE := mkHid (HX7.out.trans (by rw [HR.out, decide_eq_false h1, Bool.and_false, dem_false]))
            have b0 : (rk != 0) = false := by rw [h0]; rfl
            have b1 : rc.toList.isEmpty = false := by rw [e0, decide_eq_false h1]
            clear HR HX7 h0 h1 e0 hb
            go_wp2_with fail
            go_ret
            exact ⟨by rw [HE.out]; rfl, hB0.trans (hBs.mono (by omega))⟩
        · have HE := mkHid (HX7.out.trans (by rw [HR.out, decide_eq_false h0, Bool.false_and, dem_false]))
          have b0 : (rk != 0) = true := by rw [bne_iff_ne]; exact h0
          clear HR HX7 h0 e0 hb
          go_wp2_with fail
          go_ret
          exact ⟨by rw [HE.out]; rfl, hB0.trans (hBs.mono (by omega))⟩
      · have HX8 := mkHid (HX7.out.trans (by rw [HR.out, hb, Bool.true_or, dem_true]))
        clear HR HX7 e0 hb
        go_wp2_with fail
        go_loopw [4] (fun i wr => ∃ k : Nat, k ≤ hands.length ∧ i = .int .i64 k ∧ Hid (allE checkHand (hands.drop k) = allE checkHand hands) ∧ Below (w.heap.size + 1) w1 wr) (fun i _ => hands.length - (intOf i).toNat)
        case atStart => exact ⟨0, Nat.zero_le _, rfl, rfl, hBs⟩
        case round =>
          obtain ⟨k, hk, rfl, HP, hBr⟩ := hrel
          have hsz : w.heap.size + 1 ≤ wr.heap.size := by have := hBr.size; omega
          have hw0 : w.heap.size < wr.heap.size := by omega
          have d8 := (hBr.cell (p := ⟨w.heap.size, 8, none⟩) (by simp)).trans c8
          by_cases hlt : k < hands.length
          · obtain ⟨b, off, rfl, hbl, e0, e1, e2, e3, es⟩ := (HH.out.keptH (Kp.below ((hB0.trans (hBr.mono (by omega))).mono hB))).atH k hlt
            have hBa := hBr.alloc hsz (.cells #[.int .i64 hands[k].frm, .int .i64 hands[k].upto, .int .i64 hands[k].loc, .string hands[k].cls] 79)
            go_wp2_with fail
            refine (isNameOf_any _ hands[k].cls es).mono ?_
            rintro r w2 ⟨rfl, rfl⟩
            cases h1 : isNameB hands[k].cls
            · have HE := mkHid (HX8.out.trans (by rw [← HP.out, allE_no hlt (by rw [chk_hand_no1 h1]; decide), chk_hand_no1 h1]))
              go_wp2_with fail
              go_ret
              exact ⟨by rw [HE.out]; rfl, hB0.trans (hBa.mono (by omega))⟩
            have H1 := mkHid h1
            clear h1
            go_wp2_with fail
            refine (betweenOf_any _ _ _).mono ?_
            rintro r w2 ⟨rfl, rfl⟩
            cases h2 : win hands[k].frm 200
            · have HE := mkHid (HX8.out.trans (by rw [← HP.out, allE_no hlt (by rw [chk_hand_no2 H1.out h2]; decide), chk_hand_no2 H1.out h2]))
              go_wp2_with fail
              go_ret
              exact ⟨by rw [HE.out]; rfl, hB0.trans (hBa.mono (by omega))⟩
            have H2 := mkHid h2
            clear h2
            go_wp2_with fail
            refine (betweenOf_any _ _ _).mono ?_
            rintro r w2 ⟨rfl, rfl⟩
            cases h3 : win hands[k].upto 200
            · have HE := mkHid (HX8.out.trans (by rw [← HP.out, allE_no hlt (by rw [chk_hand_no3 H1.out H2.out h3]; decide), chk_hand_no3 H1.out H2.out h3]))
              go_wp2_with fail
              go_ret
              exact ⟨by rw [HE.out]; rfl, hB0.trans (hBa.mono (by omega))⟩
            have H3 := mkHid h3
            clear h3
            go_wp2_with fail
            refine (betweenOf_any _ _ _).mono ?_
            rintro r w2 ⟨rfl, rfl⟩
            cases h4 : win hands[k].loc 200
            · have HE := mkHid (HX8.out.trans (by rw [← HP.out, allE_no hlt (by rw [chk_hand_no4 H1.out H2.out H3.out h4]; decide), chk_hand_no4 H1.out H2.out H3.out h4]))
              go_wp2_with fail
              go_ret
              exact ⟨by rw [HE.out]; rfl, hB0.trans (hBa.mono (by omega))⟩
            have HO := mkHid (chk_hand_ok H1.out H2.out H3.out h4)
            clear h4
            go_wp2_with fail
            go_roundw
            case rel => exact ⟨k + 1, by omega, by go_num, (allE_ok hlt HO.out).symm.trans HP.out, hBa⟩
            case measure => simp [intOf]; omega
          · have HE := mkHid (HX8.out.trans (by rw [← HP.out, allE_end hlt]))
            go_wp2_with fail
            go_ret
            exact ⟨by rw [HE.out]; rfl, hB0.trans (hBr.mono (by omega))⟩
end Go.Proofs.YtaekpdcnnkmahaaGreatDoor
