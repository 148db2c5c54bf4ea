/- The law LinkOrders, walked. -/
import Derived.Test.YtkpklkhkhhlifacGreatLAbZ
import Derived.Test.YtkpklkhkhhlifacGreatLBeg
import Derived.Test.YtkpklkhkhhlifacGreatGrow
namespace Go.Proofs.YtkpklkhkhhlifacGreat
open Go.RowKit Go.Maps

theorem chk_in {d : LinkD} (h : chkRes d [] = 0) {a b : Nat} (ha : a < d.classes.length) (hb : b < d.classes.length) : chkRes d [(a : Int), (b : Int)] = 0 := by
  rw [chkRes, if_pos (chkRes_ok h)]
  simp [inB]
  omega
theorem isVal_in {d : LinkD} (h : chkRes d [] = 0) {a b : Nat} (ha : a < d.classes.length) (hb : b < d.classes.length) : isVal d a b = decide (b ∈ lineOf d.classes a) := by
  rw [isVal, if_pos (chk_in h ha hb), Bool.eq_iff_iff, underB_mem, decide_eq_true_iff]

set_option maxRecDepth 100000 in
set_option maxHeartbeats 4000000 in
theorem linkOrders_any (w : World) (v : Value) (l : List ClassD) (a b c : Int) (hv : SL 4 RC (· < w.heap.size) w v l) (ha1 : -9223372036854775808 ≤ a) (ha2 : a ≤ 9223372036854775807) (hb1 : -9223372036854775808 ≤ b) (hb2 : b ≤ 9223372036854775807) (hc1 : -9223372036854775808 ≤ c) (hc2 : c ≤ 9223372036854775807) :
    Calls Tryz.prog 3 #[v, .int .i64 a, .int .i64 b, .int .i64 c] w fun r w' => r = .returned (.bool true) ∧ Below w.heap.size w w' := by
  have HV := mkHid hv
  have HBD := mkHid (And.intro (And.intro ha1 ha2) (And.intro (And.intro hb1 hb2) (And.intro hc1 hc2)))
  have hll : l.length ≤ 9223372036854775807 := by obtain ⟨_, _, -, -, h, -⟩ := hv; unfold maxLen at h; omega
  obtain ⟨ao, cl, rfl, -⟩ := hv
  clear ha1 ha2 hb1 hb2 hc1 hc2
  go_enter Tryz.func3, Tryz.ntmps3
  go_wp2_with fail
  refine (linkBegun_any _).mono ?_
  rintro r w1 ⟨rfl, hb1⟩
  have HB1 := mkHid hb1
  clear hb1
  go_wp2_with fail
  refine (Link_any w1 w.heap.size l _ (HV.out.keptC (Kp.below HB1.out)) HB1.out.size).mono ?_
  rintro r w2 ⟨hb2, ⟨ht, kC, kS, kF, kN, kT, rfl, hk⟩ | ⟨ht, rfl⟩⟩
  rotate_left
  · have hne : (tieRes l == 0) = false := beq_eq_false_iff_ne.2 ht
    have HBF := mkHid (fun o => (HB1.out.trans (hb2.mono HB1.out.size)).alloc (Nat.le_trans HB1.out.size hb2.size) o)
    clear hb2 ht
    generalize tieRes l = te at *
    unfold nilLk
    go_wp2_with fail
    go_ret
    exact ⟨by simp, HBF.out _⟩
  have hk0 := hk.mono (M' := (· < w2.heap.size)) fun k h => h.2
  obtain ⟨aC, cC, aS, cS, aF, cF, aN, cN, aT, cT, rfl, rfl, rfl, rfl, rfl⟩ := hk.agg
  have eS : (linkD l).supers.length = l.length := by simp [linkD]
  have eF : (linkD l).fields.length = l.length := by simp [linkD]
  have eN : (linkD l).names.length = l.length := by simp [linkD]
  have eT : (linkD l).targets.length = l.length := by simp [linkD]
  have eC : (linkD l).classes.length = l.length := rfl
  have hH := Hang.of ht
  have HCK := mkHid (ok_linkD ht)
  have hfew := (list_fine (tie_chk ht)).1
  have hpos : 0 < l.length := by
    have h1 := hH.top
    rw [askTop, Bool.and_eq_true, hasC, decide_eq_true_iff] at h1
    have := (num_le l topName).2
    omega
  rw [eC, eS, eF, eN, eT] at hk0
  rw [eC, eS, eF, eN, eT]
  have HB2 := mkHid (HB1.out.trans (hb2.mono HB1.out.size))
  obtain ⟨W0, hW⟩ : ∃ W0, W0 = w2.alloc (.cells #[.slice aC l.length cC, .slice aS l.length cS, .slice aF l.length cF, .slice aN l.length cN, .slice aT l.length cT] 29) := ⟨_, rfl⟩
  have hA : Below w2.heap.size w2 W0 := hW ▸ (Below.refl w2.heap.size w2).alloc (Nat.le_refl _) _
  have hX : W0.heap[w2.heap.size]? = some (.cells #[.slice aC l.length cC, .slice aS l.length cS, .slice aF l.length cF, .slice aN l.length cN, .slice aT l.length cT] 29 (0, 0)) := hW ▸ heap_alloc_new w2 _
  obtain ⟨g0, hg0⟩ : ∃ g0 : Gr W0.heap.size W0, W0 = g0.w := ⟨⟨W0, Below.refl _ _⟩, rfl⟩
  have HWE : Hid (w2.alloc (.cells #[.slice aC l.length cC, .slice aS l.length cS, .slice aF l.length cF, .slice aN l.length cN, .slice aT l.length cT] 29) = g0.w) := hW ▸ hg0
  have HBG : Hid (∀ g : Gr W0.heap.size W0, Below w.heap.size w g.w) := fun g => (HB2.out.trans (hA.mono HB2.out.size)).trans (g.ok.mono (Nat.le_trans HB2.out.size hA.size))
  have k0 : ∀ g : Gr W0.heap.size W0, g.w.cell? ⟨w2.heap.size, 0, none⟩ = some (.slice aC l.length cC) := fun g => (g.ok.cell (p := ⟨w2.heap.size, 0, none⟩) (lt_of hX)).trans (cell_of hX 0 rfl)
  have k1 : ∀ g : Gr W0.heap.size W0, g.w.cell? ⟨w2.heap.size, 1, none⟩ = some (.slice aS l.length cS) := fun g => (g.ok.cell (p := ⟨w2.heap.size, 1, none⟩) (lt_of hX)).trans (cell_of hX 1 rfl)
  have k2 : ∀ g : Gr W0.heap.size W0, g.w.cell? ⟨w2.heap.size, 2, none⟩ = some (.slice aF l.length cF) := fun g => (g.ok.cell (p := ⟨w2.heap.size, 2, none⟩) (lt_of hX)).trans (cell_of hX 2 rfl)
  have k3 : ∀ g : Gr W0.heap.size W0, g.w.cell? ⟨w2.heap.size, 3, none⟩ = some (.slice aN l.length cN) := fun g => (g.ok.cell (p := ⟨w2.heap.size, 3, none⟩) (lt_of hX)).trans (cell_of hX 3 rfl)
  have k4 : ∀ g : Gr W0.heap.size W0, g.w.cell? ⟨w2.heap.size, 4, none⟩ = some (.slice aT l.length cT) := fun g => (g.ok.cell (p := ⟨w2.heap.size, 4, none⟩) (lt_of hX)).trans (cell_of hX 4 rfl)
  have lg : ∀ g : Gr W0.heap.size W0, w2.heap.size < g.w.heap.size := fun g => Nat.lt_of_lt_of_le (lt_of hX) g.ok.size
  have HKG : Hid (∀ g : Gr W0.heap.size W0, RLk (· < w2.heap.size) g.w (.slice aC l.length cC) (.slice aS l.length cS) (.slice aF l.length cF) (.slice aN l.length cN) (.slice aT l.length cT) (linkD l) ∧ w2.heap.size ≤ g.w.heap.size) := fun g => have hb := hA.trans (g.ok.mono hA.size); ⟨hk0.kept (Kp.below hb), hb.size⟩
  obtain ⟨a', ha', hca⟩ := choose_any a l.length HBD.out.1.1 HBD.out.1.2 hpos hfew
  obtain ⟨b', hb', hcb⟩ := choose_any b l.length HBD.out.2.1.1 HBD.out.2.1.2 hpos hfew
  obtain ⟨c', hc', hcc⟩ := choose_any c l.length HBD.out.2.2.1 HBD.out.2.2.2 hpos hfew
  have HCA := mkHid hca
  have HCB := mkHid hcb
  have HCC := mkHid hcc
  have HI : Hid (∀ x y : Nat, x < l.length → y < l.length → ∀ g : Gr W0.heap.size W0, Calls Tryz.prog 7 #[.agg #[.slice aC l.length cC, .slice aS l.length cS, .slice aF l.length cF, .slice aN l.length cN, .slice aT l.length cT], .int .i64 (x : Int), .int .i64 (y : Int)] g.w fun e w'' => e = .returned (.tuple #[.bool (decide (y ∈ lineOf l x)), .int .i64 0]) ∧ ∃ g' : Gr W0.heap.size W0, w'' = g'.w) := fun x y hx hy g => by
    have := Is_any g.w w2.heap.size _ _ _ _ _ (linkD l) x y (HKG.out g).1 (HKG.out g).2
    rw [isVal_in HCK.out hx hy, chk_in HCK.out hx hy] at this
    exact Gr.calls g (Nat.le_refl _) this
  have hab := Abv.of hH ha' hb'
  have hcm := aboveG_comm hH ha' hb'
  have HA : Hid (∀ x y : Nat, x < l.length → y < l.length → ∀ g : Gr W0.heap.size W0, Calls Tryz.prog 8 #[.agg #[.slice aC l.length cC, .slice aS l.length cS, .slice aF l.length cF, .slice aN l.length cN, .slice aT l.length cT], .int .i64 (x : Int), .int .i64 (y : Int)] g.w fun e w'' => e = .returned (.tuple #[.int .i64 (aboveG l x y : Nat), .int .i64 0]) ∧ ∃ g' : Gr W0.heap.size W0, w'' = g'.w) := fun x y hx hy g => by
    have := Above_any g.w w2.heap.size _ _ _ _ _ (linkD l) x y (HKG.out g).1 (HKG.out g).2
    have h1 : aboveVal (linkD l) x y = aboveG l x y := by rw [aboveVal, if_pos (chk_in HCK.out hx hy)]; rfl
    rw [h1, chk_in HCK.out hx hy] at this
    exact Gr.calls g (Nat.le_refl _) this
  have HA1 : Hid (∀ g : Gr W0.heap.size W0, Calls Tryz.prog 8 #[.agg #[.slice aC l.length cC, .slice aS l.length cS, .slice aF l.length cF, .slice aN l.length cN, .slice aT l.length cT], .int .i64 (a' : Int), .int .i64 (b' : Int)] g.w fun e w'' => e = .returned ((.tuple #[.int .i64 (aboveG l a' b' : Nat), .int .i64 0])) ∧ ∃ g' : Gr W0.heap.size W0, w'' = g'.w) := HA.out a' b' ha' hb'
  have HA2 : Hid (∀ g : Gr W0.heap.size W0, Calls Tryz.prog 8 #[.agg #[.slice aC l.length cC, .slice aS l.length cS, .slice aF l.length cF, .slice aN l.length cN, .slice aT l.length cT], .int .i64 (b' : Int), .int .i64 (a' : Int)] g.w fun e w'' => e = .returned ((.tuple #[.int .i64 (aboveG l a' b' : Nat), .int .i64 0])) ∧ ∃ g' : Gr W0.heap.size W0, w'' = g'.w) := hcm ▸ HA.out b' a' hb' ha'
  have hE : ((b' ∈ lineOf l a') ∧ (a' ∈ lineOf l b')) ↔ a' = b' := ⟨fun h => hH.anti ha' h.1 h.2, fun h => by rw [h]; exact ⟨hH.self hb', hH.self hb'⟩⟩
  have hTr : b' ∈ lineOf l a' → c' ∈ lineOf l b' → c' ∈ lineOf l a' := hH.trans ha'
  have hAn := hab.left hH
  have hBn := hab.mem
  have hLw : c' ∈ lineOf l a' → c' ∈ lineOf l b' → c' ∈ lineOf l (aboveG l a' b') := hab.low
  have hnl := hab.lt
  generalize aboveG l a' b' = n' at *
  have HF : Hid (((b' ∈ lineOf l a') ∧ (a' ∈ lineOf l b') ↔ a' = b') ∧ (b' ∈ lineOf l a' → c' ∈ lineOf l b' → c' ∈ lineOf l a') ∧ n' ∈ lineOf l a' ∧ n' ∈ lineOf l b' ∧ (c' ∈ lineOf l a' → c' ∈ lineOf l b' → c' ∈ lineOf l n')) := ⟨hE, hTr, hAn, hBn, hLw⟩
  clear hb2 hk hk0 hA eS eF eN eT eC hX hg0 hW hab hcm hE hTr hAn hBn hLw hca hcb hcc HA HCK hH
  go_wp2_with fail
  rw [HWE.out]
  go_wp2_with fail
  refine (HCA.out _).mono ?_
  rintro r _ ⟨rfl, rfl⟩
  go_wp2_with fail
  refine (HCB.out _).mono ?_
  rintro r _ ⟨rfl, rfl⟩
  go_wp2_with fail
  refine (HCC.out _).mono ?_
  rintro r _ ⟨rfl, rfl⟩
  go_wp2_with fail
  refine (HI.out a' b' (by assumption) (by assumption) _).mono ?_
  rintro r _ ⟨rfl, g1, rfl⟩
  go_wp2_with fail
  refine (HI.out b' a' (by assumption) (by assumption) _).mono ?_
  rintro r _ ⟨rfl, g2, rfl⟩
  go_wp2_with fail
  refine (HI.out b' c' (by assumption) (by assumption) _).mono ?_
  rintro r _ ⟨rfl, g3, rfl⟩
  go_wp2_with fail
  refine (HI.out a' c' (by assumption) (by assumption) _).mono ?_
  rintro r _ ⟨rfl, g4, rfl⟩
  go_wp2_with fail
  refine (HA1.out _).mono ?_
  rintro r _ ⟨rfl, g5, rfl⟩
  go_wp2_with fail
  refine (HA2.out _).mono ?_
  rintro r _ ⟨rfl, g6, rfl⟩
  go_wp2_with fail
  refine (HI.out a' n' (by assumption) (by assumption) _).mono ?_
  rintro r _ ⟨rfl, g7, rfl⟩
  go_wp2_with fail
  refine (HI.out b' n' (by assumption) (by assumption) _).mono ?_
  rintro r _ ⟨rfl, g8, rfl⟩
  go_wp2_with fail
  refine (HI.out n' c' (by assumption) (by assumption) _).mono ?_
  rintro r _ ⟨rfl, g9, rfl⟩
  obtain ⟨hE, hTr, hAn, hBn, hLw⟩ := HF.out
  have HFIN := mkHid (HBG.out g9)
  rw [decide_eq_true hAn, decide_eq_true hBn]
  have e1 : (decide (b' ∈ lineOf l a') && decide (a' ∈ lineOf l b')) = ((a' : Int) == (b' : Int)) := by
    rw [Bool.eq_iff_iff, Bool.and_eq_true, decide_eq_true_iff, decide_eq_true_iff, beq_iff_eq, hE]
    omega
  have e2 : decide (b' ∈ lineOf l a') = true → decide (c' ∈ lineOf l b') = true → decide (c' ∈ lineOf l a') = true := by simpa using hTr
  have e3 : decide (c' ∈ lineOf l a') = true → decide (c' ∈ lineOf l b') = true → decide (c' ∈ lineOf l n') = true := by simpa using hLw
  generalize decide (b' ∈ lineOf l a') = ab at *
  generalize decide (a' ∈ lineOf l b') = ba at *
  generalize decide (c' ∈ lineOf l b') = bc at *
  generalize decide (c' ∈ lineOf l a') = ac at *
  generalize decide (c' ∈ lineOf l n') = nc at *
  clear hE hTr hAn hBn hLw k0 k1 k2 k3 k4 lg HI HA1 HA2 HF HCA HCB HCC HKG HBG
  by_cases hab : (a' : Int) = (b' : Int)
  · have hqt : ((a' : Int) == (b' : Int)) = true := beq_iff_eq.2 hab
    rw [hqt, Bool.and_eq_true] at e1
    obtain ⟨rfl, rfl⟩ := e1
    cases bc <;> cases ac <;> cases nc <;> first
      | (exact absurd (e2 rfl rfl) (by decide))
      | (exact absurd (e3 rfl rfl) (by decide))
      | (clear e2 e3; go_wp2_with fail; go_ret; exact ⟨by simp, HFIN.out⟩)
  · have hqt : ((a' : Int) == (b' : Int)) = false := beq_eq_false_iff_ne.2 hab
    rw [hqt] at e1
    cases ab <;> cases ba <;> cases bc <;> cases ac <;> cases nc <;> first
      | (exact absurd e1 (by decide))
      | (exact absurd (e2 rfl rfl) (by decide))
      | (exact absurd (e3 rfl rfl) (by decide))
      | (clear e1 e2 e3; go_wp2_with fail; go_ret; exact ⟨by simp, HFIN.out⟩)
end Go.Proofs.YtkpklkhkhhlifacGreat
