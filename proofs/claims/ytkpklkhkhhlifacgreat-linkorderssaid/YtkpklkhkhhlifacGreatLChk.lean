/- The contract of checked. -/
import Derived.Test.YtkpklkhkhhlifacGreatLLk
namespace Go.Proofs.YtkpklkhkhhlifacGreat
open Go.RowKit Go.Maps

def okLk (d : LinkD) : Bool := decide (tieRes d.classes = 0) && makesB d.classes d
def inB (d : LinkD) (n : Int) : Bool := decide (0 ≤ n) && decide (n < d.classes.length)
def chkRes (d : LinkD) (ns : List Int) : Int := if okLk d = true then (if ns.all (inB d) = true then 0 else 3) else 4
theorem Web.web' {B : Nat} {w : World} {b : Nat} {l : List ClassD} {vC vS vF vN vT vL : Value} {Bm : Nat} (h : Web B w b l vC vS vF vN vT vL Bm) : Web w.heap.size w b l vC vS vF vN vT vL Bm :=
  have hl : ∀ k, k < B → k < w.heap.size := fun _ hk => Nat.lt_of_lt_of_le hk h.le
  ⟨hl _ h.bB, hl _ h.mB, Nat.le_refl _, h.blk, h.sC.monoC hl, h.sS.monoI hl, h.sF.monoSl hl fun _ _ h => h, h.sN.monoSl hl fun _ _ h => h, h.sT.monoSl hl fun _ _ h => h, h.sL.monoSl hl fun _ _ h => h, h.nm⟩
theorem RLk.agg {M : Nat → Prop} {w : World} {kC kS kF kN kT : Value} {d : LinkD} (h : RLk M w kC kS kF kN kT d) : ∃ aC cC aS cS aF cF aN cN aT cT, kC = .slice aC d.classes.length cC ∧ kS = .slice aS d.supers.length cS ∧ kF = .slice aF d.fields.length cF ∧ kN = .slice aN d.names.length cN ∧ kT = .slice aT d.targets.length cT := by
  obtain ⟨⟨aC, cC, e1, -⟩, ⟨aS, cS, e2, -⟩, ⟨aF, cF, e3, -⟩, ⟨aN, cN, e4, -⟩, ⟨aT, cT, e5, -⟩⟩ := h
  exact ⟨_, _, _, _, _, _, _, _, _, _, e1, e2, e3, e4, e5⟩

set_option maxRecDepth 100000 in
set_option maxHeartbeats 4000000 in
theorem checked_any (w : World) (B : Nat) (kC kS kF kN kT : Value) (d : LinkD) (hk : RLk (· < B) w kC kS kF kN kT d) (hB : B ≤ w.heap.size) (M : Nat → Prop) (vn : Value) (ns : List Int) (hn : SL 1 RI M w vn ns) :
    Calls Tryz.prog 15 #[.agg #[kC, kS, kF, kN, kT], vn] w fun r w' => Below w.heap.size w w' ∧
      ((chkRes d ns = 0 ∧ okLk d = true ∧ ∃ b vS vF vN vT vL Bm, r = .returned (.pointer (some ⟨b, 0, none⟩)) ∧ Web w'.heap.size w' b d.classes kC vS vF vN vT vL Bm) ∨ (chkRes d ns ≠ 0 ∧ r = .panicked [wrongV (chkRes d ns) 0])) := by
  have HK := mkHid hk
  have HNS := mkHid hn
  obtain ⟨aC, cC, aS, cS, aF, cF, aN, cN, aT, cT, rfl, rfl, rfl, rfl, rfl⟩ := hk.agg
  obtain ⟨an, cn, rfl, -, hll, -⟩ := hn
  unfold maxLen at hll
  have HB0 := mkHid (fun o => (Below.refl w.heap.size w).alloc (Nat.le_refl _) o)
  have hll2 : d.classes.length ≤ 9223372036854775807 := by obtain ⟨a, c, -, -, h, -⟩ := hk.C; unfold maxLen at h; omega
  clear hk
  go_enter Tryz.func15, Tryz.ntmps15
  go_wp2_with fail
  refine (tie_any _ B d.classes _ (HK.out.C.keptC (Kp.below ((HB0.out _).mono hB))) (Nat.le_trans hB (HB0.out _).size)).mono ?_
  rintro r w1 ⟨hb1, ⟨h0, p, rfl, b, vS, vF, vN, vT, vL, Bm, rfl, hle, hweb⟩ | ⟨h0, rfl⟩⟩
  · have hR1 : w1.heap[w.heap.size]? = some (.cells #[.slice aC d.classes.length cC, .slice aS d.supers.length cS, .slice aF d.fields.length cF, .slice aN d.names.length cN, .slice aT d.targets.length cT] 29 (0, 0)) := (hb1.block w.heap.size (by simp)).trans (heap_alloc_new w _)
    have hB1 : Below w.heap.size w w1 := (HB0.out _).trans (hb1.mono (HB0.out _).size)
    have HB1 := mkHid hB1
    have HW := mkHid hweb.web
    have hz1 := lt_of hR1
    have r0 := cell_of hR1 0 (x := .slice aC d.classes.length cC) rfl
    have r1 := cell_of hR1 1 (x := .slice aS d.supers.length cS) rfl
    have r2 := cell_of hR1 2 (x := .slice aF d.fields.length cF) rfl
    have r3 := cell_of hR1 3 (x := .slice aN d.names.length cN) rfl
    have r4 := cell_of hR1 4 (x := .slice aT d.targets.length cT) rfl
    have HR1 := mkHid hR1
    have HMK := mkHid (makes_any w1 w1.heap.size b d.classes _ _ _ _ _ _ Bm hweb.web _ _ _ _ _ d ((HK.out.kept (Kp.below (hB1.mono hB))).mono fun k hk => Nat.lt_of_lt_of_le hk (Nat.le_trans hB hB1.size)))
    have HOK : Hid (okLk d = makesB d.classes d) := by show okLk d = _; simp [okLk, h0]
    clear hb1 hweb h0 hB1 hR1
    generalize makesB d.classes d = mk at *
    cases mk with
    | false =>
      have HR : Hid (chkRes d ns = 4) := by show chkRes d ns = 4; rw [chkRes, HOK.out]; rfl
      go_wp2_with (go_at_call 33; refine HMK.out.mono ?_; rintro r w2 ⟨rfl, hb2⟩)
      refine (demand_any _ _ _).mono ?_
      rintro r w3 ⟨rfl, ⟨hb, rfl⟩ | ⟨hb, rfl⟩⟩
      · exact ⟨rfl, HB1.out.trans (hb2.mono HB1.out.size), Or.inr ⟨by rw [HR.out]; decide, by rw [HR.out]⟩⟩
      · exact absurd hb (by simp)
    | true =>
      go_wp2_with (go_at_call 33; refine HMK.out.mono ?_; rintro r w2 ⟨rfl, hb2⟩)
      refine (demand_any _ _ _).mono ?_
      rintro r w3 ⟨rfl, ⟨hb, rfl⟩ | ⟨hb, rfl⟩⟩
      · exact absurd hb (by simp)
      clear hb
      have HW2 := mkHid (((HW.out.below hb2).web'))
      have HB2 := mkHid (HB1.out.trans (hb2.mono HB1.out.size))
      have k0 := (hb2.cell (p := ⟨w.heap.size, 0, none⟩) hz1).trans r0
      have lz2 : w.heap.size < w3.heap.size := Nat.lt_of_lt_of_le hz1 hb2.size
      have HRS : Hid (chkRes d ns = if ns.all (inB d) = true then 0 else 3) := by show chkRes d ns = _; rw [chkRes, if_pos HOK.out]
      clear r0 r1 r2 r3 r4 hb2 HMK HR1 HW hz1
      go_wp2_with fail
      go_loopw [25] (fun i wr => ∃ k : Nat, k ≤ ns.length ∧ i = .int .i64 k ∧ wr = w3 ∧ Hid (ns.all (inB d) = (ns.drop k).all (inB d))) (fun i _ => ns.length - (intOf i).toNat)
      case atStart => exact ⟨0, Nat.zero_le _, rfl, rfl, rfl⟩
      case round =>
        obtain ⟨k, hk, rfl, rfl, HQ⟩ := hrel
        by_cases hlt : k < ns.length
        · obtain ⟨bn, on, rfl, hbn, en⟩ := (HNS.out.keptI ⟨HB2.out.size, fun q _ hq => HB2.out.block q hq⟩).atI k hlt
          have HST : Hid ((ns.drop k).all (inB d) = (inB d ns[k] && (ns.drop (k + 1)).all (inB d))) := by show _ = _; rw [List.drop_eq_getElem_cons hlt, List.all_cons]
          generalize ns[k] = n at *
          have h00 : (0 : Int) ≤ k := by omega
          have h01 : (k : Int) < ns.length := by omega
          by_cases hn0 : 0 ≤ n
          · by_cases hn1 : n < d.classes.length
            · have HR : Hid (ns.all (inB d) = (ns.drop (k + 1)).all (inB d)) := HQ.out.trans (HST.out.trans (by simp [inB, hn0, hn1]))
              go_wp2_with fail
              refine (demand_any _ _ _).mono ?_
              rintro r w4 ⟨rfl, ⟨hb, rfl⟩ | ⟨hb, rfl⟩⟩
              · exact absurd hb (by simp <;> omega)
              clear hb
              go_wp2_with fail
              go_roundw
              case rel => exact ⟨k + 1, by omega, by go_num, (by first | rfl | trivial), HR.out⟩
              case measure => simp [intOf]; omega
            · have HR : Hid (chkRes d ns = 3) := HRS.out.trans (by rw [HQ.out, HST.out]; simp [inB, hn1])
              go_wp2_with fail
              refine (demand_any _ _ _).mono ?_
              rintro r w4 ⟨rfl, ⟨hb, rfl⟩ | ⟨hb, rfl⟩⟩
              · exact ⟨rfl, HB2.out, Or.inr ⟨by rw [HR.out]; decide, by rw [HR.out]⟩⟩
              · exact absurd hb (by simp <;> omega)
          · have HR : Hid (chkRes d ns = 3) := HRS.out.trans (by rw [HQ.out, HST.out]; simp [inB, hn0])
            go_wp2_with fail
            refine (demand_any _ _ _).mono ?_
            rintro r w4 ⟨rfl, ⟨hb, rfl⟩ | ⟨hb, rfl⟩⟩
            · exact ⟨rfl, HB2.out, Or.inr ⟨by rw [HR.out]; decide, by rw [HR.out]⟩⟩
            · exact absurd hb (by simp <;> omega)
        · have HR : Hid (chkRes d ns = 0) := HRS.out.trans (by rw [HQ.out, List.drop_of_length_le (by omega)]; rfl)
          go_wp2_with fail
          go_ret
          exact ⟨HB2.out, Or.inl ⟨HR.out, HOK.out, _, _, _, _, _, _, _, rfl, HW2.out⟩⟩
  · have hB1 := mkHid ((HB0.out (.cells #[.slice aC d.classes.length cC, .slice aS d.supers.length cS, .slice aF d.fields.length cF, .slice aN d.names.length cN, .slice aT d.targets.length cT] 29)).trans (hb1.mono (HB0.out _).size))
    have HR : Hid (chkRes d ns = 4) := by
      show chkRes d ns = 4
      have : okLk d = false := by simp [okLk, h0]
      rw [chkRes, this]
      rfl
    have hne : (tieRes d.classes == 0) = false := beq_eq_false_iff_ne.2 h0
    clear hb1 h0
    generalize tieRes d.classes = te at *
    go_wp2_with fail
    refine (demand_any _ _ _).mono ?_
    rintro r w3 ⟨rfl, ⟨hb, rfl⟩ | ⟨hb, rfl⟩⟩
    · exact ⟨rfl, hB1.out, Or.inr ⟨by rw [HR.out]; decide, by rw [HR.out]⟩⟩
    · exact absurd hb (by simp)
end Go.Proofs.YtkpklkhkhhlifacGreat
