/- The contract of Link. -/
import Derived.Test.YtkpklkhkhhlifacGreatLTie
import Derived.Test.YtkpklkhkhhlifacGreatLCp
import Derived.Test.YtkpklkhkhhlifacGreatLMk
namespace Go.Proofs.YtkpklkhkhhlifacGreat
open Go.RowKit Go.Maps

def linkD (l : List ClassD) : LinkD := ⟨l, (List.range l.length).map (supAt l), (List.range l.length).map (fieldsOf l), (List.range l.length).map (namesOf l), (List.range l.length).map (targetsOf l)⟩
def noLink : LinkD := ⟨[], [], [], [], []⟩
def nilLk : Value := .agg #[.slice none 0 0, .slice none 0 0, .slice none 0 0, .slice none 0 0, .slice none 0 0]
theorem RLk.mono {M M' : Nat → Prop} {w : World} {kC kS kF kN kT : Value} {d : LinkD} (h : RLk M w kC kS kF kN kT d) (hM : ∀ k, M k → M' k) : RLk M' w kC kS kF kN kT d :=
  ⟨h.C.monoC hM, h.S.monoI hM, h.F.monoSl hM fun _ _ h => h, h.N.monoSl hM fun _ _ h => h, h.T.monoSl hM fun _ _ h => h⟩
theorem tie_chk {l : List ClassD} (h : tieRes l = 0) : checkL l = 0 := by
  unfold tieRes at h
  by_cases hc : checkL l = 0
  · exact hc
  · rw [if_neg hc] at h; exact h
theorem fine_copy {l : List ClassD} (h : checkL l = 0) : l.length ≤ 100000 ∧ ∀ x ∈ l, x.fields.length ≤ 100000 ∧ x.meths.length ≤ 100000 ∧ ∀ m ∈ x.meths, m.args.length ≤ 100000 ∧ m.hands.length ≤ 100000 := by
  obtain ⟨h1, h2⟩ := list_fine h
  refine ⟨by omega, fun x hx => ?_⟩
  obtain ⟨-, -, h3, -, h4, h5⟩ := h2 x hx
  refine ⟨by omega, by omega, fun m hm => ?_⟩
  obtain ⟨-, h6, -, -, -, -, -, h7, -⟩ := h5 m hm
  exact ⟨by omega, by omega⟩
theorem SL.stpC {B : Nat} {T : List Nat} {w w' : World} {v : Value} {l : List ClassD} (h : SL 4 RC (MT B T w) w v l) (hs : Stp B T w w') : SL 4 RC (MT B T w') w' v l := (h.keptC hs.kp).monoC fun _ hk => hk.step hs
theorem set5 (W : World) (R t : Nat) (a0 a1 a2 a3 a4 x0 x1 x2 x3 x4 : Value) (h : W.heap[R]? = some (.cells #[a0, a1, a2, a3, a4] t (0, 0))) :
    (((((W.setCell ⟨R, 0, none⟩ x0).setCell ⟨R, 1, none⟩ x1).setCell ⟨R, 2, none⟩ x2).setCell ⟨R, 3, none⟩ x3).setCell ⟨R, 4, none⟩ x4).heap[R]? = some (.cells #[x0, x1, x2, x3, x4] t (0, 0)) ∧
    W.grownBy (((((W.setCell ⟨R, 0, none⟩ x0).setCell ⟨R, 1, none⟩ x1).setCell ⟨R, 2, none⟩ x2).setCell ⟨R, 3, none⟩ x3).setCell ⟨R, 4, none⟩ x4) (some R) :=
  ⟨by
    have h0 : (W.setCell ⟨R, 0, none⟩ x0).heap[R]? = some (.cells #[x0, a1, a2, a3, a4] t (0, 0)) := (heap_set (j := 0) h x0).trans rfl
    have h1 : ((W.setCell ⟨R, 0, none⟩ x0).setCell ⟨R, 1, none⟩ x1).heap[R]? = some (.cells #[x0, x1, a2, a3, a4] t (0, 0)) := (heap_set (j := 1) h0 x1).trans rfl
    have h2 : (((W.setCell ⟨R, 0, none⟩ x0).setCell ⟨R, 1, none⟩ x1).setCell ⟨R, 2, none⟩ x2).heap[R]? = some (.cells #[x0, x1, x2, a3, a4] t (0, 0)) := (heap_set (j := 2) h1 x2).trans rfl
    have h3 : ((((W.setCell ⟨R, 0, none⟩ x0).setCell ⟨R, 1, none⟩ x1).setCell ⟨R, 2, none⟩ x2).setCell ⟨R, 3, none⟩ x3).heap[R]? = some (.cells #[x0, x1, x2, x3, a4] t (0, 0)) := (heap_set (j := 3) h2 x3).trans rfl
    exact (heap_set (j := 4) h3 x4).trans rfl, by
    have g0 : W.grownBy (W.setCell ⟨R, 0, none⟩ x0) (some R) := grown_set (World.grownBy.refl W (some R)) ⟨R, 0, none⟩ x0 (Or.inl rfl)
    have g1 := grown_set g0 ⟨R, 1, none⟩ x1 (Or.inl rfl)
    have g2 := grown_set g1 ⟨R, 2, none⟩ x2 (Or.inl rfl)
    have g3 := grown_set g2 ⟨R, 3, none⟩ x3 (Or.inl rfl)
    exact grown_set g3 ⟨R, 4, none⟩ x4 (Or.inl rfl)⟩
set_option maxRecDepth 100000 in
set_option maxHeartbeats 4000000 in
theorem Link_any (w : World) (B : Nat) (l : List ClassD) (v : Value) (hv : SL 4 RC (· < B) w v l) (hB : B ≤ w.heap.size) :
    Calls Tryz.prog 5 #[v] w fun r w' => Below w.heap.size w w' ∧
      ((tieRes l = 0 ∧ ∃ kC kS kF kN kT, r = .returned (.tuple #[.agg #[kC, kS, kF, kN, kT], .int .i64 0]) ∧ RLk (fun k => (k < B ∨ w.heap.size ≤ k) ∧ k < w'.heap.size) w' kC kS kF kN kT (linkD l)) ∨ (tieRes l ≠ 0 ∧ r = .returned (.tuple #[nilLk, .int .i64 (tieRes l)]))) := by
  have HV := mkHid hv
  obtain ⟨ao, cl, rfl, -⟩ := hv
  have HB0 := mkHid (fun o => (Below.refl w.heap.size w).alloc (Nat.le_refl _) o)
  go_enter Tryz.func5, Tryz.ntmps5
  go_wp2_with fail
  refine (tie_any _ B l _ (HV.out.keptC (Kp.below ((HB0.out _).mono hB))) (Nat.le_trans hB (HB0.out _).size)).mono ?_
  rintro r w1 ⟨hb1, ⟨h0, p, rfl, b, vS, vF, vN, vT, vL, Bm, rfl, hle, hweb⟩ | ⟨h0, rfl⟩⟩
  · have hR1 : w1.heap[w.heap.size]? = some (.cells #[.slice none 0 0, .slice none 0 0, .slice none 0 0, .slice none 0 0, .slice none 0 0] 29 (0, 0)) := (hb1.block w.heap.size (by simp)).trans (heap_alloc_new w _)
    have hle' : w.heap.size + 1 ≤ b := by simpa using hle
    have hB1 : Below w.heap.size w w1 := (HB0.out _).trans (hb1.mono (HB0.out _).size)
    have HB1 := mkHid hB1
    have HW := mkHid hweb
    have HT := mkHid h0
    have HR1 := mkHid hR1
    have HCP := mkHid (copyClasses_any w1 B _ l (HV.out.keptC (Kp.below (hB1.mono hB))) (Nat.le_trans hB hB1.size) (fine_copy (tie_chk h0)).1 (fine_copy (tie_chk h0)).2)
    have hz1 : w.heap.size < w1.heap.size := lt_of hR1
    clear hb1 hweb h0 hB1 hR1
    go_wp2_with fail
    refine HCP.out.mono ?_
    rintro r w2 ⟨hb2, vC, rfl, sC⟩
    have HSC := mkHid sC
    obtain ⟨aC, cC, rfl, -⟩ := sC
    have hblk := HW.out.blk
    have hb1l := lt_of hblk
    have hblk2 := (hb2.block b hb1l).trans hblk
    have hbne : b ≠ w.heap.size := by omega
    have hbl := lt_of hblk2
    have hB3 : Below w.heap.size w (w2.setCell ⟨b, 0, none⟩ (.slice aC l.length cC)) := (HB1.out.trans (hb2.mono HB1.out.size)).setCell (by simp; omega) _
    have hblk3 := heap_set (j := 0) hblk2 (.slice aC l.length cC)
    have c0 := cell_of hblk2 0 (x := .slice ao l.length cl) rfl
    have z0 := frz_of hblk2 0
    have hR3 : (w2.setCell ⟨b, 0, none⟩ (.slice aC l.length cC)).heap[w.heap.size]? = some (.cells #[.slice none 0 0, .slice none 0 0, .slice none 0 0, .slice none 0 0, .slice none 0 0] 29 (0, 0)) := (Below.heap_setCell _ _ _ _ (by simp; omega)).trans ((hb2.block w.heap.size hz1).trans HR1.out)
    have HRL : Hid (RLk (fun k => ((k < B ∨ w.heap.size + 1 ≤ k) ∧ k < w2.heap.size)) (w2.setCell ⟨b, 0, none⟩ (.slice aC l.length cC)) (.slice aC l.length cC) vS vF vN vT (linkD l)) := by
      have hkp : Kp (fun k => ((k < B ∨ (w.alloc (.cells #[.slice none 0 0, .slice none 0 0, .slice none 0 0, .slice none 0 0, .slice none 0 0] 29)).heap.size ≤ k) ∧ k < w1.heap.size) ∧ k ≠ b) w1 (w2.setCell ⟨b, 0, none⟩ (.slice aC l.length cC)) := ⟨Nat.le_trans hb2.size (by simp [World.setCell]), fun k hk hl => (Below.heap_setCell _ _ _ _ (by simpa using hk.2)).trans (hb2.block k hl)⟩
      have hmm : ∀ k, (((k < B ∨ (w.alloc (.cells #[.slice none 0 0, .slice none 0 0, .slice none 0 0, .slice none 0 0, .slice none 0 0] 29)).heap.size ≤ k) ∧ k < w1.heap.size) ∧ k ≠ b) → ((k < B ∨ w.heap.size + 1 ≤ k) ∧ k < w2.heap.size) := fun k hk => ⟨hk.1.1.imp id (fun h => by simpa using h), Nat.lt_of_lt_of_le hk.1.2 hb2.size⟩
      exact ⟨(HSC.out.stpC (Stp.set hblk2 (by decide) 0 (.slice aC l.length cC))).monoC (fun k hk => ⟨Or.inr (by have := hk.1; omega), by have := hk.lt; simpa [World.setCell] using this⟩), (HW.out.sS.keptI hkp).monoI hmm, (HW.out.sF.keptSl hkp fun _ _ h => h).monoSl hmm fun _ _ h => h, (HW.out.sN.keptSl hkp fun _ _ h => h).monoSl hmm fun _ _ h => h, (HW.out.sT.keptSl hkp fun _ _ h => h).monoSl hmm fun _ _ h => h⟩
    have hlS : ((List.range l.length).map (supAt l)).length = l.length := by simp
    have hlF : ((List.range l.length).map (fieldsOf l)).length = l.length := by simp
    have hlN : ((List.range l.length).map (namesOf l)).length = l.length := by simp
    have hlT : ((List.range l.length).map (targetsOf l)).length = l.length := by simp
    obtain ⟨aS, cS, e1, -⟩ := HW.out.sS
    obtain ⟨aF, cF, e2, -⟩ := HW.out.sF
    obtain ⟨aN, cN, e3, -⟩ := HW.out.sN
    obtain ⟨aT, cT, e4, -⟩ := HW.out.sT
    rw [hlS] at e1
    rw [hlF] at e2
    rw [hlN] at e3
    rw [hlT] at e4
    subst e1 e2 e3 e4
    have d0 := cell_of hblk3 0 (x := .slice aC l.length cC) rfl
    have d1 := cell_of hblk3 1 (x := .slice aS l.length cS) rfl
    have d2 := cell_of hblk3 2 (x := .slice aF l.length cF) rfl
    have d3 := cell_of hblk3 3 (x := .slice aN l.length cN) rfl
    have d4 := cell_of hblk3 4 (x := .slice aT l.length cT) rfl
    have r0 := cell_of hR3 0 (x := .slice none 0 0) rfl
    have r1 := cell_of hR3 1 (x := .slice none 0 0) rfl
    have r2 := cell_of hR3 2 (x := .slice none 0 0) rfl
    have r3 := cell_of hR3 3 (x := .slice none 0 0) rfl
    have r4 := cell_of hR3 4 (x := .slice none 0 0) rfl
    have f0 : ∀ j, (w2.setCell ⟨b, 0, none⟩ (.slice aC l.length cC)).frozen? ⟨w.heap.size, j, none⟩ = false := fun j => frz_of hR3 j
    have lR := lt_of hR3
    have lb3 := lt_of hblk3
    have HB3 := mkHid hB3
    obtain ⟨hR5, hG5⟩ := set5 _ w.heap.size _ _ _ _ _ _ (.slice aC l.length cC) (.slice aS l.length cS) (.slice aF l.length cF) (.slice aN l.length cN) (.slice aT l.length cT) hR3
    have HR5 := mkHid hR5
    have HG5 := mkHid hG5
    clear hR5 hG5
    clear HW HSC HCP hlS hlF hlN hlT hblk hb2 hB3 hb1l
    go_wp2_with fail
    generalize ((((((w2.setCell ⟨b, 0, none⟩ (.slice aC l.length cC)).setCell ⟨w.heap.size, 0, none⟩ (.slice aC l.length cC)).setCell ⟨w.heap.size, 1, none⟩ (.slice aS l.length cS)).setCell ⟨w.heap.size, 2, none⟩ (.slice aF l.length cF)).setCell ⟨w.heap.size, 3, none⟩ (.slice aN l.length cN)).setCell ⟨w.heap.size, 4, none⟩ (.slice aT l.length cT)) = W9 at *
    have s0 := cell_of HR5.out 0 (x := .slice aC l.length cC) rfl
    have s1 := cell_of HR5.out 1 (x := .slice aS l.length cS) rfl
    have s2 := cell_of HR5.out 2 (x := .slice aF l.length cF) rfl
    have s3 := cell_of HR5.out 3 (x := .slice aN l.length cN) rfl
    have s4 := cell_of HR5.out 4 (x := .slice aT l.length cT) rfl
    refine bodyPost_ret (v := .tuple #[.agg #[.slice aC l.length cC, .slice aS l.length cS, .slice aF l.length cF, .slice aN l.length cN, .slice aT l.length cT], .int .i64 0]) (by simp [results, Tryz.results5, go_sem, s0, s1, s2, s3, s4]) rfl ⟨below_of_grown HB3.out HG5.out (Nat.le_refl _), Or.inl ⟨HT.out, _, _, _, _, _, rfl, ?_⟩⟩
    refine ((HRL.out.kept (w' := W9) ⟨HG5.out.size, fun k hk hl => HG5.out.block k hl (by intro e; injection e with e; rcases hk.1 with h | h <;> omega)⟩).mono fun k hk => ⟨hk.1.imp id (fun h => by omega), ?_⟩)
    have := HG5.out.size
    have h2 := hk.2
    simp [World.setCell] at this
    omega
  · have HB1 := mkHid ((HB0.out _).trans (hb1.mono (HB0.out _).size))
    have hne : (tieRes l == 0) = false := beq_eq_false_iff_ne.2 h0
    have hR1 : w1.heap[w.heap.size]? = some (.cells #[.slice none 0 0, .slice none 0 0, .slice none 0 0, .slice none 0 0, .slice none 0 0] 29 (0, 0)) := (hb1.block w.heap.size (by simp)).trans (heap_alloc_new w _)
    have lR := lt_of hR1
    have r0 := cell_of hR1 0 (x := .slice none 0 0) rfl
    have r1 := cell_of hR1 1 (x := .slice none 0 0) rfl
    have r2 := cell_of hR1 2 (x := .slice none 0 0) rfl
    have r3 := cell_of hR1 3 (x := .slice none 0 0) rfl
    have r4 := cell_of hR1 4 (x := .slice none 0 0) rfl
    have f0 : ∀ j, w1.frozen? ⟨w.heap.size, j, none⟩ = false := fun j => frz_of hR1 j
    have HN := mkHid h0
    obtain ⟨hR5, hG5⟩ := set5 _ w.heap.size _ _ _ _ _ _ (.slice none 0 0) (.slice none 0 0) (.slice none 0 0) (.slice none 0 0) (.slice none 0 0) hR1
    have HR5 := mkHid hR5
    have HG5 := mkHid hG5
    clear hb1 h0 hR1 hR5 hG5
    generalize hte : tieRes l = te at *
    have HTE := mkHid hte
    clear hte
    go_wp2_with fail
    generalize (((((w1.setCell ⟨w.heap.size, 0, none⟩ (.slice none 0 0)).setCell ⟨w.heap.size, 1, none⟩ (.slice none 0 0)).setCell ⟨w.heap.size, 2, none⟩ (.slice none 0 0)).setCell ⟨w.heap.size, 3, none⟩ (.slice none 0 0)).setCell ⟨w.heap.size, 4, none⟩ (.slice none 0 0)) = W9 at *
    have s0 := cell_of HR5.out 0 (x := .slice none 0 0) rfl
    have s1 := cell_of HR5.out 1 (x := .slice none 0 0) rfl
    have s2 := cell_of HR5.out 2 (x := .slice none 0 0) rfl
    have s3 := cell_of HR5.out 3 (x := .slice none 0 0) rfl
    have s4 := cell_of HR5.out 4 (x := .slice none 0 0) rfl
    exact bodyPost_ret (v := .tuple #[nilLk, .int .i64 te]) (by simp [results, Tryz.results5, go_sem, s0, s1, s2, s3, s4, nilLk]) rfl ⟨below_of_grown HB1.out HG5.out (Nat.le_refl _), Or.inr ⟨by rw [HTE.out]; exact HN.out, by rw [HTE.out]⟩⟩
end Go.Proofs.YtkpklkhkhhlifacGreat
