/- The contract of Link. -/
import Derived.Test.YtkpklkhkhhlifabGreatLTie
import Derived.Test.YtkpklkhkhhlifabGreatJLClLCp
import Derived.Test.YtkpklkhkhhlifabGreatLMk
import Derived.Deep.RegionHeld3
import Derived.KernelRfl
namespace Go.Proofs.YtkpklkhkhhlifabGreat
open Go.RowKit Go.Maps

def linkD (l : List ClassD) : LinkD := ⟨l, (List.range l.length).map (supAt l), (List.range l.length).map (fieldsOf l), (List.range l.length).map (namesOf l), (List.range l.length).map (targetsOf l)⟩
def noLink : LinkD := ⟨[], [], [], [], []⟩
def nilLk : Value := .agg #[.slice none 0 0, .slice none 0 0, .slice none 0 0, .slice none 0 0, .slice none 0 0]
theorem RLk.mono {M M' : Nat → Prop} {w : World} {kC kS kF kN kT : Value} {d : LinkD} (h : RLk M w kC kS kF kN kT d) (hM : ∀ k, M k → M' k) : RLk M' w kC kS kF kN kT d :=
  ⟨h.C.monoC hM, h.S.monoI hM, h.F.monoSl hM fun _ _ h => h, h.N.monoSl hM fun _ _ h => h, h.T.monoSl hM fun _ _ h => h⟩
theorem tie_chk {l : List ClassD} (h : tieRes l = 0) : checkL l = 0 := by
  unfold tieRes at h
  by_cases hc : checkL l = 0
  · exact hc
  · rw [if_neg hc] at h; exact h
theorem fine_copy {l : List ClassD} (h : checkL l = 0) : l.length ≤ 100000 ∧ ∀ x ∈ l, x.fields.length ≤ 100000 ∧ x.meths.length ≤ 100000 ∧ ∀ m ∈ x.meths, m.args.length ≤ 100000 ∧ m.hands.length ≤ 100000 := by
  obtain ⟨h1, h2⟩ := list_fine h
  refine ⟨by omega, fun x hx => ?_⟩
  obtain ⟨-, -, h3, -, h4, h5⟩ := h2 x hx
  refine ⟨by omega, by omega, fun m hm => ?_⟩
  obtain ⟨-, h6, -, -, -, -, -, h7, -⟩ := h5 m hm
  exact ⟨by omega, by omega⟩
theorem SL.stpC {B : Nat} {T : List Nat} {w w' : World} {v : Value} {l : List ClassD} (h : SL 4 RC (MT B T w) w v l) (hs : Stp B T w w') : SL 4 RC (MT B T w') w' v l := (h.keptC hs.kp).monoC fun _ hk => hk.step hs
theorem set5 (W : World) (R t : Nat) (a0 a1 a2 a3 a4 x0 x1 x2 x3 x4 : Value) (h : W.heap[R]? = some (.cells #[a0, a1, a2, a3, a4] t (0, 0))) :
    (((((W.setCell ⟨R, 0, none⟩ x0).setCell ⟨R, 1, none⟩ x1).setCell ⟨R, 2, none⟩ x2).setCell ⟨R, 3, none⟩ x3).setCell ⟨R, 4, none⟩ x4).heap[R]? = some (.cells #[x0, x1, x2, x3, x4] t (0, 0)) ∧
    W.grownBy (((((W.setCell ⟨R, 0, none⟩ x0).setCell ⟨R, 1, none⟩ x1).setCell ⟨R, 2, none⟩ x2).setCell ⟨R, 3, none⟩ x3).setCell ⟨R, 4, none⟩ x4) (some R) :=
  ⟨by
    have h0 : (W.setCell ⟨R, 0, none⟩ x0).heap[R]? = some (.cells #[x0, a1, a2, a3, a4] t (0, 0)) := (heap_set (j := 0) h x0).trans rfl
    have h1 : ((W.setCell ⟨R, 0, none⟩ x0).setCell ⟨R, 1, none⟩ x1).heap[R]? = some (.cells #[x0, x1, a2, a3, a4] t (0, 0)) := (heap_set (j := 1) h0 x1).trans rfl
    have h2 : (((W.setCell ⟨R, 0, none⟩ x0).setCell ⟨R, 1, none⟩ x1).setCell ⟨R, 2, none⟩ x2).heap[R]? = some (.cells #[x0, x1, x2, a3, a4] t (0, 0)) := (heap_set (j := 2) h1 x2).trans rfl
    have h3 : ((((W.setCell ⟨R, 0, none⟩ x0).setCell ⟨R, 1, none⟩ x1).setCell ⟨R, 2, none⟩ x2).setCell ⟨R, 3, none⟩ x3).heap[R]? = some (.cells #[x0, x1, x2, x3, a4] t (0, 0)) := (heap_set (j := 3) h2 x3).trans rfl
    exact (heap_set (j := 4) h3 x4).trans rfl, by
    have g0 : W.grownBy (W.setCell ⟨R, 0, none⟩ x0) (some R) := grown_set (World.grownBy.refl W (some R)) ⟨R, 0, none⟩ x0 (Or.inl rfl)
    have g1 := grown_set g0 ⟨R, 1, none⟩ x1 (Or.inl rfl)
    have g2 := grown_set g1 ⟨R, 2, none⟩ x2 (Or.inl rfl)
    have g3 := grown_set g2 ⟨R, 3, none⟩ x3 (Or.inl rfl)
    exact grown_set g3 ⟨R, 4, none⟩ x4 (Or.inl rfl)⟩
set_option maxRecDepth 100000 in
set_option maxHeartbeats 4000000 in
theorem Link_any (w : World) (B : Nat) (l : List ClassD) (v : Value) (hv : SL 4 RC (· < B) w v l) (hB : B ≤ w.heap.size) :
    Calls Tryz.prog 8 #[v] w fun r w' => Below w.heap.size w w' ∧
      ((tieRes l = 0 ∧ ∃ kC kS kF kN kT, r = .returned (.tuple #[.agg #[kC, kS, kF, kN, kT], .int .i64 0]) ∧ RLk (fun k => (k < B ∨ w.heap.size ≤ k) ∧ k < w'.heap.size) w' kC kS kF kN kT (linkD l)) ∨ (tieRes l ≠ 0 ∧ r = .returned (.tuple #[nilLk, .int .i64 (tieRes l)]))) := by
  have HV := mkHid hv
  obtain ⟨ao, cl, rfl, -⟩ := hv
  have HB0 := mkHid (fun o => (Below.refl w.heap.size w).alloc (Nat.le_refl _) o)
  go_enter Tryz.func8, Tryz.ntmps8
  go_wp2_with fail
  refine (tie_any _ B l _ (HV.out.keptC (Kp.below ((HB0.out _).mono hB))) (Nat.le_trans hB (HB0.out _).size)).mono ?_
  rintro r w1 ⟨hb1, ⟨h0, p, rfl, b, vS, vF, vN, vT, vL, Bm, rfl, hle, hweb⟩ | ⟨h0, rfl⟩⟩
  · have hR1 : w1.heap[w.heap.size]? = some (.cells #[.slice none 0 0, .slice none 0 0, .slice none 0 0, .slice none 0 0, .slice none 0 0] 28 (0, 0)) := (hb1.block w.heap.size (by simp)).trans (heap_alloc_new w _)
    have hle' : w.heap.size + 1 ≤ b := by simpa using hle
    have hB1 : Below w.heap.size w w1 := (HB0.out _).trans (hb1.mono (HB0.out _).size)
    have HB1 := mkHid hB1
    have HW := mkHid hweb
    have HT := mkHid h0
    have HR1 := mkHid hR1
    have HCP := mkHid (copyClasses_any w1 B _ l (HV.out.keptC (Kp.below (hB1.mono hB))) (Nat.le_trans hB hB1.size) (fine_copy (tie_chk h0)).1 (fine_copy (tie_chk h0)).2)
    have hz1 : w.heap.size < w1.heap.size := lt_of hR1
    clear hb1 hweb h0 hB1 hR1
    go_wp2_with fail
    refine HCP.out.mono ?_
    rintro r w2 ⟨hb2, vC, rfl, sC⟩
    have HSC := mkHid sC
    obtain ⟨aC, cC, rfl, -⟩ := sC
    have hblk := HW.out.blk
    have hb1l := lt_of hblk
    have hblk2 := (hb2.block b hb1l).trans hblk
    have hbne : b ≠ w.heap.size := by omega
    have hbl := lt_of hblk2
    have hB3 : Below w.heap.size w (w2.setCell ⟨b, 0, none⟩ (.slice aC l.length cC)) := (HB1.out.trans (hb2.mono HB1.out.size)).setCell (by simp; omega) _
    have hblk3 := heap_set (j := 0) hblk2 (.slice aC l.length cC)
    have c0 := cell_of hblk2 0 (x := .slice ao l.length cl) rfl
    have z0 := frz_of hblk2 0
    have hR3 : (w2.setCell ⟨b, 0, none⟩ (.slice aC l.length cC)).heap[w.heap.size]? = some (.cells #[.slice none 0 0, .slice none 0 0, .slice none 0 0, .slice none 0 0, .slice none 0 0] 28 (0, 0)) := (Below.heap_setCell _ _ _ _ (by simp; omega)).trans ((hb2.block w.heap.size hz1).trans HR1.out)
    have HRL : Hid (RLk (fun k => ((k < B ∨ w.heap.size + 1 ≤ k) ∧ k < w2.heap.size)) (w2.setCell ⟨b, 0, none⟩ (.slice aC l.length cC)) (.slice aC l.length cC) vS vF vN vT (linkD l)) := by
      have hkp : Kp (fun k => ((k < B ∨ (w.alloc (.cells #[.slice none 0 0, .slice none 0 0, .slice none 0 0, .slice none 0 0, .slice none 0 0] 28)).heap.size ≤ k) ∧ k < w1.heap.size) ∧ k ≠ b) w1 (w2.setCell ⟨b, 0, none⟩ (.slice aC l.length cC)) := ⟨Nat.le_trans hb2.size (by simp [World.setCell]), fun k hk hl => (Below.heap_setCell _ _ _ _ (by simpa using hk.2)).trans (hb2.block k hl)⟩
      have hmm : ∀ k, (((k < B ∨ (w.alloc (.cells #[.slice none 0 0, .slice none 0 0, .slice none 0 0, .slice none 0 0, .slice none 0 0] 28)).heap.size ≤ k) ∧ k < w1.heap.size) ∧ k ≠ b) → ((k < B ∨ w.heap.size + 1 ≤ k) ∧ k < w2.heap.size) := fun k hk => ⟨hk.1.1.imp id (fun h => by simpa using h), Nat.lt_of_lt_of_le hk.1.2 hb2.size⟩
      exact ⟨(HSC.out.stpC (Stp.set hblk2 (by decide) 0 (.slice aC l.length cC))).monoC (fun k hk => ⟨Or.inr (by have := hk.1; omega), by have := hk.lt; simpa [World.setCell] using this⟩), (HW.out.sS.keptI hkp).monoI hmm, (HW.out.sF.keptSl hkp fun _ _ h => h).monoSl hmm fun _ _ h => h, (HW.out.sN.keptSl hkp fun _ _ h => h).monoSl hmm fun _ _ h => h, (HW.out.sT.keptSl hkp fun _ _ h => h).monoSl hmm fun _ _ h => h⟩
    have hlS : ((List.range l.length).map (supAt l)).length = l.length := by simp
    have hlF : ((List.range l.length).map (fieldsOf l)).length = l.length := by simp
    have hlN : ((List.range l.length).map (namesOf l)).length = l.length := by simp
    have hlT : ((List.range l.length).map (targetsOf l)).length = l.length := by simp
    obtain ⟨aS, cS, e1, -⟩ := HW.out.sS
    obtain ⟨aF, cF, e2, -⟩ := HW.out.sF
    obtain ⟨aN, cN, e3, -⟩ := HW.out.sN
    obtain ⟨aT, cT, e4, -⟩ := HW.out.sT
    rw [hlS] at e1
    rw [hlF] at e2
    rw [hlN] at e3
    rw [hlT] at e4
    subst e1 e2 e3 e4
    have d0 := cell_of hblk3 0 (x := .slice aC l.length cC) rfl
    have d1 := cell_of hblk3 1 (x := .slice aS l.length cS) rfl
    have d2 := cell_of hblk3 2 (x := .slice aF l.length cF) rfl
    have d3 := cell_of hblk3 3 (x := .slice aN l.length cN) rfl
    have d4 := cell_of hblk3 4 (x := .slice aT l.length cT) rfl
    have r0 := cell_of hR3 0 (x := .slice none 0 0) rfl
    have r1 := cell_of hR3 1 (x := .slice none 0 0) rfl
    have r2 := cell_of hR3 2 (x := .slice none 0 0) rfl
    have r3 := cell_of hR3 3 (x := .slice none 0 0) rfl
    have r4 := cell_of hR3 4 (x := .slice none 0 0) rfl
    have f0 : ∀ j, (w2.setCell ⟨b, 0, none⟩ (.slice aC l.length cC)).frozen? ⟨w.heap.size, j, none⟩ = false := fun j => frz_of hR3 j
    have lR := lt_of hR3
    have lb3 := lt_of hblk3
    have HB3 := mkHid hB3
    obtain ⟨hR5, hG5⟩ := set5 _ w.heap.size _ _ _ _ _ _ (.slice aC l.length cC) (.slice aS l.length cS) (.slice aF l.length cF) (.slice aN l.length cN) (.slice aT l.length cT) hR3
    have HR5 := mkHid hR5
    have HG5 := mkHid hG5
    clear hR5 hG5
    clear HW HSC HCP hlS hlF hlN hlT hblk hb2 hB3 hb1l
    go_wp2_with fail
    generalize ((((((w2.setCell ⟨b, 0, none⟩ (.slice aC l.length cC)).setCell ⟨w.heap.size, 0, none⟩ (.slice aC l.length cC)).setCell ⟨w.heap.size, 1, none⟩ (.slice aS l.length cS)).setCell ⟨w.heap.size, 2, none⟩ (.slice aF l.length cF)).setCell ⟨w.heap.size, 3, none⟩ (.slice aN l.length cN)).setCell ⟨w.heap.size, 4, none⟩ (.slice aT l.length cT)) = W9 at *
    have s0 := cell_of HR5.out 0 (x := .slice aC l.length cC) rfl
    have s1 := cell_of HR5.out 1 (x := .slice aS l.length cS) rfl
    have s2 := cell_of HR5.out 2 (x := .slice aF l.length cF) rfl
    have s3 := cell_of HR5.out 3 (x := .slice aN l.length cN) rfl
    have s4 := cell_of HR5.out 4 (x := .slice aT l.length cT) rfl
    refine bodyPost_ret (v := .tuple #[.agg #[.slice aC l.length cC, .slice aS l.length cS, .slice aF l.length cF, .slice aN l.length cN, .slice aT l.length cT], .int .i64 0]) (by simp [results, Tryz.results8, go_sem, s0, s1, s2, s3, s4]) rfl ⟨below_of_grown HB3.out HG5.out (Nat.le_refl _), Or.inl ⟨HT.out, _, _, _, _, _, rfl, ?_⟩⟩
    refine ((HRL.out.kept (w' := W9) ⟨HG5.out.size, fun k hk hl => HG5.out.block k hl (by intro e; injection e with e; rcases hk.1 with h | h <;> omega)⟩).mono fun k hk => ⟨hk.1.imp id (fun h => by omega), ?_⟩)
    have := HG5.out.size
    have h2 := hk.2
    simp [World.setCell] at this
    omega
  · have HB1 := mkHid ((HB0.out _).trans (hb1.mono (HB0.out _).size))
    have hne : (tieRes l == 0) = false := beq_eq_false_iff_ne.2 h0
    have hR1 : w1.heap[w.heap.size]? = some (.cells #[.slice none 0 0, .slice none 0 0, .slice none 0 0, .slice none 0 0, .slice none 0 0] 28 (0, 0)) := (hb1.block w.heap.size (by simp)).trans (heap_alloc_new w _)
    have lR := lt_of hR1
    have r0 := cell_of hR1 0 (x := .slice none 0 0) rfl
    have r1 := cell_of hR1 1 (x := .slice none 0 0) rfl
    have r2 := cell_of hR1 2 (x := .slice none 0 0) rfl
    have r3 := cell_of hR1 3 (x := .slice none 0 0) rfl
    have r4 := cell_of hR1 4 (x := .slice none 0 0) rfl
    have f0 : ∀ j, w1.frozen? ⟨w.heap.size, j, none⟩ = false := fun j => frz_of hR1 j
    have HN := mkHid h0
    obtain ⟨hR5, hG5⟩ := set5 _ w.heap.size _ _ _ _ _ _ (.slice none 0 0) (.slice none 0 0) (.slice none 0 0) (.slice none 0 0) (.slice none 0 0) hR1
    have HR5 := mkHid hR5
    have HG5 := mkHid hG5
    clear hb1 h0 hR1 hR5 hG5
    generalize hte : tieRes l = te at *
    have HTE := mkHid hte
    clear hte
    go_wp2_with fail
    generalize (((((w1.setCell ⟨w.heap.size, 0, none⟩ (.slice none 0 0)).setCell ⟨w.heap.size, 1, none⟩ (.slice none 0 0)).setCell ⟨w.heap.size, 2, none⟩ (.slice none 0 0)).setCell ⟨w.heap.size, 3, none⟩ (.slice none 0 0)).setCell ⟨w.heap.size, 4, none⟩ (.slice none 0 0)) = W9 at *
    have s0 := cell_of HR5.out 0 (x := .slice none 0 0) rfl
    have s1 := cell_of HR5.out 1 (x := .slice none 0 0) rfl
    have s2 := cell_of HR5.out 2 (x := .slice none 0 0) rfl
    have s3 := cell_of HR5.out 3 (x := .slice none 0 0) rfl
    have s4 := cell_of HR5.out 4 (x := .slice none 0 0) rfl
    exact bodyPost_ret (v := .tuple #[nilLk, .int .i64 te]) (by simp [results, Tryz.results8, go_sem, s0, s1, s2, s3, s4, nilLk]) rfl ⟨below_of_grown HB1.out HG5.out (Nat.le_refl _), Or.inr ⟨by rw [HTE.out]; exact HN.out, by rw [HTE.out]⟩⟩
end Go.Proofs.YtkpklkhkhhlifabGreat

/- The contract of checked. -/
namespace Go.Proofs.YtkpklkhkhhlifabGreat
open Go.RowKit Go.Maps

def okLk (d : LinkD) : Bool := decide (tieRes d.classes = 0) && makesB d.classes d
def inB (d : LinkD) (n : Int) : Bool := decide (0 ≤ n) && decide (n < d.classes.length)
def chkRes (d : LinkD) (ns : List Int) : Int := if okLk d = true then (if ns.all (inB d) = true then 0 else 3) else 4
theorem Web.web' {B : Nat} {w : World} {b : Nat} {l : List ClassD} {vC vS vF vN vT vL : Value} {Bm : Nat} (h : Web B w b l vC vS vF vN vT vL Bm) : Web w.heap.size w b l vC vS vF vN vT vL Bm :=
  have hl : ∀ k, k < B → k < w.heap.size := fun _ hk => Nat.lt_of_lt_of_le hk h.le
  ⟨hl _ h.bB, hl _ h.mB, Nat.le_refl _, h.blk, h.sC.monoC hl, h.sS.monoI hl, h.sF.monoSl hl fun _ _ h => h, h.sN.monoSl hl fun _ _ h => h, h.sT.monoSl hl fun _ _ h => h, h.sL.monoSl hl fun _ _ h => h, h.nm⟩
theorem RLk.agg {M : Nat → Prop} {w : World} {kC kS kF kN kT : Value} {d : LinkD} (h : RLk M w kC kS kF kN kT d) : ∃ aC cC aS cS aF cF aN cN aT cT, kC = .slice aC d.classes.length cC ∧ kS = .slice aS d.supers.length cS ∧ kF = .slice aF d.fields.length cF ∧ kN = .slice aN d.names.length cN ∧ kT = .slice aT d.targets.length cT := by
  obtain ⟨⟨aC, cC, e1, -⟩, ⟨aS, cS, e2, -⟩, ⟨aF, cF, e3, -⟩, ⟨aN, cN, e4, -⟩, ⟨aT, cT, e5, -⟩⟩ := h
  exact ⟨_, _, _, _, _, _, _, _, _, _, e1, e2, e3, e4, e5⟩

set_option maxRecDepth 100000 in
set_option maxHeartbeats 4000000 in
theorem checked_any (w : World) (B : Nat) (kC kS kF kN kT : Value) (d : LinkD) (hk : RLk (· < B) w kC kS kF kN kT d) (hB : B ≤ w.heap.size) (M : Nat → Prop) (vn : Value) (ns : List Int) (hn : SL 1 RI M w vn ns) :
    Calls Tryz.prog 33 #[.agg #[kC, kS, kF, kN, kT], vn] w fun r w' => Below w.heap.size w w' ∧
      ((chkRes d ns = 0 ∧ okLk d = true ∧ ∃ b vS vF vN vT vL Bm, r = .returned (.pointer (some ⟨b, 0, none⟩)) ∧ Web w'.heap.size w' b d.classes kC vS vF vN vT vL Bm) ∨ (chkRes d ns ≠ 0 ∧ r = .panicked [wrongV (chkRes d ns) 0])) := by
  have HK := mkHid hk
  have HNS := mkHid hn
  obtain ⟨aC, cC, aS, cS, aF, cF, aN, cN, aT, cT, rfl, rfl, rfl, rfl, rfl⟩ := hk.agg
  obtain ⟨an, cn, rfl, -, hll, -⟩ := hn
  unfold maxLen at hll
  have HB0 := mkHid (fun o => (Below.refl w.heap.size w).alloc (Nat.le_refl _) o)
  have hll2 : d.classes.length ≤ 9223372036854775807 := by obtain ⟨a, c, -, -, h, -⟩ := hk.C; unfold maxLen at h; omega
  clear hk
  go_enter Tryz.func33, Tryz.ntmps33
  go_wp2_with fail
  refine (tie_any _ B d.classes _ (HK.out.C.keptC (Kp.below ((HB0.out _).mono hB))) (Nat.le_trans hB (HB0.out _).size)).mono ?_
  rintro r w1 ⟨hb1, ⟨h0, p, rfl, b, vS, vF, vN, vT, vL, Bm, rfl, hle, hweb⟩ | ⟨h0, rfl⟩⟩
  · have hR1 : w1.heap[w.heap.size]? = some (.cells #[.slice aC d.classes.length cC, .slice aS d.supers.length cS, .slice aF d.fields.length cF, .slice aN d.names.length cN, .slice aT d.targets.length cT] 28 (0, 0)) := (hb1.block w.heap.size (by simp)).trans (heap_alloc_new w _)
    have hB1 : Below w.heap.size w w1 := (HB0.out _).trans (hb1.mono (HB0.out _).size)
    have HB1 := mkHid hB1
    have HW := mkHid hweb.web
    have hz1 := lt_of hR1
    have r0 := cell_of hR1 0 (x := .slice aC d.classes.length cC) rfl
    have r1 := cell_of hR1 1 (x := .slice aS d.supers.length cS) rfl
    have r2 := cell_of hR1 2 (x := .slice aF d.fields.length cF) rfl
    have r3 := cell_of hR1 3 (x := .slice aN d.names.length cN) rfl
    have r4 := cell_of hR1 4 (x := .slice aT d.targets.length cT) rfl
    have HR1 := mkHid hR1
    have HMK := mkHid (makes_any w1 w1.heap.size b d.classes _ _ _ _ _ _ Bm hweb.web _ _ _ _ _ d ((HK.out.kept (Kp.below (hB1.mono hB))).mono fun k hk => Nat.lt_of_lt_of_le hk (Nat.le_trans hB hB1.size)))
    have HOK : Hid (okLk d = makesB d.classes d) := by show okLk d = _; simp [okLk, h0]
    clear hb1 hweb h0 hB1 hR1
    generalize makesB d.classes d = mk at *
    cases mk with
    | false =>
      have HR : Hid (chkRes d ns = 4) := by show chkRes d ns = 4; rw [chkRes, HOK.out]; rfl
      go_wp2_with (go_at_call 59; refine HMK.out.mono ?_; rintro r w2 ⟨rfl, hb2⟩)
      refine (demand_any _ _ _).mono ?_
      rintro r w3 ⟨rfl, ⟨hb, rfl⟩ | ⟨hb, rfl⟩⟩
      · exact ⟨rfl, HB1.out.trans (hb2.mono HB1.out.size), Or.inr ⟨by rw [HR.out]; decide, by rw [HR.out]⟩⟩
      · exact absurd hb (by simp)
    | true =>
      go_wp2_with (go_at_call 59; refine HMK.out.mono ?_; rintro r w2 ⟨rfl, hb2⟩)
      refine (demand_any _ _ _).mono ?_
      rintro r w3 ⟨rfl, ⟨hb, rfl⟩ | ⟨hb, rfl⟩⟩
      · exact absurd hb (by simp)
      clear hb
      have HW2 := mkHid (((HW.out.below hb2).web'))
      have HB2 := mkHid (HB1.out.trans (hb2.mono HB1.out.size))
      have k0 := (hb2.cell (p := ⟨w.heap.size, 0, none⟩) hz1).trans r0
      have lz2 : w.heap.size < w3.heap.size := Nat.lt_of_lt_of_le hz1 hb2.size
      have HRS : Hid (chkRes d ns = if ns.all (inB d) = true then 0 else 3) := by show chkRes d ns = _; rw [chkRes, if_pos HOK.out]
      clear r0 r1 r2 r3 r4 hb2 HMK HR1 HW hz1
      go_wp2_with fail
      go_loopw [25] (fun i wr => ∃ k : Nat, k ≤ ns.length ∧ i = .int .i64 k ∧ wr = w3 ∧ Hid (ns.all (inB d) = (ns.drop k).all (inB d))) (fun i _ => ns.length - (intOf i).toNat)
      case atStart => exact ⟨0, Nat.zero_le _, rfl, rfl, rfl⟩
      case round =>
        obtain ⟨k, hk, rfl, rfl, HQ⟩ := hrel
        by_cases hlt : k < ns.length
        · obtain ⟨bn, on, rfl, hbn, en⟩ := (HNS.out.keptI ⟨HB2.out.size, fun q _ hq => HB2.out.block q hq⟩).atI k hlt
          have HST : Hid ((ns.drop k).all (inB d) = (inB d ns[k] && (ns.drop (k + 1)).all (inB d))) := by show _ = _; rw [List.drop_eq_getElem_cons hlt, List.all_cons]
          generalize ns[k] = n at *
          have h00 : (0 : Int) ≤ k := by omega
          have h01 : (k : Int) < ns.length := by omega
          by_cases hn0 : 0 ≤ n
          · by_cases hn1 : n < d.classes.length
            · have HR : Hid (ns.all (inB d) = (ns.drop (k + 1)).all (inB d)) := HQ.out.trans (HST.out.trans (by simp [inB, hn0, hn1]))
              go_wp2_with fail
              refine (demand_any _ _ _).mono ?_
              rintro r w4 ⟨rfl, ⟨hb, rfl⟩ | ⟨hb, rfl⟩⟩
              · exact absurd hb (by simp <;> omega)
              clear hb
              go_wp2_with fail
              go_roundw
              case rel => exact ⟨k + 1, by omega, by go_num, (by first | rfl | trivial), HR.out⟩
              case measure => simp [intOf]; omega
            · have HR : Hid (chkRes d ns = 3) := HRS.out.trans (by rw [HQ.out, HST.out]; simp [inB, hn1])
              go_wp2_with fail
              refine (demand_any _ _ _).mono ?_
              rintro r w4 ⟨rfl, ⟨hb, rfl⟩ | ⟨hb, rfl⟩⟩
              · exact ⟨rfl, HB2.out, Or.inr ⟨by rw [HR.out]; decide, by rw [HR.out]⟩⟩
              · exact absurd hb (by simp <;> omega)
          · have HR : Hid (chkRes d ns = 3) := HRS.out.trans (by rw [HQ.out, HST.out]; simp [inB, hn0])
            go_wp2_with fail
            refine (demand_any _ _ _).mono ?_
            rintro r w4 ⟨rfl, ⟨hb, rfl⟩ | ⟨hb, rfl⟩⟩
            · exact ⟨rfl, HB2.out, Or.inr ⟨by rw [HR.out]; decide, by rw [HR.out]⟩⟩
            · exact absurd hb (by simp <;> omega)
        · have HR : Hid (chkRes d ns = 0) := HRS.out.trans (by rw [HQ.out, List.drop_of_length_le (by omega)]; rfl)
          go_wp2_with fail
          go_ret
          exact ⟨HB2.out, Or.inl ⟨HR.out, HOK.out, _, _, _, _, _, _, _, rfl, HW2.out⟩⟩
  · have hB1 := mkHid ((HB0.out (.cells #[.slice aC d.classes.length cC, .slice aS d.supers.length cS, .slice aF d.fields.length cF, .slice aN d.names.length cN, .slice aT d.targets.length cT] 28)).trans (hb1.mono (HB0.out _).size))
    have HR : Hid (chkRes d ns = 4) := by
      show chkRes d ns = 4
      have : okLk d = false := by simp [okLk, h0]
      rw [chkRes, this]
      rfl
    have hne : (tieRes d.classes == 0) = false := beq_eq_false_iff_ne.2 h0
    clear hb1 h0
    generalize tieRes d.classes = te at *
    go_wp2_with fail
    refine (demand_any _ _ _).mono ?_
    rintro r w3 ⟨rfl, ⟨hb, rfl⟩ | ⟨hb, rfl⟩⟩
    · exact ⟨rfl, hB1.out, Or.inr ⟨by rw [HR.out]; decide, by rw [HR.out]⟩⟩
    · exact absurd hb (by simp)
end Go.Proofs.YtkpklkhkhhlifabGreat

/- The contracts of Find and Is. -/
namespace Go.Proofs.YtkpklkhkhhlifabGreat
open Go.RowKit Go.Maps

theorem find_any (w : World) (b : Nat) (l : List ClassD) (s : ByteArray) (hN : Nums w b l) (hs : s.size ≤ maxLen) :
    Calls Tryz.prog 36 #[.pointer (some ⟨b, 0, none⟩), .string s] w fun r w' => w' = w ∧ ((0 ≤ num l s ∧ r = .returned (.int .i64 (num l s))) ∨ (num l s < 0 ∧ r = .panicked [wrongV 5 0])) := by
  have HN := mkHid (numberN w b l s hN hs)
  clear hN hs
  go_enter Tryz.func36, Tryz.ntmps36
  go_wp2_with (go_at_call 61; refine HN.out.mono ?_; rintro r w1 ⟨rfl, rfl⟩)
  refine (demand_any _ _ _).mono ?_
  rintro r w3 ⟨rfl, ⟨hb, rfl⟩ | ⟨hb, rfl⟩⟩
  · exact ⟨rfl, rfl, Or.inr ⟨by have h := of_decide_eq_false hb; omega, rfl⟩⟩
  · have hb' : 0 ≤ num l s := of_decide_eq_true hb
    have HB := mkHid hb'
    clear hb'
    clear hb
    go_wp2_with fail
    go_ret
    exact ⟨rfl, Or.inl ⟨HB.out, rfl⟩⟩

def findErr (d : LinkD) (s : ByteArray) : Int := if chkRes d [] = 0 then (if 0 ≤ num d.classes s then 0 else 5) else chkRes d []
theorem nilSL (M : Nat → Prop) (w : World) : SL 1 RI M w (.slice none 0 0) [] := ⟨none, 0, rfl, Nat.le_refl _, by unfold maxLen; simp, fun k hk => by cases hk⟩

set_option maxRecDepth 100000 in
set_option maxHeartbeats 2000000 in
theorem find1_any (w : World) (B P Q : Nat) (kC kS kF kN kT : Value) (d : LinkD) (s : ByteArray) (hk : RLk (· < B) w kC kS kF kN kT d) (hB : B ≤ w.heap.size) (hs : s.size ≤ maxLen)
    (hP : w.heap[P]? = some (.cells #[kC, kS, kF, kN, kT] 28 (0, 0))) (hQ : w.cell? ⟨Q, 0, none⟩ = some (.string s)) :
    Calls Tryz.prog 35 #[.pointer (some ⟨P, 0, none⟩), .pointer (some ⟨Q, 0, none⟩)] w fun r w' => Below w.heap.size w w' ∧
      ((∃ v, r = .returned v ∧ (∃ n, v = .int .i64 n) ∧ (findErr d s = 0 ∧ v = .int .i64 (num d.classes s))) ∨ ∃ e p, r = .panicked [wrongV e p] ∧ (findErr d s = e ∧ e ≠ 0)) := by
  have hPl := lt_of hP
  have hQl := World.block_lt_of_cell? w _ hQ
  have c0 := cell_of hP 0 (x := kC) rfl
  have c1 := cell_of hP 1 (x := kS) rfl
  have c2 := cell_of hP 2 (x := kF) rfl
  have c3 := cell_of hP 3 (x := kN) rfl
  have c4 := cell_of hP 4 (x := kT) rfl
  have HCK : Hid (∀ W, Below w.heap.size w W → Calls Tryz.prog 33 #[.agg #[kC, kS, kF, kN, kT], .slice none 0 0] W fun r w' => Below w.heap.size w w' ∧
      ((chkRes d [] = 0 ∧ ∃ b, r = .returned (.pointer (some ⟨b, 0, none⟩)) ∧ Nums w' b d.classes) ∨ (chkRes d [] ≠ 0 ∧ r = .panicked [wrongV (chkRes d []) 0]))) := fun W hW =>
    (checked_any W B kC kS kF kN kT d (hk.kept (Kp.below (hW.mono hB))) (Nat.le_trans hB hW.size) (fun _ => True) _ [] (nilSL _ _)).mono fun r w' ⟨hb, h⟩ => ⟨hW.trans (hb.mono hW.size), h.imp (fun ⟨h1, _, b, _, _, _, _, _, _, h3, h4⟩ => ⟨h1, b, h3, h4.nums⟩) id⟩
  obtain ⟨aC, cC, aS, cS, aF, cF, aN, cN, aT, cT, rfl, rfl, rfl, rfl, rfl⟩ := hk.agg
  have HS := mkHid hs
  clear hk hP hs
  by_cases hc : chkRes d [] = 0
  · have HFE : Hid (findErr d s = if 0 ≤ num d.classes s then 0 else 5) := by show findErr d s = _; rw [findErr, if_pos hc]
    have HCK2 : Hid (∀ W, Below w.heap.size w W → Calls Tryz.prog 33 #[.agg #[.slice aC d.classes.length cC, .slice aS d.supers.length cS, .slice aF d.fields.length cF, .slice aN d.names.length cN, .slice aT d.targets.length cT], .slice none 0 0] W fun r w' => ∃ b, r = .returned (.pointer (some ⟨b, 0, none⟩)) ∧ Below w.heap.size w w' ∧ Nums w' b d.classes) := fun W hW => (HCK.out W hW).mono fun r w' ⟨hb, h⟩ => by
      rcases h with ⟨_, b, h1, h2⟩ | ⟨h, _⟩
      · exact ⟨b, h1, hb, h2⟩
      · exact absurd hc h
    clear HCK
    go_enter Tryz.func35, Tryz.ntmps35
    go_wp2_with fail
    by_cases hn : 0 ≤ num d.classes s
    · have HR : Hid (findErr d s = 0) := HFE.out.trans (if_pos hn)
      have HF : Hid (∀ w' b, Nums w' b d.classes → Calls Tryz.prog 36 #[.pointer (some ⟨b, 0, none⟩), .string s] w' fun r w'' => w'' = w' ∧ r = .returned (.int .i64 (num d.classes s))) := fun w' b h => (find_any w' b _ s h HS.out).mono fun r w'' ⟨e, h⟩ => ⟨e, by
        rcases h with ⟨_, h⟩ | ⟨h, _⟩
        · exact h
        · omega⟩
      go_region_held3 (fun W' => ∀ p : Addr, p.block < w.heap.size → W'.cell? p = w.cell? p) (exact fun p hp => Below.cell (B := w.heap.size) (w := w) (by repeat (first | assumption | exact Below.refl _ _ | refine Below.drew ?_ | refine Below.alloc ?_ (by simp <;> omega) _)) hp) (first
        | (go_at_call 33; refine (HCK2.out _ (by first | exact Below.refl _ _ | exact (Below.refl _ _).drew)).mono ?_; rintro r w2 ⟨b2, rfl, hb2, hn2⟩; have HN2 := mkHid hn2; clear hn2)
        | (go_at_call 36; refine (HF.out _ _ HN2.out).mono ?_; rintro r w4 ⟨rfl, rfl⟩))
      all_goals
        rename_i hS1
        clear hS1
        go_wp2_with fail
        go_ret
        exact ⟨hb2, Or.inl ⟨_, rfl, ⟨_, rfl⟩, HR.out, rfl⟩⟩
    · have HR : Hid (findErr d s = 5) := HFE.out.trans (if_neg hn)
      have HF : Hid (∀ w' b, Nums w' b d.classes → Calls Tryz.prog 36 #[.pointer (some ⟨b, 0, none⟩), .string s] w' fun r w'' => w'' = w' ∧ r = .panicked [wrongV 5 0]) := fun w' b h => (find_any w' b _ s h HS.out).mono fun r w'' ⟨e, h⟩ => ⟨e, by
        rcases h with ⟨h, _⟩ | ⟨_, h⟩
        · omega
        · exact h⟩
      refine wp_region_held_drew (S := fun W' => ∀ p : Addr, p.block < w.heap.size → W'.cell? p = w.cell? p) (by kernel_rfl) (fun p hp => rfl) fun hH => ?_
      refine wpAnyH_take (i := 0) (v := .agg #[.slice aC d.classes.length cC, .slice aS d.supers.length cS, .slice aF d.fields.length cF, .slice aN d.names.length cN, .slice aT d.targets.length cT]) rfl (by kernel_rfl) (by kernel_rfl) (by kernel_rfl) (fun _ _ _ h => h) (Or.inl ⟨by rfl, ?_⟩) hH ?_
      · intro w hSw
        go_simp
      refine wpAnyH_take (i := 2) (v := .string s) rfl (by kernel_rfl) (by kernel_rfl) (by kernel_rfl) (fun _ _ _ h => h) (Or.inl ⟨by rfl, ?_⟩) hH ?_
      · intro w hSw
        go_simp
      refine wpAnyH_ready (rs := [1]) (by kernel_rfl) (by simp) ?_
      refine AllReadyH.cons rfl (fun K hK => ?_) AllReadyH.nil
      go_simp
      refine (HCK2.out _ ((Below.refl _ _).drew)).mono ?_
      rintro r w2 ⟨b2, rfl, hb2, hn2⟩
      refine hK.out _ _ (fun p hp => hb2.cell hp) fun _ => ?_
      refine wpAnyH_ready (rs := [3]) (by kernel_rfl) (by simp) ?_
      refine AllReadyH.cons rfl (fun K' hK' => ?_) AllReadyH.nil
      go_simp
      refine (HF.out _ _ hn2).mono ?_
      rintro r w4 ⟨rfl, rfl⟩
      exact ⟨rfl, hb2, Or.inr ⟨_, _, rfl, HR.out, by decide⟩⟩
  · have HR : Hid (findErr d s = chkRes d []) := by show findErr d s = _; rw [findErr, if_neg hc]
    have HCK2 : Hid (∀ W, Below w.heap.size w W → Calls Tryz.prog 33 #[.agg #[.slice aC d.classes.length cC, .slice aS d.supers.length cS, .slice aF d.fields.length cF, .slice aN d.names.length cN, .slice aT d.targets.length cT], .slice none 0 0] W fun r w' => r = .panicked [wrongV (chkRes d []) 0] ∧ Below w.heap.size w w') := fun W hW => (HCK.out W hW).mono fun r w' ⟨hb, h⟩ => by
      rcases h with ⟨h, _⟩ | ⟨_, h⟩
      · exact absurd h hc
      · exact ⟨h, hb⟩
    have HNZ := mkHid hc
    clear HCK hc
    go_enter Tryz.func35, Tryz.ntmps35
    go_wp2_with fail
    refine wp_region_held_drew (S := fun W' => ∀ p : Addr, p.block < w.heap.size → W'.cell? p = w.cell? p) (by kernel_rfl) (fun p hp => rfl) fun hH => ?_
    refine wpAnyH_take (i := 0) (v := .agg #[.slice aC d.classes.length cC, .slice aS d.supers.length cS, .slice aF d.fields.length cF, .slice aN d.names.length cN, .slice aT d.targets.length cT]) rfl (by kernel_rfl) (by kernel_rfl) (by kernel_rfl) (fun _ _ _ h => h) (Or.inl ⟨by rfl, ?_⟩) hH ?_
    · intro w hSw
      go_simp
    refine wpAnyH_take (i := 2) (v := .string s) rfl (by kernel_rfl) (by kernel_rfl) (by kernel_rfl) (fun _ _ _ h => h) (Or.inl ⟨by rfl, ?_⟩) hH ?_
    · intro w hSw
      go_simp
    refine wpAnyH_ready (rs := [1]) (by kernel_rfl) (by simp) ?_
    refine AllReadyH.cons rfl (fun K hK => ?_) AllReadyH.nil
    go_simp
    refine (HCK2.out _ ((Below.refl _ _).drew)).mono ?_
    rintro r w2 ⟨rfl, hb2⟩
    exact ⟨rfl, hb2, Or.inr ⟨_, _, rfl, HR.out, HNZ.out⟩⟩

theorem callFind1 (args : Array Value) (w : World) : (callFunc 35 args).run Tryz.prog w = .ok (.enter 35 args) w := by kernel_rfl
def findVal (d : LinkD) (s : ByteArray) : Int := if findErr d s = 0 then num d.classes s else 0
set_option maxHeartbeats 2000000 in
theorem Find_any (w : World) (B : Nat) (kC kS kF kN kT : Value) (d : LinkD) (s : ByteArray) (hk : RLk (· < B) w kC kS kF kN kT d) (hB : B ≤ w.heap.size) (hs : s.size ≤ maxLen) :
    Calls Tryz.prog 14 #[.agg #[kC, kS, kF, kN, kT], .string s] w fun r w' => r = .returned (.tuple #[.int .i64 (findVal d s), .int .i64 (findErr d s)]) ∧ Below w.heap.size w w' := by
  have hmf : ∀ (fn : Fn) (first cap : Array Value) (w : World), (Instr.makeFunc fn first cap).run Tryz.prog w = .ok (.func fn first cap) w := fun _ _ _ _ => rfl
  have HK := mkHid hk
  obtain ⟨aC, cC, aS, cS, aF, cF, aN, cN, aT, cT, rfl, rfl, rfl, rfl, rfl⟩ := hk.agg
  have HS := mkHid hs
  clear hk hs
  go_enter Tryz.func14, Tryz.ntmps14
  go_wp2_with fail
  generalize hW : (w.alloc (.cells #[.slice aC d.classes.length cC, .slice aS d.supers.length cS, .slice aF d.fields.length cF, .slice aN d.names.length cN, .slice aT d.targets.length cT] 28)).alloc (.cells #[.string s] 9) = W0
  have hB0 : Below w.heap.size w W0 := hW ▸ (((Below.refl _ _).alloc (Nat.le_refl _) _).alloc (by simp) _)
  have hP : W0.heap[w.heap.size]? = some (.cells #[.slice aC d.classes.length cC, .slice aS d.supers.length cS, .slice aF d.fields.length cF, .slice aN d.names.length cN, .slice aT d.targets.length cT] 28 (0, 0)) := by rw [← hW]; exact (Below.heap_alloc _ _ _ (by simp)).trans (heap_alloc_new w _)
  have hQ : W0.cell? ⟨w.heap.size + 1, 0, none⟩ = some (.string s) := by rw [← hW]; simp [go_sem]
  have HB0 := mkHid hB0
  refine (madeI_any W0 35 _ (fun v _ => findErr d s = 0 ∧ v = .int .i64 (num d.classes s)) (fun e _ => findErr d s = e ∧ e ≠ 0) callFind1 ?hc ?hst).mono ?_
  case hc =>
    intro W hWb _
    have hb := HB0.out.trans (hWb.mono HB0.out.size)
    exact find1_any W B w.heap.size (w.heap.size + 1) _ _ _ _ _ d s (HK.out.kept (Kp.below (hb.mono hB))) (Nat.le_trans hB hb.size) HS.out ((hWb.block _ (lt_of hP)).trans hP) ((hWb.cell (p := ⟨w.heap.size + 1, 0, none⟩) (World.block_lt_of_cell? _ _ hQ)).trans hQ)
  case hst => exact fun _ _ _ _ _ h => h
  rintro r w2 ⟨hb2, hz2, ⟨v, rfl, -, h0, rfl⟩ | ⟨e, p, rfl, h1, h2⟩⟩
  · have HBF := mkHid (fun o => (HB0.out.trans (hb2.mono HB0.out.size)).alloc (Nat.le_trans HB0.out.size hb2.size) o)
    have HR : Hid (findVal d s = num d.classes s ∧ findErr d s = 0) := ⟨if_pos h0, h0⟩
    clear hb2 h0 hP hQ hW hB0 HK HB0
    go_wp2_with fail
    go_quiet (fail)
    go_wp2_with fail
    exact bodyPost_ret (v := .tuple #[.int .i64 (num d.classes s), .int .i64 0]) (by simp [results, Tryz.results14, go_sem]) rfl ⟨by rw [HR.out.1, HR.out.2], below_dn (HBF.out _) _⟩
  · have HBF := mkHid (fun o => (HB0.out.trans (hb2.mono HB0.out.size)).alloc (Nat.le_trans HB0.out.size hb2.size) o)
    have HR : Hid (findVal d s = 0 ∧ findErr d s = e) := ⟨if_neg (by rw [h1]; exact h2), h1⟩
    clear hb2 h1 h2 hP hQ hW hB0 HK HB0
    go_wp2_with fail
    go_quiet (fail)
    go_wp2_with fail
    exact bodyPost_ret (v := .tuple #[.int .i64 0, .int .i64 e]) (by simp [results, Tryz.results14, go_sem]) rfl ⟨by rw [HR.out.1, HR.out.2], below_dn (HBF.out _) _⟩
end Go.Proofs.YtkpklkhkhhlifabGreat

/- The contract of Is. -/
namespace Go.Proofs.YtkpklkhkhhlifabGreat
open Go.RowKit Go.Maps

theorem two_I {W : World} {g t : Nat} {a b : Int} (h : W.heap[g]? = some (.cells #[.int .i64 a, .int .i64 b] t (0, 0))) : SL 1 RI (fun _ => True) W (.slice (some ⟨g, 0, none⟩) 2 2) [a, b] := by
  refine ⟨some ⟨g, 0, none⟩, 2, rfl, Nat.le_refl _, by unfold maxLen; simp, fun k hk => ?_⟩
  have hk' : k < 2 := by simpa using hk
  rcases (by omega : k = 0 ∨ k = 1) with rfl | rfl
  · refine ⟨g, 0, [.int .i64 a], rfl, trivial, lt_of h, rfl, fun j hj => ?_, rfl⟩
    have : j = 0 := by omega
    subst this
    exact cell_of h 0 rfl
  · refine ⟨g, 0, [.int .i64 b], rfl, trivial, lt_of h, rfl, fun j hj => ?_, rfl⟩
    have : j = 0 := by omega
    subst this
    exact cell_of h 1 rfl
def underB (l : List ClassD) (a b : Int) : Bool := (lineOf l a.toNat).any fun x : Nat => decide ((x : Int) = b)

set_option maxHeartbeats 1000000 in
theorem is_any (w : World) (B b : Nat) (l : List ClassD) (vC vS vF vN vT vL : Value) (Bm : Nat) (hw : Web B w b l vC vS vF vN vT vL Bm) (x y : Int) (hx : 0 ≤ x) (hx' : x < l.length) :
    Calls Tryz.prog 42 #[.pointer (some ⟨b, 0, none⟩), .int .i64 x, .int .i64 y] w fun r w' => r = .returned (.bool (underB l x y)) ∧ w' = w := by
  obtain ⟨n, rfl⟩ := Int.eq_ofNat_of_zero_le hx
  have hlL : ((List.range l.length).map (lineOf l)).length = l.length := by simp
  have c6 := cell_of hw.blk 6 (x := vL) rfl
  obtain ⟨aL, cL, hvL, -⟩ := hw.sL
  rw [hlL] at hvL
  subst hvL
  obtain ⟨bL, oL, aU, cU, rfl, hbL, e1, sU⟩ := hw.sL.atSl n (by omega)
  have g1 : ((List.range l.length).map (lineOf l))[n]'(by omega) = lineOf l n := by simp
  rw [g1] at e1 sU
  have HC := mkHid (containsInt_any w (· < B) _ _ y sU)
  have HU : Hid (underB l n y = (lineOf l n).any fun x : Nat => decide ((x : Int) = y)) := rfl
  generalize (lineOf l n).any (fun x : Nat => decide ((x : Int) = y)) = rv at *
  clear sU g1 hlL hw
  go_enter Tryz.func42, Tryz.ntmps42
  go_wp2_with (go_at_call 65; refine HC.out.mono ?_; rintro r w1 ⟨rfl, rfl⟩)
  go_ret
  exact ⟨by rw [HU.out]; rfl, rfl⟩

set_option maxRecDepth 100000 in
set_option maxHeartbeats 2000000 in
theorem is1_any (w : World) (B P Q R : Nat) (kC kS kF kN kT : Value) (d : LinkD) (x y : Int) (hk : RLk (· < B) w kC kS kF kN kT d) (hB : B ≤ w.heap.size)
    (hP : w.heap[P]? = some (.cells #[kC, kS, kF, kN, kT] 28 (0, 0))) (hQ : w.cell? ⟨Q, 0, none⟩ = some (.int .i64 x)) (hR : w.cell? ⟨R, 0, none⟩ = some (.int .i64 y)) :
    Calls Tryz.prog 41 #[.pointer (some ⟨P, 0, none⟩), .pointer (some ⟨Q, 0, none⟩), .pointer (some ⟨R, 0, none⟩)] w fun r w' => Below w.heap.size w w' ∧
      ((∃ v, r = .returned v ∧ (∃ n, v = .bool n) ∧ (chkRes d [x, y] = 0 ∧ v = .bool (underB d.classes x y))) ∨ ∃ e p, r = .panicked [wrongV e p] ∧ (chkRes d [x, y] = e ∧ e ≠ 0)) := by
  have hPl := lt_of hP
  have hQl := World.block_lt_of_cell? w _ hQ
  have hRl := World.block_lt_of_cell? w _ hR
  have c0 := cell_of hP 0 (x := kC) rfl
  have c1 := cell_of hP 1 (x := kS) rfl
  have c2 := cell_of hP 2 (x := kF) rfl
  have c3 := cell_of hP 3 (x := kN) rfl
  have c4 := cell_of hP 4 (x := kT) rfl
  have HCK : Hid (∀ W t, Below w.heap.size w W → W.heap[w.heap.size]? = some (.cells #[.int .i64 x, .int .i64 y] t (0, 0)) → Calls Tryz.prog 33 #[.agg #[kC, kS, kF, kN, kT], .slice (some ⟨w.heap.size, 0, none⟩) 2 2] W fun r w' => Below w.heap.size w w' ∧
      ((chkRes d [x, y] = 0 ∧ ∃ b vS vF vN vT vL Bm, r = .returned (.pointer (some ⟨b, 0, none⟩)) ∧ Web w'.heap.size w' b d.classes kC vS vF vN vT vL Bm) ∨ (chkRes d [x, y] ≠ 0 ∧ r = .panicked [wrongV (chkRes d [x, y]) 0]))) := fun W t hW hh =>
    (checked_any W B kC kS kF kN kT d (hk.kept (Kp.below (hW.mono hB))) (Nat.le_trans hB hW.size) (fun _ => True) _ [x, y] (two_I hh)).mono fun r w' ⟨hb, h⟩ => ⟨hW.trans (hb.mono hW.size), h.imp (fun ⟨h1, _, h3⟩ => ⟨h1, h3⟩) id⟩
  obtain ⟨aC, cC, aS, cS, aF, cF, aN, cN, aT, cT, rfl, rfl, rfl, rfl, rfl⟩ := hk.agg
  have HNW : Hid (∀ t, (w.alloc (.cells #[.int .i64 x, .int .i64 y] t)).heap[w.heap.size]? = some (.cells #[.int .i64 x, .int .i64 y] t (0, 0))) := fun t => heap_alloc_new w _
  clear hk hP
  by_cases hc : chkRes d [x, y] = 0
  · have hin : inB d x = true ∧ inB d y = true := by
      unfold chkRes at hc
      split at hc
      · split at hc
        · rename_i h; simpa using h
        · cases hc
      · cases hc
    have hx0 : 0 ≤ x ∧ x < d.classes.length := by have := hin.1; simpa [inB] using this
    have HX := mkHid hx0
    have HCK2 : Hid (∀ W t, Below w.heap.size w W → W.heap[w.heap.size]? = some (.cells #[.int .i64 x, .int .i64 y] t (0, 0)) → Calls Tryz.prog 33 #[.agg #[.slice aC d.classes.length cC, .slice aS d.supers.length cS, .slice aF d.fields.length cF, .slice aN d.names.length cN, .slice aT d.targets.length cT], .slice (some ⟨w.heap.size, 0, none⟩) 2 2] W fun r w' => ∃ b, r = .returned (.pointer (some ⟨b, 0, none⟩)) ∧ Below w.heap.size w w' ∧ Calls Tryz.prog 42 #[.pointer (some ⟨b, 0, none⟩), .int .i64 x, .int .i64 y] w' fun r w'' => r = .returned (.bool (underB d.classes x y)) ∧ w'' = w') := fun W t hW hh => (HCK.out W t hW hh).mono fun r w' ⟨hb, h⟩ => by
      rcases h with ⟨_, b, _, _, _, _, _, _, h1, h2⟩ | ⟨h, _⟩
      · exact ⟨b, h1, hb, is_any w' _ b _ _ _ _ _ _ _ _ h2 x y HX.out.1 HX.out.2⟩
      · exact absurd hc h
    have HR := mkHid hc
    clear HCK hc hin hx0
    go_enter Tryz.func41, Tryz.ntmps41
    go_wp2_with fail
    go_region_held3 (fun W' => ∀ p : Addr, p.block < w.heap.size → W'.cell? p = w.cell? p) (exact fun p hp => Below.cell (B := w.heap.size) (w := w) (by repeat (first | assumption | exact Below.refl _ _ | refine Below.drew ?_ | refine Below.alloc ?_ (by simp <;> omega) _)) hp) (first
      | (go_at_call 33; refine (HCK2.out _ 3 ?_ ?_).mono ?_; (first | exact (((Below.refl _ _).alloc (Nat.le_refl _) _).drew) | exact (((Below.refl _ _).drew).alloc (Nat.le_refl _) _)); (exact HNW.out _); rintro r w2 ⟨b2, rfl, hb2, hn2⟩; have HN2 := mkHid hn2; clear hn2)
      | (go_at_call 42; refine HN2.out.mono ?_; rintro r w4 ⟨rfl, rfl⟩))
    all_goals
      rename_i hS1
      clear hS1
      go_wp2_with fail
      go_ret
      exact ⟨hb2, Or.inl ⟨_, rfl, ⟨_, rfl⟩, HR.out, rfl⟩⟩
  · have HCK2 : Hid (∀ W t, Below w.heap.size w W → W.heap[w.heap.size]? = some (.cells #[.int .i64 x, .int .i64 y] t (0, 0)) → Calls Tryz.prog 33 #[.agg #[.slice aC d.classes.length cC, .slice aS d.supers.length cS, .slice aF d.fields.length cF, .slice aN d.names.length cN, .slice aT d.targets.length cT], .slice (some ⟨w.heap.size, 0, none⟩) 2 2] W fun r w' => r = .panicked [wrongV (chkRes d [x, y]) 0] ∧ Below w.heap.size w w') := fun W t hW hh => (HCK.out W t hW hh).mono fun r w' ⟨hb, h⟩ => by
      rcases h with ⟨h, _⟩ | ⟨_, h⟩
      · exact absurd h hc
      · exact ⟨h, hb⟩
    have HNZ := mkHid hc
    clear HCK hc
    go_enter Tryz.func41, Tryz.ntmps41
    go_wp2_with fail
    refine wp_region_held_drew (S := fun W' => ∀ p : Addr, p.block < w.heap.size → W'.cell? p = w.cell? p) (by kernel_rfl) (fun p hp => rfl) fun hH => ?_
    refine wpAnyH_take (i := 0) (v := .agg #[.slice aC d.classes.length cC, .slice aS d.supers.length cS, .slice aF d.fields.length cF, .slice aN d.names.length cN, .slice aT d.targets.length cT]) rfl (by kernel_rfl) (by kernel_rfl) (by kernel_rfl) (fun _ _ _ h => h) (Or.inl ⟨by rfl, ?_⟩) hH ?_
    · intro w hSw
      go_simp
    refine wpAnyH_take (i := 1) (v := .int .i64 x) rfl (by kernel_rfl) (by kernel_rfl) (by kernel_rfl) (fun _ _ _ h => h) (Or.inl ⟨by rfl, ?_⟩) hH ?_
    · intro w hSw
      go_simp
    refine wpAnyH_take (i := 2) (v := .int .i64 y) rfl (by kernel_rfl) (by kernel_rfl) (by kernel_rfl) (fun _ _ _ h => h) (Or.inl ⟨by rfl, ?_⟩) hH ?_
    · intro w hSw
      go_simp
    refine wpAnyH_take (i := 5) (v := .int .i64 x) rfl (by kernel_rfl) (by kernel_rfl) (by kernel_rfl) (fun _ _ _ h => h) (Or.inl ⟨by rfl, ?_⟩) hH ?_
    · intro w hSw
      go_simp
    refine wpAnyH_take (i := 6) (v := .int .i64 y) rfl (by kernel_rfl) (by kernel_rfl) (by kernel_rfl) (fun _ _ _ h => h) (Or.inl ⟨by rfl, ?_⟩) hH ?_
    · intro w hSw
      go_simp
    refine wpAnyH_ready (rs := [3]) (by kernel_rfl) (by simp) ?_
    refine AllReadyH.cons rfl (fun K hK => ?_) AllReadyH.nil
    go_simp
    refine hK.out _ _ (fun p hp => Below.cell (B := w.heap.size) (w := w) (((Below.refl _ _).drew).alloc (Nat.le_refl _) _) hp) fun _ => ?_
    refine wpAnyH_ready (rs := [4]) (by kernel_rfl) (by simp) ?_
    refine AllReadyH.cons rfl (fun K' hK' => ?_) AllReadyH.nil
    go_simp
    refine (HCK2.out _ 3 (((Below.refl _ _).drew).alloc (Nat.le_refl _) _) (HNW.out _)).mono ?_
    rintro r w2 ⟨rfl, hb2⟩
    exact ⟨rfl, hb2, Or.inr ⟨_, _, rfl, rfl, HNZ.out⟩⟩

theorem callIs1 (args : Array Value) (w : World) : (callFunc 41 args).run Tryz.prog w = .ok (.enter 41 args) w := by kernel_rfl
def isVal (d : LinkD) (x y : Int) : Bool := if chkRes d [x, y] = 0 then underB d.classes x y else false
set_option maxHeartbeats 2000000 in
theorem Is_any (w : World) (B : Nat) (kC kS kF kN kT : Value) (d : LinkD) (x y : Int) (hk : RLk (· < B) w kC kS kF kN kT d) (hB : B ≤ w.heap.size) :
    Calls Tryz.prog 18 #[.agg #[kC, kS, kF, kN, kT], .int .i64 x, .int .i64 y] w fun r w' => r = .returned (.tuple #[.bool (isVal d x y), .int .i64 (chkRes d [x, y])]) ∧ Below w.heap.size w w' := by
  have hmf : ∀ (fn : Fn) (first cap : Array Value) (w : World), (Instr.makeFunc fn first cap).run Tryz.prog w = .ok (.func fn first cap) w := fun _ _ _ _ => rfl
  have HK := mkHid hk
  obtain ⟨aC, cC, aS, cS, aF, cF, aN, cN, aT, cT, rfl, rfl, rfl, rfl, rfl⟩ := hk.agg
  clear hk
  go_enter Tryz.func18, Tryz.ntmps18
  go_wp2_with fail
  generalize hW : ((w.alloc (.cells #[.slice aC d.classes.length cC, .slice aS d.supers.length cS, .slice aF d.fields.length cF, .slice aN d.names.length cN, .slice aT d.targets.length cT] 28)).alloc (.cells #[.int .i64 x] 3)).alloc (.cells #[.int .i64 y] 3) = W0
  have hB0 : Below w.heap.size w W0 := hW ▸ ((((Below.refl _ _).alloc (Nat.le_refl _) _).alloc (by simp) _).alloc (by simp; omega) _)
  have hP : W0.heap[w.heap.size]? = some (.cells #[.slice aC d.classes.length cC, .slice aS d.supers.length cS, .slice aF d.fields.length cF, .slice aN d.names.length cN, .slice aT d.targets.length cT] 28 (0, 0)) := by rw [← hW]; exact (Below.heap_alloc _ _ _ (by simp; omega)).trans ((Below.heap_alloc _ _ _ (by simp)).trans (heap_alloc_new w _))
  have hQ : W0.cell? ⟨w.heap.size + 1, 0, none⟩ = some (.int .i64 x) := by rw [← hW]; simp [go_sem]
  have hR : W0.cell? ⟨w.heap.size + 1 + 1, 0, none⟩ = some (.int .i64 y) := by rw [← hW]; simp [go_sem]
  have HB0 := mkHid hB0
  refine (madeB_any W0 41 _ (fun v _ => chkRes d [x, y] = 0 ∧ v = .bool (underB d.classes x y)) (fun e _ => chkRes d [x, y] = e ∧ e ≠ 0) callIs1 ?hc ?hst).mono ?_
  case hc =>
    intro W hWb _
    have hb := HB0.out.trans (hWb.mono HB0.out.size)
    exact is1_any W B w.heap.size (w.heap.size + 1) (w.heap.size + 1 + 1) _ _ _ _ _ d x y (HK.out.kept (Kp.below (hb.mono hB))) (Nat.le_trans hB hb.size) ((hWb.block _ (lt_of hP)).trans hP) ((hWb.cell (p := ⟨w.heap.size + 1, 0, none⟩) (World.block_lt_of_cell? _ _ hQ)).trans hQ) ((hWb.cell (p := ⟨w.heap.size + 1 + 1, 0, none⟩) (World.block_lt_of_cell? _ _ hR)).trans hR)
  case hst => exact fun _ _ _ _ _ h => h
  rintro r w2 ⟨hb2, hz2, ⟨v, rfl, -, h0, rfl⟩ | ⟨e, p, rfl, h1, h2⟩⟩
  · have HBF := mkHid (fun o => (HB0.out.trans (hb2.mono HB0.out.size)).alloc (Nat.le_trans HB0.out.size hb2.size) o)
    have HR : Hid (isVal d x y = underB d.classes x y ∧ chkRes d [x, y] = 0) := ⟨if_pos h0, h0⟩
    clear hb2 h0 hP hQ hR hW hB0 HK HB0
    go_wp2_with fail
    go_quiet (fail)
    go_wp2_with fail
    exact bodyPost_ret (v := .tuple #[.bool (underB d.classes x y), .int .i64 0]) (by simp [results, Tryz.results18, go_sem]) rfl ⟨by rw [HR.out.1, HR.out.2], below_dn (HBF.out _) _⟩
  · have HBF := mkHid (fun o => (HB0.out.trans (hb2.mono HB0.out.size)).alloc (Nat.le_trans HB0.out.size hb2.size) o)
    have HR : Hid (isVal d x y = false ∧ chkRes d [x, y] = e) := ⟨if_neg (by rw [h1]; exact h2), h1⟩
    clear hb2 h1 h2 hP hQ hR hW hB0 HK HB0
    go_wp2_with fail
    go_quiet (fail)
    go_wp2_with fail
    exact bodyPost_ret (v := .tuple #[.bool false, .int .i64 e]) (by simp [results, Tryz.results18, go_sem]) rfl ⟨by rw [HR.out.1, HR.out.2], below_dn (HBF.out _) _⟩
end Go.Proofs.YtkpklkhkhhlifabGreat

/- The contract of what must be in any case, of linked classes. -/
namespace Go.Proofs.YtkpklkhkhhlifabGreat
open Go.RowKit Go.Maps

def baseD : List ClassD := [⟨⟨#[79, 98, 106, 101, 99, 116]⟩, ⟨#[]⟩, [], [⟨⟨#[109, 97, 105, 110]⟩, true, [], ⟨0, ⟨#[]⟩⟩, 2, 0, ⟨#[1, 0, 7, 31, 27]⟩, []⟩]⟩,
  ⟨⟨#[69, 114, 114, 111, 114]⟩, ⟨#[79, 98, 106, 101, 99, 116]⟩, [⟨⟨#[99, 111, 100, 101]⟩, ⟨1, ⟨#[]⟩⟩⟩], []⟩]
theorem base_tie : tieRes baseD = 0 := by kernel_rfl
theorem base_findE : findErr (linkD baseD) errName = 0 := by kernel_rfl
theorem base_findV : findVal (linkD baseD) errName = 1 := by kernel_rfl
theorem base_isE : chkRes (linkD baseD) [1, 0] = 0 := by kernel_rfl
theorem base_isV : isVal (linkD baseD) 1 0 = true := by kernel_rfl
theorem base_len : (linkD baseD).supers.length = 2 ∧ (linkD baseD).fields.length = 2 := ⟨by kernel_rfl, by kernel_rfl⟩

set_option maxHeartbeats 1000000 in
theorem base_any (w : World) : Calls Tryz.prog 29 #[] w fun r w' => Below w.heap.size w w' ∧ ∃ v, r = .returned v ∧ SL 4 RC (· < w'.heap.size) w' v baseD := by
  go_enter Tryz.func29, Tryz.ntmps29
  go_wp2
  go_ret
  refine ⟨((((Below.refl _ _).alloc (Nat.le_refl _) _).alloc (by simp) _).alloc (by simp; omega) _), _, rfl, ?_⟩
  refine ⟨_, _, rfl, Nat.le_refl _, by unfold maxLen; simp [baseD], fun k hk => ?_⟩
  have hk2 : k < 2 := hk
  match k, hk2 with
  | 0, _ =>
    refine ⟨_, _, [.string ⟨#[79, 98, 106, 101, 99, 116]⟩, .string ⟨#[]⟩, .slice none 0 0, .slice (some ⟨w.heap.size, 0, none⟩) 1 1], rfl, by simp, by simp, rfl, fun j hj => ?_, ?_⟩
    · match j, hj with
      | 0, _ => simp [go_sem]
      | 1, _ => simp [go_sem]
      | 2, _ => simp [go_sem]
      | 3, _ => simp [go_sem]
    · refine ⟨_, _, rfl, ⟨none, 0, rfl, Nat.le_refl _, Nat.zero_le _, fun k hk => by cases hk⟩, ⟨some ⟨w.heap.size, 0, none⟩, 1, rfl, Nat.le_refl _, by unfold maxLen; simp [baseD], fun k hk => ?_⟩, of_decide_eq_true (by kernel_rfl), of_decide_eq_true (by kernel_rfl)⟩
      have hk0 : k < 1 := hk
      match k, hk0 with
      | 0, _ =>
        refine ⟨_, _, [.string ⟨#[109, 97, 105, 110]⟩, .bool true, .slice none 0 0, .int .i64 0, .string ⟨#[]⟩, .int .i64 2, .int .i64 0, .string ⟨#[1, 0, 7, 31, 27]⟩, .slice none 0 0], rfl, by simp; omega, by simp; omega, rfl, fun j hj => ?_, ?_⟩
        · match j, hj with
          | 0, _ => simp [go_sem]
          | 1, _ => simp [go_sem]
          | 2, _ => simp [go_sem]
          | 3, _ => simp [go_sem]
          | 4, _ => simp [go_sem]
          | 5, _ => simp [go_sem]
          | 6, _ => simp [go_sem]
          | 7, _ => simp [go_sem]
          | 8, _ => simp [go_sem]
        · exact ⟨_, _, rfl, ⟨none, 0, rfl, Nat.le_refl _, Nat.zero_le _, fun k hk => by cases hk⟩, ⟨none, 0, rfl, Nat.le_refl _, Nat.zero_le _, fun k hk => by cases hk⟩, of_decide_eq_true (by kernel_rfl), of_decide_eq_true (by kernel_rfl), of_decide_eq_true (by kernel_rfl)⟩
  | 1, _ =>
    refine ⟨_, _, [.string ⟨#[69, 114, 114, 111, 114]⟩, .string ⟨#[79, 98, 106, 101, 99, 116]⟩, .slice (some ⟨w.heap.size + 1, 0, none⟩) 1 1, .slice none 0 0], rfl, by simp, by simp, rfl, fun j hj => ?_, ?_⟩
    · match j, hj with
      | 0, _ => simp [go_sem]
      | 1, _ => simp [go_sem]
      | 2, _ => simp [go_sem]
      | 3, _ => simp [go_sem]
    · refine ⟨_, _, rfl, ⟨some ⟨w.heap.size + 1, 0, none⟩, 1, rfl, Nat.le_refl _, by unfold maxLen; simp [baseD], fun k hk => ?_⟩, ⟨none, 0, rfl, Nat.le_refl _, Nat.zero_le _, fun k hk => by cases hk⟩, of_decide_eq_true (by kernel_rfl), of_decide_eq_true (by kernel_rfl)⟩
      have hk0 : k < 1 := hk
      match k, hk0 with
      | 0, _ =>
        refine ⟨_, _, [.string ⟨#[99, 111, 100, 101]⟩, .int .i64 1, .string ⟨#[]⟩], rfl, by simp, by simp, rfl, fun j hj => ?_, ?_⟩
        · match j, hj with
          | 0, _ => simp [go_sem]
          | 1, _ => simp [go_sem]
          | 2, _ => simp [go_sem]
        · exact ⟨rfl, of_decide_eq_true (by kernel_rfl), of_decide_eq_true (by kernel_rfl)⟩


theorem base_facts : ∃ (bl : List ClassD) (bd : LinkD), bl = baseD ∧ bd = linkD bl ∧ tieRes bl = 0 ∧ findErr bd errName = 0 ∧ findVal bd errName = 1 ∧ chkRes bd [1, 0] = 0 ∧ isVal bd 1 0 = true ∧ bd.supers.length = 2 ∧ bd.fields.length = 2 :=
  ⟨baseD, linkD baseD, rfl, rfl, base_tie, base_findE, base_findV, base_isE, base_isV, base_len.1, base_len.2⟩
end Go.Proofs.YtkpklkhkhhlifabGreat

/- The contract of what must be in any case, of linked classes. -/
namespace Go.Proofs.YtkpklkhkhhlifabGreat
open Go.RowKit Go.Maps

set_option maxRecDepth 100000 in
set_option maxHeartbeats 2000000 in
theorem linkBegun_any (w : World) : Calls Tryz.prog 10 #[] w fun r w' => r = .returned (.bool true) ∧ Below w.heap.size w w' := by
  obtain ⟨bl, bd, hbl, hbd, hT, hE, hV, hIE, hIV, hl1, hl2⟩ := base_facts
  have HBA : Hid (Calls Tryz.prog 29 #[] w fun r w' => Below w.heap.size w w' ∧ ∃ v, r = .returned v ∧ SL 4 RC (· < w'.heap.size) w' v bl) := by
    show Calls _ _ _ _ _
    rw [hbl]
    exact base_any w
  have HLK : Hid (∀ w B v, SL 4 RC (· < B) w v bl → B ≤ w.heap.size → Calls Tryz.prog 8 #[v] w fun r w' => Below w.heap.size w w' ∧ ∃ kC kS kF kN kT, r = .returned (.tuple #[.agg #[kC, kS, kF, kN, kT], .int .i64 0]) ∧ RLk (· < w'.heap.size) w' kC kS kF kN kT bd) := fun w B v h hB => (Link_any w B bl v h hB).mono fun r w' ⟨hb, h⟩ => by
    rcases h with ⟨-, kC, kS, kF, kN, kT, h1, h2⟩ | ⟨h0, -⟩
    · exact ⟨hb, kC, kS, kF, kN, kT, h1, hbd ▸ h2.mono fun k h => h.2⟩
    · exact absurd hT h0
  have HE := mkHid hE
  have HV := mkHid hV
  have HIE := mkHid hIE
  have HIV := mkHid hIV
  have HL1 := mkHid hl1
  have HL2 := mkHid hl2
  clear hbl hbd hT hE hV hIE hIV hl1 hl2
  go_enter Tryz.func10, Tryz.ntmps10
  go_wp2_with fail
  refine HBA.out.mono ?_
  rintro r w1 ⟨hb1, v, rfl, sv⟩
  have HB1 := mkHid hb1
  have HSV := mkHid sv
  obtain ⟨a0, c0, rfl, -⟩ := sv
  clear hb1
  go_wp2_with fail
  refine (HLK.out w1 w1.heap.size _ HSV.out (Nat.le_refl _)).mono ?_
  rintro r w2 ⟨hb2, kC, kS, kF, kN, kT, rfl, hk⟩
  obtain ⟨aC, cC, aS, cS, aF, cF, aN, cN, aT, cT, rfl, rfl, rfl, rfl, rfl⟩ := hk.agg
  have HB2 := mkHid (HB1.out.trans (hb2.mono HB1.out.size))
  have HB3 := mkHid (fun o => (Below.refl w2.heap.size w2).alloc (Nat.le_refl _) o)
  have HKA : Hid (∀ W, Below w2.heap.size w2 W → RLk (· < w2.heap.size) W (.slice aC bd.classes.length cC) (.slice aS bd.supers.length cS) (.slice aF bd.fields.length cF) (.slice aN bd.names.length cN) (.slice aT bd.targets.length cT) bd) := fun W hW => hk.kept (Kp.below hW)
  clear hk hb2 HSV
  go_wp2_with fail
  refine (Find_any _ w2.heap.size _ _ _ _ _ bd errName (HKA.out _ (HB3.out _)) (HB3.out _).size (by decide)).mono ?_
  rintro r w3 ⟨rfl, hb3⟩
  have hB3 := (HB3.out (.cells #[.slice aC bd.classes.length cC, .slice aS bd.supers.length cS, .slice aF bd.fields.length cF, .slice aN bd.names.length cN, .slice aT bd.targets.length cT] 28)).trans (hb3.mono (HB3.out _).size)
  have hK3 := (hb3.block w2.heap.size (by simp)).trans (heap_alloc_new w2 _)
  rw [HE.out, HV.out]
  have d0 := cell_of hK3 0 (x := .slice aC bd.classes.length cC) rfl
  have d1 := cell_of hK3 1 (x := .slice aS bd.supers.length cS) rfl
  have d2 := cell_of hK3 2 (x := .slice aF bd.fields.length cF) rfl
  have d3 := cell_of hK3 3 (x := .slice aN bd.names.length cN) rfl
  have d4 := cell_of hK3 4 (x := .slice aT bd.targets.length cT) rfl
  have lk3 := lt_of hK3
  have HK3 := mkHid hK3
  have HB4 := mkHid hB3
  clear hb3 hB3 hK3
  go_wp2_with fail
  refine (Is_any _ w2.heap.size _ _ _ _ _ bd 1 0 (HKA.out _ HB4.out) HB4.out.size).mono ?_
  rintro r w4 ⟨rfl, hb4⟩
  have hK4 := (hb4.block w2.heap.size lk3).trans HK3.out
  rw [HIE.out, HIV.out]
  have f1 := cell_of hK4 1 (x := .slice aS bd.supers.length cS) rfl
  have f2 := cell_of hK4 2 (x := .slice aF bd.fields.length cF) rfl
  have lk4 := lt_of hK4
  have HB5 := mkHid (HB2.out.trans ((HB4.out.trans (hb4.mono HB4.out.size)).mono HB2.out.size))
  clear d0 d1 d2 d3 d4 hb4 hK4 HK3 HKA
  have hl1 := HL1.out
  have hl2 := HL2.out
  rw [hl1] at f1
  rw [hl2] at f2
  go_wp2_with fail
  go_ret
  exact ⟨rfl, HB5.out⟩
end Go.Proofs.YtkpklkhkhhlifabGreat
