/- The contract of link's Check. -/
import Derived.Test.YtkpklkhkhhlifabGreatJLLkLBeg
import Derived.Test.YtkpklkhkhhlifabGreatJLPu5LLaw
namespace Go.Proofs.YtkpklkhkhhlifabGreat
open Go.RowKit Go.Maps

theorem nilSL0 (M : Nat → Prop) (w : World) : SL 1 RI M w (.slice none 0 0) [] := ⟨none, 0, rfl, Nat.le_refl _, by unfold maxLen; simp, fun k hk => by cases hk⟩
set_option maxHeartbeats 1000000 in
theorem lcheck1_any (w : World) (B P : Nat) (kC kS kF kN kT : Value) (d : LinkD) (hk : RLk (· < B) w kC kS kF kN kT d) (hB : B ≤ w.heap.size) (hP : w.heap[P]? = some (.cells #[kC, kS, kF, kN, kT] 28 (0, 0))) :
    Calls Tryz.prog 32 #[.pointer (some ⟨P, 0, none⟩)] w fun r w' => ChkOut (chkRes d []) r ∧ Below w.heap.size w w' := by
  have HCK := mkHid (checked_any w B kC kS kF kN kT d hk hB (fun _ => True) _ [] (nilSL0 _ _))
  have hPl := lt_of hP
  have c0 := cell_of hP 0 (x := kC) rfl
  have c1 := cell_of hP 1 (x := kS) rfl
  have c2 := cell_of hP 2 (x := kF) rfl
  have c3 := cell_of hP 3 (x := kN) rfl
  have c4 := cell_of hP 4 (x := kT) rfl
  obtain ⟨aC, cC, aS, cS, aF, cF, aN, cN, aT, cT, rfl, rfl, rfl, rfl, rfl⟩ := hk.agg
  clear hk hP
  go_enter Tryz.func32, Tryz.ntmps32
  go_wp2_with fail
  refine HCK.out.mono ?_
  rintro r w1 ⟨hb, ⟨h0, -, b, vS, vF, vN, vT, vL, Bm, rfl, -⟩ | ⟨h0, rfl⟩⟩
  · have HC := mkHid h0
    have HB := mkHid hb
    clear h0 hb c0 c1 c2 c3 c4
    go_wp2_with fail
    go_end0
    exact ⟨Or.inr ⟨HC.out, rfl⟩, HB.out⟩
  · exact ⟨rfl, Or.inl ⟨h0, rfl⟩, hb⟩
theorem callLCheck1 (args : Array Value) (w : World) : (callFunc 32 args).run Tryz.prog w = .ok (.enter 32 args) w := by kernel_rfl

set_option maxHeartbeats 1000000 in
theorem LCheck_any (w : World) (B : Nat) (kC kS kF kN kT : Value) (d : LinkD) (hk : RLk (· < B) w kC kS kF kN kT d) (hB' : B ≤ w.heap.size) :
    Calls Tryz.prog 12 #[.agg #[kC, kS, kF, kN, kT]] w fun r w' => r = .returned (.int .i64 (chkRes d [])) ∧ Below w.heap.size w w' := by
  have hmf : ∀ (fn : Fn) (first cap : Array Value) (w : World), (Instr.makeFunc fn first cap).run Tryz.prog w = .ok (.func fn first cap) w := fun _ _ _ _ => rfl
  have HK := mkHid hk
  obtain ⟨aC, cC, aS, cS, aF, cF, aN, cN, aT, cT, rfl, rfl, rfl, rfl, rfl⟩ := hk.agg
  clear hk
  have hB0 := (Below.refl w.heap.size w).alloc (Nat.le_refl _) (.cells #[.slice aC d.classes.length cC, .slice aS d.supers.length cS, .slice aF d.fields.length cF, .slice aN d.names.length cN, .slice aT d.targets.length cT] 28)
  have hB1 := hB0.alloc hB0.size (.cells #[.int .i64 0, .int .i64 0] 82)
  go_enter Tryz.func12, Tryz.ntmps12
  go_wp2_with fail
  refine (caught_any 32 _ _ (fun w1 => chkRes d [] = 0 ∧ Below w.heap.size w w1) (fun e p w1 => chkRes d [] = e ∧ Below w.heap.size w w1) (callLCheck1 _) ?hc).mono ?_
  case hc =>
    refine (lcheck1_any _ B w.heap.size _ _ _ _ _ d (HK.out.kept (Kp.below (hB1.mono hB'))) (Nat.le_trans hB' hB1.size) ((Below.heap_alloc _ _ _ (by simp)).trans (heap_alloc_new w _))).mono ?_
    rintro r w1 ⟨hr, hb⟩
    have hb' := hB1.trans (hb.mono hB1.size)
    refine ⟨?_, ?_⟩
    · rw [hb.block (w.alloc (.cells #[.slice aC d.classes.length cC, .slice aS d.supers.length cS, .slice aF d.fields.length cF, .slice aN d.names.length cN, .slice aT d.targets.length cT] 28)).heap.size (by simp)]
      exact heap_alloc_new _ _
    · rcases hr with ⟨hc, rfl⟩ | ⟨hc, rfl⟩
      · exact Or.inr ⟨_, _, rfl, rfl, hb'⟩
      · exact Or.inl ⟨rfl, hc, hb'⟩
  rintro r w2 ⟨w1, hg, hr⟩
  have hz : (w.alloc (.cells #[.slice aC d.classes.length cC, .slice aS d.supers.length cS, .slice aF d.fields.length cF, .slice aN d.names.length cN, .slice aT d.targets.length cT] 28)).heap.size = w.heap.size + 1 := by simp
  rw [hz] at hg
  clear hB0 hB1 hz
  rcases hr with ⟨rfl, hc, hB⟩ | ⟨e, p, rfl, hc, hB⟩
  · have HC := mkHid hc
    have HB := mkHid (below_of_grown hB hg (by omega))
    clear hc hg hB hmf hB' HK
    have hfd := fieldErr
    go_wp2
    go_ret
    exact ⟨by rw [HC.out]; rfl, HB.out⟩
  · have HC := mkHid hc
    have HB := mkHid (below_of_grown hB hg (by omega))
    clear hc hg hB hmf hB' HK
    have hfd := fieldErr
    go_wp2
    go_ret
    exact ⟨by rw [HC.out]; rfl, HB.out⟩
end Go.Proofs.YtkpklkhkhhlifabGreat

/- The law LinkChecks, walked. -/
namespace Go.Proofs.YtkpklkhkhhlifabGreat
open Go.RowKit Go.Maps

theorem eqL_symm {α : Type} {p : α → α → Bool} (h : ∀ x y, p x y = p y x) : ∀ l m : List α, eqL p l m = eqL p m l
  | [], [] => rfl
  | [], _ :: _ => rfl
  | _ :: _, [] => rfl
  | x :: l, y :: m => by rw [eqL, eqL, h, eqL_symm h l m]
theorem sameK_symm (x y : KindD) : sameK x y = sameK y x := by
  rw [Bool.eq_iff_iff, sameK_iff, sameK_iff]
  exact ⟨Eq.symm, Eq.symm⟩
theorem sameRest_symm (d e : LinkD) : sameRest d e = sameRest e d := by
  rw [sameRest, sameRest, eqL_symm (fun x y => by rw [Bool.eq_iff_iff, sameI, sameI, beq_iff_eq, beq_iff_eq]; exact eq_comm) d.supers, eqL_symm (eqL_symm fun x y => by simp only [sameF]; rw [sameK_symm x.kind, decide_eq_decide.2 eq_comm]) d.fields, eqL_symm (eqL_symm fun x y => by rw [Bool.eq_iff_iff, sameS, sameS, beq_iff_eq, beq_iff_eq]; exact eq_comm) d.names, eqL_symm (eqL_symm fun x y => by rw [Bool.eq_iff_iff, sameT, sameT, Bool.and_eq_true, Bool.and_eq_true, beq_iff_eq, beq_iff_eq, beq_iff_eq, beq_iff_eq, eq_comm (a := x.cls), eq_comm (a := x.meth)]) d.targets]
def linkedErr (d : LinkD) : Int := if linkErr d.classes = 0 ∧ sameRest d (refD d.classes) = true then 0 else 4
theorem linkedErr_chk (d : LinkD) : linkedErr d = chkRes d [] := by
  have e : okLk d = true ↔ (linkErr d.classes = 0 ∧ sameRest d (refD d.classes) = true) := by
    rw [okLk, Bool.and_eq_true, decide_eq_true_iff, tie_link]
    constructor
    · rintro ⟨h1, h2⟩
      refine ⟨h1, ?_⟩
      rw [← linkD_refD ((tie_link _).trans h1), sameRest_symm]
      exact h2
    · rintro ⟨h1, h2⟩
      refine ⟨h1, ?_⟩
      rw [← linkD_refD ((tie_link _).trans h1), sameRest_symm] at h2
      exact h2
  unfold linkedErr chkRes
  by_cases h : okLk d = true
  · rw [if_pos (e.1 h), if_pos h]; rfl
  · rw [if_neg (fun hh => h (e.2 hh)), if_neg h]

set_option maxRecDepth 100000 in
set_option maxHeartbeats 2000000 in
theorem CheckLinked_any (w : World) (B : Nat) (kC kS kF kN kT : Value) (d : LinkD) (hk : RLk (· < B) w kC kS kF kN kT d) (hB : B ≤ w.heap.size) :
    Calls Tryz.prog 13 #[.agg #[kC, kS, kF, kN, kT]] w fun r w' => r = .returned (.int .i64 (linkedErr d)) ∧ Below w.heap.size w w' := by
  have HK := mkHid hk
  obtain ⟨aC, cC, aS, cS, aF, cF, aN, cN, aT, cT, rfl, rfl, rfl, rfl, rfl⟩ := hk.agg
  clear hk
  have HA := mkHid (fun o => (Below.refl w.heap.size w).alloc (Nat.le_refl _) o)
  go_enter Tryz.func13, Tryz.ntmps13
  go_wp2_with fail
  refine (LinkOf_any _ B d.classes _ (HK.out.C.keptC (Kp.below ((HA.out _).mono hB))) (Nat.le_trans hB (HA.out _).size)).mono ?_
  rintro r w1 ⟨hb1, ⟨h0, jC, jS, jF, jN, jT, rfl, hj⟩ | ⟨h0, rfl⟩⟩
  · have hK1 := (hb1.block w.heap.size (by simp)).trans (heap_alloc_new w _)
    have hB1 : Below w.heap.size w w1 := (HA.out _).trans (hb1.mono (HA.out _).size)
    have hj1 := hj.mono (M' := (· < w1.heap.size)) fun k h => h.2
    obtain ⟨bC, eC, bS, eS, bF, eF, bN, eN, bT, eT, rfl, rfl, rfl, rfl, rfl⟩ := hj.agg
    have lk1 := lt_of hK1
    have x0 := cell_of hK1 0 (x := .slice aC d.classes.length cC) rfl
    have x1 := cell_of hK1 1 (x := .slice aS d.supers.length cS) rfl
    have x2 := cell_of hK1 2 (x := .slice aF d.fields.length cF) rfl
    have x3 := cell_of hK1 3 (x := .slice aN d.names.length cN) rfl
    have x4 := cell_of hK1 4 (x := .slice aT d.targets.length cT) rfl
    have HA1 := mkHid (fun o => (Below.refl w1.heap.size w1).alloc (Nat.le_refl _) o)
    have HSM : Hid (∀ W, Below w1.heap.size w1 W → Calls Tryz.prog 11 #[.agg #[.slice aC d.classes.length cC, .slice aS d.supers.length cS, .slice aF d.fields.length cF, .slice aN d.names.length cN, .slice aT d.targets.length cT], .agg #[.slice bC (refD d.classes).classes.length eC, .slice bS (refD d.classes).supers.length eS, .slice bF (refD d.classes).fields.length eF, .slice bN (refD d.classes).names.length eN, .slice bT (refD d.classes).targets.length eT]] W fun r w' => r = .returned (.bool (sameRest d (refD d.classes))) ∧ Below W.heap.size W w') := fun W hW => SameLinked_any W w1.heap.size _ _ _ _ _ _ _ _ _ _ d (refD d.classes) ((HK.out.kept (Kp.below ((hB1.trans (hW.mono hB1.size)).mono hB))).mono fun k hk => Nat.lt_of_lt_of_le hk (Nat.le_trans hB hB1.size)) (hj1.kept (Kp.below hW)) rfl hW.size
    have HL : Hid (linkedErr d = if sameRest d (refD d.classes) = true then 0 else 4) := by show linkedErr d = _; simp [linkedErr, h0]
    have HB1 := mkHid hB1
    clear hb1 hj hj1 h0 hK1 hB1
    generalize sameRest d (refD d.classes) = sr at *
    generalize hrd : refD d.classes = rd at *
    clear hrd
    cases sr with
    | true =>
      go_wp2_with (go_at_call 11; refine (HSM.out _ (HA1.out _)).mono ?_; rintro r w2 ⟨rfl, hb2⟩; have HB2 := mkHid (HB1.out.trans (((HA1.out _).trans (hb2.mono (HA1.out _).size)).mono HB1.out.size)); clear hb2)
      go_ret
      exact ⟨by rw [HL.out]; rfl, HB2.out⟩
    | false =>
      go_wp2_with (go_at_call 11; refine (HSM.out _ (HA1.out _)).mono ?_; rintro r w2 ⟨rfl, hb2⟩; have HB2 := mkHid (HB1.out.trans (((HA1.out _).trans (hb2.mono (HA1.out _).size)).mono HB1.out.size)); clear hb2)
      go_ret
      exact ⟨by rw [HL.out]; rfl, HB2.out⟩
  · have hB1 : Below w.heap.size w w1 := (HA.out _).trans (hb1.mono (HA.out _).size)
    have HB1 := mkHid (hB1.alloc hB1.size (.cells #[.slice none 0 0, .slice none 0 0, .slice none 0 0, .slice none 0 0, .slice none 0 0] 28))
    have HL : Hid (linkedErr d = 4) := by show linkedErr d = 4; simp [linkedErr, h0]
    have hne : (linkErr d.classes == 0) = false := beq_eq_false_iff_ne.2 h0
    clear hb1 h0 hB1
    generalize linkErr d.classes = le at *
    have hne2 : ¬ le = 0 := fun e => by rw [e] at hne; simp at hne
    unfold nilLk
    go_wp2_with fail
    go_ret
    exact ⟨by rw [HL.out]; rfl, HB1.out⟩

set_option maxRecDepth 100000 in
set_option maxHeartbeats 2000000 in
theorem linkChecks_any (w : World) (kC kS kF kN kT : Value) (d : LinkD) (hk : RLk (· < w.heap.size) w kC kS kF kN kT d) :
    Calls Tryz.prog 4 #[.agg #[kC, kS, kF, kN, kT]] w fun r w' => r = .returned (.bool true) ∧ Below w.heap.size w w' := by
  have HK := mkHid hk
  have hrl := linkedErr_chk d
  obtain ⟨aC, cC, aS, cS, aF, cF, aN, cN, aT, cT, rfl, rfl, rfl, rfl, rfl⟩ := hk.agg
  clear hk
  go_enter Tryz.func4, Tryz.ntmps4
  go_wp2_with fail
  obtain ⟨W0, hW⟩ : ∃ W0, W0 = w.alloc (.cells #[.slice aC d.classes.length cC, .slice aS d.supers.length cS, .slice aF d.fields.length cF, .slice aN d.names.length cN, .slice aT d.targets.length cT] 28) := ⟨_, rfl⟩
  have hB1 : Below w.heap.size w W0 := hW ▸ (Below.refl w.heap.size w).alloc (Nat.le_refl _) _
  have hX : W0.heap[w.heap.size]? = some (.cells #[.slice aC d.classes.length cC, .slice aS d.supers.length cS, .slice aF d.fields.length cF, .slice aN d.names.length cN, .slice aT d.targets.length cT] 28 (0, 0)) := hW ▸ heap_alloc_new w _
  rw [← hW]
  clear hW
  have hne : Nonempty (Gr W0.heap.size W0) := ⟨⟨W0, Below.refl _ _⟩⟩
  have HBG : Hid (∀ g : Gr W0.heap.size W0, Below w.heap.size w g.w) := fun g => hB1.trans (g.ok.mono hB1.size)
  have k0 : ∀ g : Gr W0.heap.size W0, g.w.cell? ⟨w.heap.size, 0, none⟩ = some (.slice aC d.classes.length cC) := fun g => (g.ok.cell (p := ⟨w.heap.size, 0, none⟩) (lt_of hX)).trans (cell_of hX 0 rfl)
  have k1 : ∀ g : Gr W0.heap.size W0, g.w.cell? ⟨w.heap.size, 1, none⟩ = some (.slice aS d.supers.length cS) := fun g => (g.ok.cell (p := ⟨w.heap.size, 1, none⟩) (lt_of hX)).trans (cell_of hX 1 rfl)
  have k2 : ∀ g : Gr W0.heap.size W0, g.w.cell? ⟨w.heap.size, 2, none⟩ = some (.slice aF d.fields.length cF) := fun g => (g.ok.cell (p := ⟨w.heap.size, 2, none⟩) (lt_of hX)).trans (cell_of hX 2 rfl)
  have k3 : ∀ g : Gr W0.heap.size W0, g.w.cell? ⟨w.heap.size, 3, none⟩ = some (.slice aN d.names.length cN) := fun g => (g.ok.cell (p := ⟨w.heap.size, 3, none⟩) (lt_of hX)).trans (cell_of hX 3 rfl)
  have k4 : ∀ g : Gr W0.heap.size W0, g.w.cell? ⟨w.heap.size, 4, none⟩ = some (.slice aT d.targets.length cT) := fun g => (g.ok.cell (p := ⟨w.heap.size, 4, none⟩) (lt_of hX)).trans (cell_of hX 4 rfl)
  have HC1 : Hid (∀ g : Gr W0.heap.size W0, Calls Tryz.prog 10 #[] g.w fun e w'' => e = .returned (.bool true) ∧ ∃ g' : Gr W0.heap.size W0, w'' = g'.w) := fun g => Gr.calls g (Nat.le_refl _) (linkBegun_any g.w)
  have HC2 : Hid (∀ g : Gr W0.heap.size W0, Calls Tryz.prog 12 #[.agg #[.slice aC d.classes.length cC, .slice aS d.supers.length cS, .slice aF d.fields.length cF, .slice aN d.names.length cN, .slice aT d.targets.length cT]] g.w fun e w'' => e = .returned (.int .i64 (chkRes d [])) ∧ ∃ g' : Gr W0.heap.size W0, w'' = g'.w) := fun g => Gr.calls g (Nat.le_refl _) (LCheck_any g.w w.heap.size _ _ _ _ _ d (HK.out.kept (Kp.below (HBG.out g))) (HBG.out g).size)
  have HC3 : Hid (∀ g : Gr W0.heap.size W0, Calls Tryz.prog 13 #[.agg #[.slice aC d.classes.length cC, .slice aS d.supers.length cS, .slice aF d.fields.length cF, .slice aN d.names.length cN, .slice aT d.targets.length cT]] g.w fun e w'' => e = .returned (.int .i64 (chkRes d [])) ∧ ∃ g' : Gr W0.heap.size W0, w'' = g'.w) := fun g => Gr.calls g (Nat.le_refl _) (hrl ▸ CheckLinked_any g.w w.heap.size _ _ _ _ _ d (HK.out.kept (Kp.below (HBG.out g))) (HBG.out g).size)
  clear hX hB1 hrl HK
  generalize chkRes d [] = ce at *
  refine wp_region_grow_lit W0.heap.size W0 (by kernel_rfl) (by kernel_rfl) (Below.refl _ _) ?_
  repeat (go_big_quiet_step (first | (go_at_call 10; exact HC1.out _) | (go_at_call 12; exact HC2.out _) | (go_at_call 13; exact HC3.out _)))
  refine wpQuiet_nil ?_
  intro _ hw'
  obtain ⟨g, rfl⟩ := hw'
  have HFIN := mkHid (HBG.out g)
  generalize g.w = w2 at *
  clear k0 k1 k2 k3 k4 hne HC1 HC2 HC3 HBG
  go_wp2_with fail
  go_ret
  exact ⟨by simp, HFIN.out⟩
end Go.Proofs.YtkpklkhkhhlifabGreat
