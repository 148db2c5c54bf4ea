/- What Link tells is what the document tells: plain. -/
import Derived.Test.YtkpklkhkhhlifabGreatJLCkDLPu4
import Derived.Test.YtkpklkhkhhlifabGreatLLo
import Derived.Test.YtkpklkhkhhlifabGreatJSameCLRf6
import Derived.Test.YtkpklkhkhhlifabGreatJLLkLBeg
namespace Go.Proofs.YtkpklkhkhhlifabGreat
open Go.RowKit

theorem eqL_refl {α : Type} {p : α → α → Bool} (h : ∀ x, p x x = true) : ∀ l : List α, eqL p l l = true
  | [] => rfl
  | x :: l => by rw [eqL, h, eqL_refl h l]; rfl
theorem sameRest_refl (d : LinkD) : sameRest d d = true := by
  rw [sameRest, eqL_refl (fun x => by simp [sameI]), eqL_refl (eqL_refl fun x => by simp [sameF, sameK]), eqL_refl (eqL_refl fun x => by simp [sameS]), eqL_refl (eqL_refl fun x => by simp [sameT])]
  rfl
theorem makes_linkD (l : List ClassD) : makesB l (linkD l) = true := sameRest_refl (linkD l)
theorem name_ne {s : ByteArray} (h : isNameB s = true) : s ≠ ⟨#[]⟩ := by
  rintro rfl
  revert h
  decide
theorem class_name {c : ClassD} (h : checkClass c = 0) : c.name ≠ ⟨#[]⟩ := by
  unfold checkClass at h
  exact name_ne (dem_zero h (by decide)).1
theorem no_nil {l : List ClassD} (h : checkL l = 0) : num l ⟨#[]⟩ < 0 := by
  have h1 : hasC l ⟨#[]⟩ = false := by
    rw [hasC, hasC_mem, List.any_eq_false]
    intro c hc
    have hcc : checkClass c = 0 := by
      unfold checkL at h
      exact allE_zero (dem_zero h (by decide)).2 c hc
    have := class_name hcc
    simpa using fun e => this e.symm
  simpa [hasC] using h1
theorem few_q {l : List ClassD} (hn : askNames l = true) (h5 : askNone l = true) : askFew l = allI l (fewI l) := by
  rw [askFew, allI, Bool.eq_iff_iff, Bool.and_eq_true]
  simp only [List.all_eq_true, fewI, Bool.and_eq_true]
  constructor
  · rintro ⟨h1, h2⟩ i hi
    have hi' := List.mem_range.1 hi
    rw [allF_fields hn h5 hi', tabF_table hn h5 hi']
    exact ⟨h1 i hi, h2 i hi⟩
  · intro h
    refine ⟨fun i hi => ?_, fun i hi => ?_⟩
    · have := (h i hi).1
      rwa [allF_fields hn h5 (List.mem_range.1 hi)] at this
    · have := (h i hi).2
      rwa [tabF_table hn h5 (List.mem_range.1 hi)] at this
theorem linkErr_ne {l : List ClassD} {e : Int} (h : checkLk l = e) (he : e ≠ 0) : linkErr l = e := by
  rw [linkErr, h, if_pos he]
theorem tie_link (l : List ClassD) : tieRes l = linkErr l := by
  by_cases hc : checkL l = 0
  rotate_left
  · rw [tieRes, if_neg hc]
    exact (linkErr_ne (by simp [checkLk, hc]) hc).symm
  have hfine := (list_fine hc).2
  rw [tieRes, if_pos hc]
  cases h1 : askNames l with
  | false => rw [linkErr_ne (lk1 hc (names_q1 l ▸ h1)) (by decide)]; simp [qsOf, askRes, h1]
  | true =>
  have g1 := names_q1 l ▸ h1
  cases h2 : askTop l with
  | false => rw [linkErr_ne (lk2 hc g1 (top_q2 l h1 ▸ h2)) (by decide)]; simp [qsOf, askRes, h1, h2]
  | true =>
  have g2 := top_q2 l h1 ▸ h2
  cases h3 : askUpper l with
  | false => rw [linkErr_ne (lk3 hc g1 g2 (upper_q3 l ▸ h3)) (by decide)]; simp [qsOf, askRes, h1, h2, h3]
  | true =>
  have g3 := upper_q3 l ▸ h3
  cases h4 : askSupers l with
  | false => rw [linkErr_ne (lk4 hc g1 g2 g3 (supers_q4 l h1 ▸ h4)) (by decide)]; simp [qsOf, askRes, h1, h2, h3, h4]
  | true =>
  have g4 := supers_q4 l h1 ▸ h4
  cases h5 : askNone l with
  | false => rw [linkErr_ne (lk5 hc g1 g2 g3 g4 (none_q5 l h1 ▸ h5)) (by decide)]; simp [qsOf, askRes, h1, h2, h3, h4, h5]
  | true =>
  have g5 := none_q5 l h1 ▸ h5
  cases h6 : askError l with
  | false => rw [linkErr_ne (lk6 hc g1 g2 g3 g4 g5 (error_q6 h1 h5 h2 hfine ▸ h6)) (by decide)]; simp [qsOf, askRes, h1, h2, h3, h4, h5, h6]
  | true =>
  have g6 := error_q6 h1 h5 h2 hfine ▸ h6
  cases h7 : askTold l with
  | false => rw [linkErr_ne (lk7 hc g1 g2 g3 g4 g5 g6 (told_q7 l h1 ▸ h7)) (by decide)]; simp [qsOf, askRes, h1, h2, h3, h4, h5, h6, h7]
  | true =>
  have g7 := told_q7 l h1 ▸ h7
  cases h8 : askParts l with
  | false => rw [linkErr_ne (lk8 hc g1 g2 g3 g4 g5 g6 g7 (parts_q8 h1 h5 ▸ h8)) (by decide)]; simp [qsOf, askRes, h1, h2, h3, h4, h5, h6, h7, h8]
  | true =>
  have g8 := parts_q8 h1 h5 ▸ h8
  cases h9 : askSame l with
  | false => rw [linkErr_ne (lk9 hc g1 g2 g3 g4 g5 g6 g7 g8 (same_q9 h1 h4 h5 h8 (no_nil hc) ▸ h9)) (by decide)]; simp [qsOf, askRes, h1, h2, h3, h4, h5, h6, h7, h8, h9]
  | true =>
  have g9 := same_q9 h1 h4 h5 h8 (no_nil hc) ▸ h9
  rw [linkErr, lk10 hc g1 g2 g3 g4 g5 g6 g7 g8 g9, ← few_q h1 h5]
  cases h10 : askFew l <;> simp [qsOf, askRes, h1, h2, h3, h4, h5, h6, h7, h8, h9, h10]
theorem askRes_zero {g : Nat} {e : Int} {a : Bool} {l : List QD} (h : askRes (⟨g, e, a⟩ :: l) = 0) (he : e ≠ 0) : a = true ∧ askRes l = 0 := by
  rw [askRes] at h
  cases a with
  | true => exact ⟨rfl, by simpa using h⟩
  | false => exact absurd (by simpa using h) he
theorem tie_asks {l : List ClassD} (h : tieRes l = 0) : askNames l = true ∧ askTop l = true ∧ askUpper l = true ∧ askSupers l = true ∧ askNone l = true ∧ askError l = true ∧ askTold l = true ∧ askParts l = true ∧ askSame l = true ∧ askFew l = true := by
  have hc := tie_chk h
  rw [tieRes, if_pos hc] at h
  obtain ⟨h1, h⟩ := askRes_zero h (by decide)
  obtain ⟨h2, h⟩ := askRes_zero h (by decide)
  obtain ⟨h3, h⟩ := askRes_zero h (by decide)
  obtain ⟨h4, h⟩ := askRes_zero h (by decide)
  obtain ⟨h5, h⟩ := askRes_zero h (by decide)
  obtain ⟨h6, h⟩ := askRes_zero h (by decide)
  obtain ⟨h7, h⟩ := askRes_zero h (by decide)
  obtain ⟨h8, h⟩ := askRes_zero h (by decide)
  obtain ⟨h9, h⟩ := askRes_zero h (by decide)
  obtain ⟨h10, -⟩ := askRes_zero h (by decide)
  exact ⟨h1, h2, h3, h4, h5, h6, h7, h8, h9, h10⟩
theorem linkD_refD {l : List ClassD} (h : tieRes l = 0) : linkD l = refD l := by
  obtain ⟨h1, -, -, -, h5, -⟩ := tie_asks h
  have e1 : (List.range l.length).map (supAt l) = (List.range l.length).map fun i => firstAt l (clsAt l i).super := List.map_congr_left fun i _ => num_firstAt l _ h1
  have e2 : (List.range l.length).map (fieldsOf l) = (List.range l.length).map (allF l) := List.map_congr_left fun i hi => (allF_fields h1 h5 (List.mem_range.1 hi)).symm
  have e3 : (List.range l.length).map (namesOf l) = (List.range l.length).map fun i => (tabF l i).1 := List.map_congr_left fun i hi => by rw [tabF_table h1 h5 (List.mem_range.1 hi)]; rfl
  have e4 : (List.range l.length).map (targetsOf l) = (List.range l.length).map fun i => (tabF l i).2 := List.map_congr_left fun i hi => by rw [tabF_table h1 h5 (List.mem_range.1 hi)]; rfl
  rw [linkD, refD, e1, e2, e3, e4]
end Go.Proofs.YtkpklkhkhhlifabGreat

/- The law LinkLinks, walked. -/
namespace Go.Proofs.YtkpklkhkhhlifabGreat
open Go.RowKit Go.Maps

theorem nilRLk (M : Nat → Prop) (w : World) : RLk M w (.slice none 0 0) (.slice none 0 0) (.slice none 0 0) (.slice none 0 0) (.slice none 0 0) noLink :=
  ⟨⟨none, 0, rfl, Nat.le_refl _, Nat.zero_le _, fun k hk => by cases hk⟩, ⟨none, 0, rfl, Nat.le_refl _, Nat.zero_le _, fun k hk => by cases hk⟩, ⟨none, 0, rfl, Nat.le_refl _, Nat.zero_le _, fun k hk => by cases hk⟩, ⟨none, 0, rfl, Nat.le_refl _, Nat.zero_le _, fun k hk => by cases hk⟩, ⟨none, 0, rfl, Nat.le_refl _, Nat.zero_le _, fun k hk => by cases hk⟩⟩
/-- Both answers: an error, and linked classes of some data. -/
theorem Link_both (w : World) (B : Nat) (l : List ClassD) (v : Value) (hv : SL 4 RC (· < B) w v l) (hB : B ≤ w.heap.size) :
    ∃ (e : Int) (d : LinkD), (Calls Tryz.prog 8 #[v] w fun r w' => Below w.heap.size w w' ∧ ∃ kC kS kF kN kT, r = .returned (.tuple #[.agg #[kC, kS, kF, kN, kT], .int .i64 e]) ∧ RLk (· < w'.heap.size) w' kC kS kF kN kT d) ∧
      ∀ W, Below w.heap.size w W → Calls Tryz.prog 9 #[v] W fun r w' => Below W.heap.size W w' ∧ ∃ kC kS kF kN kT, r = .returned (.tuple #[.agg #[kC, kS, kF, kN, kT], .int .i64 e]) ∧ RLk (· < w'.heap.size) w' kC kS kF kN kT d := by
  have hsame := tie_link l
  by_cases h : tieRes l = 0
  · refine ⟨0, linkD l, (Link_any w B l v hv hB).mono fun r w' ⟨hb, h'⟩ => ?_, fun W hW => (LinkOf_any W B l v (hv.keptC (Kp.below (hW.mono hB))) (Nat.le_trans hB hW.size)).mono fun r w' ⟨hb, h'⟩ => ?_⟩
    · rcases h' with ⟨-, kC, kS, kF, kN, kT, h1, h2⟩ | ⟨h0, -⟩
      · exact ⟨hb, kC, kS, kF, kN, kT, h1, h2.mono fun k h => h.2⟩
      · exact absurd h h0
    · rcases h' with ⟨-, kC, kS, kF, kN, kT, h1, h2⟩ | ⟨h0, -⟩
      · exact ⟨hb, kC, kS, kF, kN, kT, h1, linkD_refD h ▸ h2.mono fun k h => h.2⟩
      · exact absurd (hsame ▸ h) h0
  · refine ⟨tieRes l, noLink, (Link_any w B l v hv hB).mono fun r w' ⟨hb, h'⟩ => ?_, fun W hW => (LinkOf_any W B l v (hv.keptC (Kp.below (hW.mono hB))) (Nat.le_trans hB hW.size)).mono fun r w' ⟨hb, h'⟩ => ?_⟩
    · rcases h' with ⟨h0, -⟩ | ⟨-, h1⟩
      · exact absurd h0 h
      · exact ⟨hb, _, _, _, _, _, h1, nilRLk _ _⟩
    · rcases h' with ⟨h0, -⟩ | ⟨-, h1⟩
      · exact absurd (hsame ▸ h0) h
      · exact ⟨hb, _, _, _, _, _, by rw [hsame]; exact h1, nilRLk _ _⟩

set_option maxRecDepth 100000 in
set_option maxHeartbeats 4000000 in
theorem linkLinks_any (w : World) (v : Value) (l : List ClassD) (hv : SL 4 RC (· < w.heap.size) w v l) :
    Calls Tryz.prog 3 #[v] w fun r w' => r = .returned (.bool true) ∧ Below w.heap.size w w' := by
  obtain ⟨e, d, hL, hO⟩ := Link_both w w.heap.size l v hv (Nat.le_refl _)
  have HL := mkHid hL
  have HO := mkHid hO
  obtain ⟨ao, cl, rfl, -⟩ := hv
  clear hL hO
  go_enter Tryz.func3, Tryz.ntmps3
  go_wp2_with fail
  refine HL.out.mono ?_
  rintro r w1 ⟨hb1, kC, kS, kF, kN, kT, rfl, hk⟩
  obtain ⟨aC, cC, aS, cS, aF, cF, aN, cN, aT, cT, rfl, rfl, rfl, rfl, rfl⟩ := hk.agg
  have HB1 := mkHid hb1
  have HK := mkHid hk
  have HA := mkHid (fun o => (Below.refl w1.heap.size w1).alloc (Nat.le_refl _) o)
  clear hb1 hk
  go_wp2_with fail
  refine (HO.out _ (HB1.out.trans ((HA.out _).mono HB1.out.size))).mono ?_
  rintro r w2 ⟨hb2, jC, jS, jF, jN, jT, rfl, hj⟩
  obtain ⟨bC, eC, bS, eS, bF, eF, bN, eN, bT, eT, rfl, rfl, rfl, rfl, rfl⟩ := hj.agg
  have hK2 := (hb2.block w1.heap.size (by simp)).trans (heap_alloc_new w1 _)
  have hB2 : Below w1.heap.size w1 w2 := (HA.out _).trans (hb2.mono (HA.out _).size)
  have HA2 := mkHid (fun o => (Below.refl w2.heap.size w2).alloc (Nat.le_refl _) o)
  have HB2 := mkHid hB2
  have HJ := mkHid hj
  have HK2 := mkHid hK2
  have lk2 := lt_of hK2
  clear hb2 hB2 hj hK2
  go_wp2_with fail
  refine (linkBegun_any _).mono ?_
  rintro r w3 ⟨rfl, hb3⟩
  have hJ3 := (hb3.block w2.heap.size (by simp)).trans (heap_alloc_new w2 _)
  have hB3 : Below w2.heap.size w2 w3 := (HA2.out _).trans (hb3.mono (HA2.out _).size)
  have hK3 := (hB3.block w1.heap.size lk2).trans HK2.out
  have x0 := cell_of hK3 0 (x := .slice aC d.classes.length cC) rfl
  have x1 := cell_of hK3 1 (x := .slice aS d.supers.length cS) rfl
  have x2 := cell_of hK3 2 (x := .slice aF d.fields.length cF) rfl
  have x3 := cell_of hK3 3 (x := .slice aN d.names.length cN) rfl
  have x4 := cell_of hK3 4 (x := .slice aT d.targets.length cT) rfl
  have y0 := cell_of hJ3 0 (x := .slice bC d.classes.length eC) rfl
  have y1 := cell_of hJ3 1 (x := .slice bS d.supers.length eS) rfl
  have y2 := cell_of hJ3 2 (x := .slice bF d.fields.length eF) rfl
  have y3 := cell_of hJ3 3 (x := .slice bN d.names.length eN) rfl
  have y4 := cell_of hJ3 4 (x := .slice bT d.targets.length eT) rfl
  have lx := lt_of hK3
  have ly := lt_of hJ3
  have HSM := mkHid (SameLinked_any w3 w2.heap.size _ _ _ _ _ _ _ _ _ _ d d ((HK.out.kept (Kp.below (HB2.out.trans (hB3.mono HB2.out.size)))).mono fun k hk => Nat.lt_of_lt_of_le hk HB2.out.size) (HJ.out.kept (Kp.below hB3)) rfl hB3.size)
  have HBF := mkHid (HB1.out.trans ((HB2.out.trans (hB3.mono HB2.out.size)).mono HB1.out.size))
  have HSR := mkHid (sameRest_refl d)
  clear hb3 hJ3 hB3 hK3 HK2 HJ HK HO HL
  go_wp2_with (go_at_call 11; refine HSM.out.mono ?_; rintro r w4 ⟨rfl, hb4⟩)
  go_ret
  exact ⟨by rw [HSR.out]; simp, HBF.out.trans (hb4.mono HBF.out.size)⟩
end Go.Proofs.YtkpklkhkhhlifabGreat
