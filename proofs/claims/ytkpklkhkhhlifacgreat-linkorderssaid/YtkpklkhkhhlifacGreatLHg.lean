/- Lines of classes that hang together, plain (where the document's own reading is not there): who is under whom, and the lowest one above two. -/
import Derived.Test.YtkpklkhkhhlifacGreatLIs
namespace Go.Proofs.YtkpklkhkhhlifacGreat
open Go.RowKit

theorem climb_stop (l : List ClassD) : ∀ (f : Nat) (n : Int), (climb l f n).length < f → climb l (f + 1) n = climb l f n
  | 0, n, h => by simp at h
  | f + 1, n, h => by
    by_cases h0 : 0 ≤ n
    · rw [climb, if_pos h0, List.length_cons] at h
      have e1 : climb l (f + 1 + 1) n = n.toNat :: climb l (f + 1) (supAt l n.toNat) := by rw [climb, if_pos h0]
      have e2 : climb l (f + 1) n = n.toNat :: climb l f (supAt l n.toNat) := by rw [climb, if_pos h0]
      rw [e1, e2, climb_stop l f _ (by omega)]
    · rw [climb_end h0, climb_end h0]
theorem line_ne (l : List ClassD) (n : Nat) : lineOf l n ≠ [] := by
  rw [lineOf, climb, if_pos (by omega)]
  simp
theorem line_step {l : List ClassD} (h5 : askNone l = true) {i n : Nat} (hi : i < l.length) (hs : supAt l i = n) : lineOf l i = lineOf l n ++ [i] ∧ n < l.length := by
  have hn : n < l.length := by have := (num_le l (clsAt l i).super).2; have e : supAt l i = num l (clsAt l i).super := rfl; omega
  have hlen : (lineOf l i).length ≤ l.length := by simpa using List.all_eq_true.1 h5 i (List.mem_range.2 hi)
  have e1 : climb l (l.length + 1) i = i :: climb l l.length n := by
    rw [climb_go _ (by omega)]
    simp [hs]
  have h2 : (climb l l.length n).length < l.length := by
    rw [lineOf, e1] at hlen
    simp at hlen
    omega
  refine ⟨?_, hn⟩
  rw [lineOf, e1, lineOf, climb_stop l _ _ h2, List.reverse_cons]
theorem line_top {l : List ClassD} {i : Nat} (hs : supAt l i < 0) : lineOf l i = [i] := by
  rw [lineOf, climb_go _ (by omega)]
  simp only [Int.toNat_natCast]
  rw [climb_end (by omega)]
  rfl
theorem name_ne {s : ByteArray} (h : isNameB s = true) : s ≠ ⟨#[]⟩ := by
  rintro rfl
  revert h
  decide
theorem class_name {c : ClassD} (h : checkClass c = 0) : c.name ≠ ⟨#[]⟩ := by
  unfold checkClass at h
  exact name_ne (dem_zero h (by decide)).1
theorem no_nil {l : List ClassD} (h : checkL l = 0) : num l ⟨#[]⟩ < 0 := by
  have h1 : hasC l ⟨#[]⟩ = false := by
    rw [hasC, hasC_mem, List.any_eq_false]
    intro c hc
    have hcc : checkClass c = 0 := by
      unfold checkL at h
      exact allE_zero (dem_zero h (by decide)).2 c hc
    have := class_name hcc
    simpa using fun e => this e.symm
  simpa [hasC] using h1
theorem askRes_zero {g : Nat} {e : Int} {a : Bool} {l : List QD} (h : askRes (⟨g, e, a⟩ :: l) = 0) (he : e ≠ 0) : a = true ∧ askRes l = 0 := by
  rw [askRes] at h
  cases a with
  | true => exact ⟨rfl, by simpa using h⟩
  | false => exact absurd (by simpa using h) he
theorem tie_asks {l : List ClassD} (h : tieRes l = 0) : askNames l = true ∧ askTop l = true ∧ askUpper l = true ∧ askSupers l = true ∧ askNone l = true ∧ askError l = true ∧ askTold l = true ∧ askParts l = true ∧ askSame l = true ∧ askFew l = true := by
  have hc := tie_chk h
  rw [tieRes, if_pos hc] at h
  obtain ⟨h1, h⟩ := askRes_zero h (by decide)
  obtain ⟨h2, h⟩ := askRes_zero h (by decide)
  obtain ⟨h3, h⟩ := askRes_zero h (by decide)
  obtain ⟨h4, h⟩ := askRes_zero h (by decide)
  obtain ⟨h5, h⟩ := askRes_zero h (by decide)
  obtain ⟨h6, h⟩ := askRes_zero h (by decide)
  obtain ⟨h7, h⟩ := askRes_zero h (by decide)
  obtain ⟨h8, h⟩ := askRes_zero h (by decide)
  obtain ⟨h9, h⟩ := askRes_zero h (by decide)
  obtain ⟨h10, -⟩ := askRes_zero h (by decide)
  exact ⟨h1, h2, h3, h4, h5, h6, h7, h8, h9, h10⟩
theorem eqL_refl {α : Type} {p : α → α → Bool} (h : ∀ x, p x x = true) : ∀ l : List α, eqL p l l = true
  | [] => rfl
  | x :: l => by rw [eqL, h, eqL_refl h l]; rfl
theorem makes_linkD (l : List ClassD) : makesB l (linkD l) = true := by
  rw [makesB]
  simp only [linkD]
  rw [eqL_refl (fun x => by simp [sameI]), eqL_refl (eqL_refl fun x => by simp [sameF, sameK]), eqL_refl (eqL_refl fun x => by simp [sameS]), eqL_refl (eqL_refl fun x => by simp [sameT])]
  rfl
theorem num_own_get (l : List ClassD) : askNames l = true → ∀ (i : Nat) (hi : i < l.length), num l l[i].name = i := by
  induction l using snoc_ind with
  | h0 => intro _ i hi; cases hi
  | h1 l c ih =>
    intro h i hi
    have h' : differB ((l ++ [c]).map (·.name)) = true := h
    rw [differ_names_snoc, Bool.and_eq_true] at h'
    obtain ⟨h1, h2⟩ := h'
    rw [num_snoc]
    by_cases hl : i < l.length
    · have e : (l ++ [c])[i] = l[i] := List.getElem_append_left hl
      have h3 := ih h1 i hl
      rw [e, if_neg, h3]
      intro hc
      rw [hc, h3] at h2
      simp at h2
    · have hi' : i = l.length := by simp at hi; omega
      subst hi'
      have e : (l ++ [c])[l.length] = c := by simp
      rw [e, if_pos rfl]
/-- Classes that hang together. -/
structure Hang (l : List ClassD) : Prop where
  names : askNames l = true
  top : askTop l = true
  upper : askUpper l = true
  supers : askSupers l = true
  none : askNone l = true
  nil : num l ⟨#[]⟩ < 0
theorem Hang.of {l : List ClassD} (h : tieRes l = 0) : Hang l := by
  obtain ⟨h1, h2, h3, h4, h5, -⟩ := tie_asks h
  exact ⟨h1, h2, h3, h4, h5, no_nil (tie_chk h)⟩
theorem Hang.lk {d : LinkD} (h : okLk d = true) : Hang d.classes := by
  rw [okLk, Bool.and_eq_true, decide_eq_true_iff] at h
  exact Hang.of h.1
theorem num_own {l : List ClassD} (hn : askNames l = true) {i : Nat} (hi : i < l.length) : num l (clsAt l i).name = i := by
  rw [clsAt_eq hi]
  exact num_own_get l hn i hi
theorem Hang.sup {l : List ClassD} (h : Hang l) {i : Nat} (hi : i < l.length) : (supAt l i < 0 ∧ (i : Int) = num l topName) ∨ ∃ n : Nat, supAt l i = n ∧ n < l.length := by
  by_cases hs : (clsAt l i).super = ⟨#[]⟩
  · refine Or.inl ⟨by rw [supAt, hs]; exact h.nil, ?_⟩
    have h1 := List.all_eq_true.1 h.upper l[i] (List.getElem_mem hi)
    rw [clsAt_eq hi] at hs
    simp [hs] at h1
    rw [← h1, ← clsAt_eq hi, num_own h.names hi]
  · refine Or.inr ?_
    have h1 := List.all_eq_true.1 h.supers l[i] (List.getElem_mem hi)
    rw [clsAt_eq hi] at hs
    have h2 : hasC l l[i].super = true := by simpa [hs] using h1
    have h3 : 0 ≤ supAt l i := by rw [supAt, clsAt_eq hi]; simpa [hasC] using h2
    have h4 : supAt l i < l.length := (num_le l (clsAt l i).super).2
    exact ⟨(supAt l i).toNat, by omega, by omega⟩
theorem Hang.ind {l : List ClassD} (h : Hang l) {P : Nat → Prop} (h0 : ∀ i, i < l.length → lineOf l i = [i] → (i : Int) = num l topName → P i)
    (h1 : ∀ i n : Nat, i < l.length → n < l.length → supAt l i = n → lineOf l i = lineOf l n ++ [i] → P n → P i) : ∀ i, i < l.length → P i := by
  have key : ∀ d i, i < l.length → (lineOf l i).length ≤ d → P i := by
    intro d
    induction d with
    | zero => intro i _ hl; exact absurd (List.eq_nil_of_length_eq_zero (by omega)) (line_ne l i)
    | succ d ih =>
      intro i hi hl
      rcases h.sup hi with ⟨h2, h3⟩ | ⟨n, hs, hn⟩
      · exact h0 i hi (line_top h2) h3
      · obtain ⟨e, hnl⟩ := line_step h.none hi hs
        exact h1 i n hi hnl hs e (ih n hnl (by rw [e] at hl; simp at hl; omega))
  exact fun i hi => key _ i hi (Nat.le_refl _)
theorem Hang.root {l : List ClassD} (h : Hang l) : ∀ i, i < l.length → (num l topName).toNat ∈ lineOf l i :=
  h.ind (fun _ _ e ht => by rw [e, ← ht]; simp) (fun _ _ _ _ _ e ih => by rw [e]; exact List.mem_append_left _ ih)
theorem Hang.last {l : List ClassD} (h : Hang l) : ∀ i, i < l.length → ∃ X, lineOf l i = X ++ [i] :=
  h.ind (fun _ _ e _ => ⟨[], e⟩) (fun _ _ _ _ _ e _ => ⟨_, e⟩)
theorem Hang.self {l : List ClassD} (h : Hang l) {i : Nat} (hi : i < l.length) : i ∈ lineOf l i := by
  obtain ⟨X, e⟩ := h.last i hi
  rw [e]
  simp
theorem Hang.pre {l : List ClassD} (h : Hang l) : ∀ i, i < l.length → ∀ u ∈ lineOf l i, u < l.length ∧ ∃ R, lineOf l i = lineOf l u ++ R :=
  h.ind (fun i hi e _ u hu => by
    rw [e] at hu
    obtain rfl := List.mem_singleton.1 hu
    exact ⟨hi, [], by simp⟩) (fun i n hi _ _ e ih u hu => by
    rw [e] at hu
    rcases List.mem_append.1 hu with h1 | h1
    · obtain ⟨h2, R, h3⟩ := ih u h1
      exact ⟨h2, R ++ [i], by rw [e, h3, List.append_assoc]⟩
    · obtain rfl := List.mem_singleton.1 h1
      exact ⟨hi, [], by simp⟩)
theorem Hang.trans {l : List ClassD} (h : Hang l) {a b c : Nat} (ha : a < l.length) (hab : b ∈ lineOf l a) (hbc : c ∈ lineOf l b) : c ∈ lineOf l a := by
  obtain ⟨_, R, e⟩ := h.pre a ha b hab
  rw [e]
  exact List.mem_append_left _ hbc
theorem Hang.anti {l : List ClassD} (h : Hang l) {a b : Nat} (ha : a < l.length) (hab : b ∈ lineOf l a) (hba : a ∈ lineOf l b) : a = b := by
  obtain ⟨hb, R, e⟩ := h.pre a ha b hab
  obtain ⟨_, R', e'⟩ := h.pre b hb a hba
  have hl : (lineOf l a).length = (lineOf l b).length := by
    have h1 := congrArg List.length e
    have h2 := congrArg List.length e'
    rw [List.length_append] at h1 h2
    omega
  have hR : R = [] := by
    have h1 := congrArg List.length e
    rw [List.length_append] at h1
    exact List.eq_nil_of_length_eq_zero (by omega)
  rw [hR, List.append_nil] at e
  obtain ⟨X, e1⟩ := h.last a ha
  obtain ⟨Y, e2⟩ := h.last b hb
  have : X ++ [a] = Y ++ [b] := by rw [← e1, ← e2, e]
  have := (List.append_inj' this rfl).2
  simpa using this
/-- Of two classes, the lowest one that is above both. -/
structure Abv (l : List ClassD) (x y n : Nat) : Prop where
  lt : n < l.length
  ex : ∃ R, lineOf l x = lineOf l n ++ R ∧ ∀ u ∈ R, u ∉ lineOf l y
  mem : n ∈ lineOf l y
theorem Abv.exists {l : List ClassD} (h : Hang l) {y : Nat} (hy : y < l.length) : ∀ x, x < l.length → ∃ n, Abv l x y n :=
  h.ind (fun i hi e ht => ⟨i, hi, ⟨[], by simp, fun u hu => by cases hu⟩, by have := h.root y hy; rwa [← ht] at this⟩) (fun i n hi hn _ e ⟨m, hm, ⟨R, e1, h1⟩, h2⟩ => by
    by_cases hiy : i ∈ lineOf l y
    · exact ⟨i, hi, ⟨[], by simp, fun u hu => by cases hu⟩, hiy⟩
    · exact ⟨m, hm, ⟨R ++ [i], by rw [e, e1, List.append_assoc], fun u hu => by
        rcases List.mem_append.1 hu with h3 | h3
        · exact h1 u h3
        · rw [List.mem_singleton.1 h3]; exact hiy⟩, h2⟩)
/-- Of those above the one, from the lowest on, the first that is above the other, too. -/
def aboveG (l : List ClassD) (x y : Nat) : Nat := ((lineOf l x).reverse.find? fun u => decide (u ∈ lineOf l y)).getD 0
theorem Abv.eq {l : List ClassD} (h : Hang l) {x y n : Nat} (ha : Abv l x y n) : aboveG l x y = n := by
  obtain ⟨hn, ⟨R, e, hR⟩, hm⟩ := ha
  obtain ⟨X, eX⟩ := h.last n hn
  have h1 : (R.reverse.find? fun u => decide (u ∈ lineOf l y)) = none := by
    rw [List.find?_eq_none]
    intro u hu
    have := hR u (List.mem_reverse.1 hu)
    simpa using this
  rw [aboveG, e, List.reverse_append, List.find?_append, h1, eX, List.reverse_append]
  simp [hm]
theorem Abv.of {l : List ClassD} (h : Hang l) {x y : Nat} (hx : x < l.length) (hy : y < l.length) : Abv l x y (aboveG l x y) := by
  obtain ⟨n, hn⟩ := Abv.exists h hy x hx
  rw [hn.eq h]
  exact hn
theorem Abv.left {l : List ClassD} {x y n : Nat} (h : Hang l) (ha : Abv l x y n) : n ∈ lineOf l x := by
  obtain ⟨hn, ⟨R, e, _⟩, _⟩ := ha
  rw [e]
  exact List.mem_append_left _ (h.self hn)
theorem Abv.low {l : List ClassD} {x y n c : Nat} (ha : Abv l x y n) (hx : c ∈ lineOf l x) (hy : c ∈ lineOf l y) : c ∈ lineOf l n := by
  obtain ⟨hn, ⟨R, e, hR⟩, _⟩ := ha
  rw [e] at hx
  rcases List.mem_append.1 hx with h1 | h1
  · exact h1
  · exact absurd hy (hR c h1)
theorem aboveG_comm {l : List ClassD} (h : Hang l) {x y : Nat} (hx : x < l.length) (hy : y < l.length) : aboveG l x y = aboveG l y x := by
  have h1 := Abv.of h hx hy
  have h2 := Abv.of h hy hx
  exact h.anti h1.lt (h1.low (h2.mem) (h2.left h)) (h2.low (h1.mem) (h1.left h))
theorem ok_linkD {l : List ClassD} (h : tieRes l = 0) : chkRes (linkD l) [] = 0 := by
  have : okLk (linkD l) = true := by
    rw [okLk, Bool.and_eq_true, decide_eq_true_iff]
    exact ⟨h, makes_linkD l⟩
  rw [chkRes, if_pos this]
  rfl

set_option maxHeartbeats 1000000 in
theorem choose_any (c : Int) (n : Nat) (h1 : -9223372036854775808 ≤ c) (h2 : c ≤ 9223372036854775807) (hn : 0 < n) (hn' : n ≤ 10) : ∃ m : Nat, m < n ∧ ∀ w, Calls Tryz.prog 6 #[.int .i64 c, .int .i64 (n : Int)] w fun r w' => r = .returned (.int .i64 (m : Int)) ∧ w' = w := by
  have hz : ((n : Int) == 0) = false := beq_eq_false_iff_ne.2 (by omega)
  have hz1 : ¬ (n : Int) = 0 := by omega
  by_cases hc : c < 0
  · refine ⟨((-(c + 1)) % n).toNat, ?_, fun w => ?_⟩
    · have h3 := Int.emod_lt_of_pos (-(c + 1)) (by omega : (0 : Int) < n)
      have h4 := Int.emod_nonneg (-(c + 1)) (by omega : (n : Int) ≠ 0)
      omega
    · go_enter Tryz.func6, Tryz.ntmps6
      go_wp2_with fail
      go_ret
      exact ⟨by show Ending.returned (.int .i64 (-((c + 1).tmod n))) = _; rw [← Int.neg_tmod, Int.tmod_eq_emod_of_nonneg (by omega), Int.toNat_of_nonneg (Int.emod_nonneg _ (by omega))], rfl⟩
  · refine ⟨(c % n).toNat, ?_, fun w => ?_⟩
    · have h3 := Int.emod_lt_of_pos c (by omega : (0 : Int) < n)
      have h4 := Int.emod_nonneg c (by omega : (n : Int) ≠ 0)
      omega
    · go_enter Tryz.func6, Tryz.ntmps6
      go_wp2_with fail
      go_ret
      exact ⟨by show Ending.returned (.int .i64 (c % n)) = Ending.returned (.int .i64 (max (c % n) 0)); rw [Int.max_eq_left (Int.emod_nonneg _ (by omega))], rfl⟩
end Go.Proofs.YtkpklkhkhhlifacGreat
