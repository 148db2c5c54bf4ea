/- Plain data: heaps, their things, and what is asked after them. -/
import Derived.Test.YtjdnmblggdobgaaGreatLMk
namespace Go.Proofs.YtjdnmblggdobgaaGreat
open Go.RowKit

structure HeapD where
  words : List Int
  young : Int
  old : Int
  ytop : Int
  otop : Int
  noted : List Int
  next : Int
structure ThD where
  loc : Int
  tag : Int
  len : Int
  hash : Int
/-- A heap's word. -/
def wd (ws : List Int) (i : Int) : Int := ws[i.toNat]?.getD 0
theorem wd_get {ws : List Int} {i : Nat} (h : i < ws.length) : wd ws i = ws[i] := by simp [wd, h]
def isTagB (n : Nat) (tag : Int) : Bool := decide (1 ≤ tag) && decide (tag < 3 + n)
def fieldsAt (fs : List (List FieldD)) (tag : Int) : List FieldD := fs[(tag - 3).toNat]?.getD []
def mayHaveB (fs : List (List FieldD)) (tag len : Int) : Bool := if 3 ≤ tag then decide (len = (fieldsAt fs tag).length) else decide (0 ≤ len) && decide (len ≤ 500)
def thAt (ws : List Int) (loc : Int) : ThD := ⟨loc, wd ws loc, wd ws (loc + 1), wd ws (loc + 2)⟩
def ThD.fin (t : ThD) : Int := t.loc + 3 + t.len
def readB (n : Nat) (fs : List (List FieldD)) (ws : List Int) (loc top : Int) : Bool :=
  decide (loc + 3 ≤ top) && isTagB n (wd ws loc) && mayHaveB fs (wd ws loc) (wd ws (loc + 1)) && decide ((thAt ws loc).fin ≤ top)
/-- The things from a word on up to another one; none, if they do not end there. -/
def walkF (n : Nat) (fs : List (List FieldD)) (ws : List Int) (top : Int) : Nat → Int → Option (List ThD)
  | 0, _ => some []
  | f + 1, loc => if loc < top then (if readB n fs ws loc top = true then (walkF n fs ws top f (thAt ws loc).fin).map (thAt ws loc :: ·) else none) else some []
def walkT (n : Nat) (fs : List (List FieldD)) (ws : List Int) (loc top : Int) : Option (List ThD) := walkF n fs ws top (top - loc).toNat loc
theorem fields_nonneg {fs : List (List FieldD)} {tag len : Int} (h : mayHaveB fs tag len = true) : 0 ≤ len := by
  unfold mayHaveB at h
  split at h
  · have := of_decide_eq_true h; omega
  · rw [Bool.and_eq_true] at h; exact of_decide_eq_true h.1
theorem read_fin {n : Nat} {fs : List (List FieldD)} {ws : List Int} {loc top : Int} (h : readB n fs ws loc top = true) : loc + 3 ≤ (thAt ws loc).fin ∧ (thAt ws loc).fin ≤ top ∧ isTagB n (wd ws loc) = true ∧ mayHaveB fs (wd ws loc) (wd ws (loc + 1)) = true := by
  unfold readB at h
  simp only [Bool.and_eq_true] at h
  obtain ⟨⟨⟨h1, h2⟩, h3⟩, h4⟩ := h
  have h5 := fields_nonneg h3
  exact ⟨by show loc + 3 ≤ loc + 3 + wd ws (loc + 1); omega, of_decide_eq_true h4, h2, h3⟩
theorem walkF_more (n : Nat) (fs : List (List FieldD)) (ws : List Int) (top : Int) : ∀ (f : Nat) (loc : Int), top - loc ≤ f → walkF n fs ws top (f + 1) loc = walkF n fs ws top f loc
  | 0, loc, h => by rw [walkF, walkF, if_neg (by omega)]
  | f + 1, loc, h => by
    by_cases hl : loc < top
    · by_cases hr : readB n fs ws loc top = true
      · have hf := (read_fin hr).1
        have e1 : walkF n fs ws top (f + 1 + 1) loc = (walkF n fs ws top (f + 1) (thAt ws loc).fin).map (thAt ws loc :: ·) := by rw [walkF, if_pos hl, if_pos hr]
        have e2 : walkF n fs ws top (f + 1) loc = (walkF n fs ws top f (thAt ws loc).fin).map (thAt ws loc :: ·) := by rw [walkF, if_pos hl, if_pos hr]
        rw [e1, e2, walkF_more n fs ws top f _ (by omega)]
      · rw [walkF, if_pos hl, if_neg hr, walkF, if_pos hl, if_neg hr]
    · rw [walkF, if_neg hl, walkF, if_neg hl]
theorem walkF_le (n : Nat) (fs : List (List FieldD)) (ws : List Int) (top : Int) (loc : Int) (f g : Nat) (h : top - loc ≤ f) (hg : f ≤ g) : walkF n fs ws top g loc = walkF n fs ws top f loc := by
  obtain ⟨k, rfl⟩ := Nat.exists_eq_add_of_le hg
  induction k with
  | zero => rfl
  | succ k ih => rw [show f + (k + 1) = f + k + 1 by omega, walkF_more _ _ _ _ _ _ (by omega), ih (by omega)]
theorem walkT_end {n : Nat} {fs : List (List FieldD)} {ws : List Int} {loc top : Int} (h : ¬ loc < top) : walkT n fs ws loc top = some [] := by
  unfold walkT
  cases (top - loc).toNat with
  | zero => rfl
  | succ k => rw [walkF, if_neg h]
theorem walkT_step {n : Nat} {fs : List (List FieldD)} {ws : List Int} {loc top : Int} (h : loc < top) (hr : readB n fs ws loc top = true) : walkT n fs ws loc top = (walkT n fs ws (thAt ws loc).fin top).map (thAt ws loc :: ·) := by
  have hf := (read_fin hr).1
  unfold walkT
  obtain ⟨k, hk⟩ : ∃ k, (top - loc).toNat = k + 1 := ⟨(top - loc).toNat - 1, by omega⟩
  rw [hk, walkF, if_pos h, if_pos hr, walkF_le _ _ _ _ _ (top - (thAt ws loc).fin).toNat k (by omega) (by omega)]
theorem walkT_no {n : Nat} {fs : List (List FieldD)} {ws : List Int} {loc top : Int} (h : loc < top) (hr : ¬ readB n fs ws loc top = true) : walkT n fs ws loc top = none := by
  unfold walkT
  obtain ⟨k, hk⟩ : ∃ k, (top - loc).toNat = k + 1 := ⟨(top - loc).toNat - 1, by omega⟩
  rw [hk, walkF, if_pos h, if_neg hr]
end Go.Proofs.YtjdnmblggdobgaaGreat
