/- May a method stand in for the one of its name above it: plain. -/
import Derived.Test.YtjdnmblggdobgaaGreatLEq
import Derived.Test.YtjdnmblggdobgaaGreatJLFldLWv
namespace Go.Proofs.YtjdnmblggdobgaaGreat
open Go.RowKit

def meth0 : MethD := ⟨⟨#[]⟩, false, [], ⟨0, ⟨#[]⟩⟩, 0, 0, ⟨#[]⟩, []⟩
def methAt (l : List ClassD) (t : TargD) : MethD := ((clsAt l t.cls.toNat).meths[t.meth.toNat]?).getD meth0
/-- What stands for a name is a method. -/
def okT (l : List ClassD) (t : TargD) : Prop := ∃ c j : Nat, t = ⟨c, j⟩ ∧ c < l.length ∧ j < (clsAt l c).meths.length
def standB (l : List ClassD) (n : Nat) (m : MethD) : Bool :=
  if idxS (namesOf l n) m.name < 0 then true else
    match (targetsOf l n)[(idxS (namesOf l n) m.name).toNat]? with
    | none => true
    | some t => !m.static && !(methAt l t).static && sameK m.ret (methAt l t).ret && eqL sameK m.args (methAt l t).args
def askSame (l : List ClassD) : Bool := (List.range l.length).all fun i => decide ((clsAt l i).super = (⟨#[]⟩ : ByteArray)) || (clsAt l i).meths.all (standB l (supAt l i).toNat)

theorem tab_ok (l : List ClassD) (P : List (ByteArray × TargD)) : ∀ acc : List ByteArray × List TargD, (∀ t ∈ acc.2, okT l t) → (∀ x ∈ P, okT l x.2) → ∀ t ∈ (P.foldl tabStep acc).2, okT l t := by
  induction P with
  | nil => exact fun acc h _ => h
  | cons x P ih =>
    intro acc h hP
    refine ih (tabStep acc x) ?_ fun y hy => hP y (List.mem_cons_of_mem _ hy)
    have hx := hP x (List.mem_cons_self ..)
    unfold tabStep
    split
    · intro t ht
      rcases List.mem_or_eq_of_mem_set ht with h1 | h1
      · exact h t h1
      · rw [h1]; exact hx
    · intro t ht
      rcases List.mem_append.1 ht with h1 | h1
      · exact h t h1
      · rw [List.mem_singleton.1 h1]; exact hx
theorem targets_ok {l : List ClassD} {n : Nat} (hn : n < l.length) : ∀ t ∈ targetsOf l n, okT l t := by
  refine tab_ok l _ ([], []) (fun t h => by cases h) fun x hx => ?_
  obtain ⟨k, hk, hx⟩ := List.mem_flatMap.1 hx
  obtain ⟨p, hp, rfl⟩ := List.mem_map.1 hx
  refine ⟨k, p.2, rfl, line_lt hn k hk, ?_⟩
  have := List.mem_zipIdx hp
  omega
theorem table_len (l : List ClassD) (n : Nat) : (namesOf l n).length = (targetsOf l n).length := tab_len _ ([], []) rfl
theorem methAt_eq {l : List ClassD} {c j : Nat} (h : j < (clsAt l c).meths.length) : methAt l ⟨c, j⟩ = (clsAt l c).meths[j] := by simp [methAt, h]
theorem standB_no {l : List ClassD} {n : Nat} {m : MethD} (h : idxS (namesOf l n) m.name < 0) : standB l n m = true := if_pos h
theorem standB_at {l : List ClassD} {n k c j : Nat} {m : MethD} (h : idxS (namesOf l n) m.name = k) (hk : k < (targetsOf l n).length) (ht : (targetsOf l n)[k] = ⟨c, j⟩) (hj : j < (clsAt l c).meths.length) :
    standB l n m = (!m.static && !(clsAt l c).meths[j].static && sameK m.ret (clsAt l c).meths[j].ret && eqL sameK m.args (clsAt l c).meths[j].args) := by
  rw [standB, h, if_neg (by omega), Int.toNat_natCast, List.getElem?_eq_getElem hk, ht]
  show (!m.static && !(methAt l ⟨c, j⟩).static && sameK m.ret (methAt l ⟨c, j⟩).ret && eqL sameK m.args (methAt l ⟨c, j⟩).args) = _
  rw [methAt_eq hj]
end Go.Proofs.YtjdnmblggdobgaaGreat
