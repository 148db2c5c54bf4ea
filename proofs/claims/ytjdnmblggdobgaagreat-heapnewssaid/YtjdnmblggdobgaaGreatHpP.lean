/- Where the things of a heap are: a map in memory, by addresses. -/
import Derived.Test.YtjdnmblggdobgaaGreatHpM
import Derived.Maps.OwnSet
namespace Go.Proofs.YtjdnmblggdobgaaGreat
open Go.RowKit Go.Maps

def thDat (t : ThD) : DataW Unit := .agg [.lit (.int .i64 t.loc), .lit (.int .i64 t.tag), .lit (.int .i64 t.len), .lit (.int .i64 t.hash)]
/-- How a thing in a map reads. -/
def thElemL (l : List Value) : Option (DataW Unit × List MemPlace) := match l with
  | [.int .i64 a, .int .i64 b, .int .i64 c, .int .i64 e] => some (thDat ⟨a, b, c, e⟩, [])
  | _ => none
def thElem (v : Value) : Option (DataW Unit × List MemPlace) := match v with
  | .agg cs => thElemL cs.toList
  | _ => none
theorem thElem_mk (t : ThD) : thElem (thV t) = some (thDat t, []) := rfl
theorem thDat_inj {s t : ThD} (h : thDat s = thDat t) : s = t := by
  cases s
  cases t
  simpa [thDat] using h
theorem thElem_inv {v : Value} {t : ThD} {ps : List MemPlace} (h : thElem v = some (thDat t, ps)) : v = thV t := by
  unfold thElem at h
  split at h
  · rename_i cs
    unfold thElemL at h
    split at h
    · rename_i hl
      have h1 := congrArg Prod.fst (Option.some.inj h)
      rw [← thDat_inj h1]
      exact congrArg Value.agg (Array.toList_inj.1 hl)
    · cases h
  · cases h
theorem law3 : Keyed Tryz.prog 3 := int_keyed Tryz.underlying3
theorem zeroTh (w : World) : (zeroValue 101).run Tryz.prog w = .ok (thV ⟨0, 0, 0, 0⟩) w := by kernel_rfl
def ikey (n : Int) : Lit := .int .i64 n
theorem isIKey (n : Int) : WideAt.IsKeyLit (ikey n) := trivial
theorem ikey_inj {m n : Int} (h : m ≠ n) : ikey m ≠ ikey n := fun e => h (by injection e)
/-- The thing of an address: the last one that has it. -/
def plAt (ts : List ThD) (n : Int) : Option ThD := ts.foldl (fun acc t => if t.loc = n then some t else acc) none
theorem plAt_snoc (ts : List ThD) (t : ThD) (n : Int) : plAt (ts ++ [t]) n = if t.loc = n then some t else plAt ts n := by
  unfold plAt
  rw [List.foldl_append]
  rfl
structure PlD (ts : List ThD) (D : DataW Unit) : Prop where
  has : ∀ n, Maps.has D (ikey n) = (plAt ts n).isSome
  at_ : ∀ n t z, plAt ts n = some t → D.atKey (ikey n) z = thDat t
  no : ∀ n z, plAt ts n = none → D.atKey (ikey n) z = z
theorem plD_nil : PlD [] (.map []) := ⟨fun _ => rfl, (fun n t z h => by cases h), fun n z _ => rfl⟩
theorem plD_put {ts : List ThD} {D : DataW Unit} (h : PlD ts D) (ht : Tidy D) (t : ThD) : PlD (ts ++ [t]) (D.put (ikey t.loc) (thDat t)) := by
  have hm := ht.isMap
  refine ⟨fun n => ?_, fun n s z hn => ?_, fun n z hn => ?_⟩
  · rw [plAt_snoc]
    by_cases e : t.loc = n
    · subst e
      rw [has_put_same hm (isIKey _), if_pos rfl]
      rfl
    · rw [has_put_other (ikey_inj (Ne.symm e)), if_neg e, h.has]
  · rw [plAt_snoc] at hn
    by_cases e : t.loc = n
    · subst e
      rw [if_pos rfl] at hn
      rw [atKey_put_same hm (isIKey _), Option.some.inj hn]
    · rw [if_neg e] at hn
      rw [atKey_put_other (ikey_inj (Ne.symm e)), h.at_ n s z hn]
  · rw [plAt_snoc] at hn
    by_cases e : t.loc = n
    · rw [if_pos e] at hn
      cases hn
    · rw [if_neg e] at hn
      rw [atKey_put_other (ikey_inj (Ne.symm e)), h.no n z hn]
def PlMap (w : World) (b : Nat) (ts : List ThD) : Prop := ∃ D : DataW Unit, w.ownsMap Tryz.prog 3 thElem b ts.length D ∧ PlD ts D
theorem PlMap.lt {w : World} {b : Nat} {ts : List ThD} (h : PlMap w b ts) : b < w.heap.size := by
  obtain ⟨D, h, _⟩ := h
  exact h.lt
theorem PlMap.kept {w w' : World} {b : Nat} {ts : List ThD} (h : PlMap w b ts) {row : Option Nat} (hg : w.grownBy w' row) (hne : some b ≠ row) : PlMap w' b ts := by
  obtain ⟨D, h, hd⟩ := h
  exact ⟨D, h.kept hg hne, hd⟩
theorem PlMap.below {B : Nat} {w w' : World} {b : Nat} {ts : List ThD} (h : PlMap w b ts) (hb : Below B w w') (hB : b < B) : PlMap w' b ts := by
  obtain ⟨D, ⟨es, clock, e, h⟩, hd⟩ := h
  exact ⟨D, ⟨es, clock, (hb.block b hB).trans e, h⟩, hd⟩
end Go.Proofs.YtjdnmblggdobgaaGreat
