/- The contracts of the reader's methods on kinds, fields and handlers. -/
import Derived.Test.YtkpklkhkhhlifaaRdText
namespace Go.Proofs.Ytkpklkhkhhlifaa
open Go.RowKit

/-- The state in the middle of a reader's method: what it hands back and its own variable, each in a block of its own. -/
structure Loc (w W : World) (b t : Nat) (rs cs : Array Value) : Prop where
  grown : w.grownBy W (some b)
  res : W.heap[w.heap.size]? = some (.cells rs t (0, 0))
  own : W.heap[w.heap.size + 1]? = some (.cells cs t (0, 0))
theorem Loc.lt {w W : World} {b t : Nat} {rs cs : Array Value} (h : Loc w W b t rs cs) : w.heap.size + 1 < W.heap.size := (Array.getElem?_eq_some_iff.1 h.own).1
theorem Loc.start {w : World} {b t : Nat} (rs cs : Array Value) : Loc w ((w.alloc (.cells rs t)).alloc (.cells cs t)) b t rs cs := by
  refine ⟨grown_alloc (grown_alloc (World.grownBy.refl _ _) _) _, ?_, ?_⟩
  · show ((w.heap.push _).push _)[w.heap.size]? = _
    rw [Array.getElem?_push, if_neg (by simp)]
    exact Array.getElem?_push_size
  · show ((w.heap.push _).push _)[w.heap.size + 1]? = _
    rw [Array.getElem?_push, if_pos (by simp)]
theorem Loc.call {w W W' : World} {b t : Nat} {rs cs : Array Value} (h : Loc w W b t rs cs) (hg : W.grownBy W' (some b)) (hb : b < w.heap.size) : Loc w W' b t rs cs :=
  have hl := h.lt
  ⟨grown_trans h.grown hg, (hg.block _ (by omega) (by simp; omega)).trans h.res, (hg.block _ hl (by simp; omega)).trans h.own⟩
theorem Loc.cell {w W : World} {b t : Nat} {rs cs : Array Value} (h : Loc w W b t rs cs) (j : Nat) {x : Value} (hx : cs[j]? = some x) : W.cell? ⟨w.heap.size + 1, j, none⟩ = some x := by
  simp [World.cell?, h.own, hx]
theorem Loc.frozen {w W : World} {b t : Nat} {rs cs : Array Value} (h : Loc w W b t rs cs) (j : Nat) : W.frozen? ⟨w.heap.size + 1, j, none⟩ = false := by
  simp [World.frozen?, h.own]
theorem Loc.cellR {w W : World} {b t : Nat} {rs cs : Array Value} (h : Loc w W b t rs cs) (j : Nat) {x : Value} (hx : rs[j]? = some x) : W.cell? ⟨w.heap.size, j, none⟩ = some x := by
  simp [World.cell?, h.res, hx]
theorem Loc.frozenR {w W : World} {b t : Nat} {rs cs : Array Value} (h : Loc w W b t rs cs) (j : Nat) : W.frozen? ⟨w.heap.size, j, none⟩ = false := by
  simp [World.frozen?, h.res]
theorem heap_set_own {W : World} {k j t : Nat} {cs : Array Value} {fr : Nat × Nat} (h : W.heap[k]? = some (.cells cs t fr)) (v : Value) : (W.setCell ⟨k, j, none⟩ v).heap[k]? = some (.cells (cs.setIfInBounds j v) t fr) := by
  simp [World.setCell, Array.getElem?_modify, h]
theorem Loc.set {w W : World} {b t : Nat} {rs cs : Array Value} (h : Loc w W b t rs cs) (j : Nat) (v : Value) : Loc w (W.setCell ⟨w.heap.size + 1, j, none⟩ v) b t rs (cs.setIfInBounds j v) :=
  ⟨grown_set h.grown _ _ (Or.inr (by simp)), (Below.heap_setCell _ _ _ _ (by simp)).trans h.res, heap_set_own h.own v⟩
theorem Rd.locSet {w W : World} {b : Nat} {s : ByteArray} {p : Nat} (h : Rd W b s p) (hb : b < w.heap.size) (k j : Nat) (hk : w.heap.size ≤ k) (v : Value) : Rd (W.setCell ⟨k, j, none⟩ v) b s p := h.setOther _ _ (by show k ≠ b; omega)
end Go.Proofs.Ytkpklkhkhhlifaa
