/- A web that is being woven: its state in memory. -/
import Derived.Test.YtkpklkhkhhlifacGreatLNam
namespace Go.Proofs.YtkpklkhkhhlifacGreat
open Go.RowKit Go.Sort

theorem RSl.stp {α : Type} {n : Nat} {R : (Nat → Prop) → World → List Value → α → Prop} {B : Nat} {T : List Nat} {w w' : World} {cs : List Value} {x : List α} (h : RSl n R (MT B T w) w cs x) (hs : Stp B T w w') (hR : ∀ M M' w w' cs x, R M w cs x → R M' w' cs x) : RSl n R (MT B T w') w' cs x := by
  obtain ⟨v, e, h⟩ := h
  exact ⟨v, e, (h.kept hs.kp fun _ _ h => hR _ _ _ _ _ _ h).mono (fun _ hk => hk.step hs) fun _ _ h => hR _ _ _ _ _ _ h⟩
theorem own_belowW {w w' : World} {B : Nat} {e size n : Nat} {v : Value} {xs : List Value} (h : w.ownsRow B e size v n xs) (hb : Below w.heap.size w w') : w'.ownsRow B e size v n xs :=
  h.kept (row := none) ⟨hb.os, hb.tape, hb.output, hb.size, fun k hk _ => hb.block k hk⟩ (by cases v.ownBlock <;> simp)

structure Wv (w0 W : World) (l : List ClassD) (vC vS vF vN vT vL : Value) (zF : List (List Value × List FieldD)) (zN : List (List Value × List ByteArray)) (zT : List (List Value × List TargD)) (zL : List (List Value × List Nat)) : Prop where
  below : Below w0.heap.size w0 W
  blk : W.heap[w0.heap.size + 1]? = some (.cells #[vC, vS, vF, vN, vT, .map (some w0.heap.size), vL] 48 (0, 0))
  sS : SL 1 RI (MT w0.heap.size [3] W) W vS ((List.range l.length).map (supAt l))
  nm : NumMap W w0.heap.size l
  oF : W.ownsRow (w0.heap.size + 2) 65 1 vF zF.length (zF.flatMap (·.1))
  aF : ∀ z ∈ zF, z.1.length = 1 ∧ RSl 3 RF (MT w0.heap.size [69] W) W z.1 z.2
  oN : W.ownsRow (w0.heap.size + 2) 85 1 vN zN.length (zN.flatMap (·.1))
  aN : ∀ z ∈ zN, z.1.length = 1 ∧ RSl 1 RS (MT w0.heap.size [9] W) W z.1 z.2
  oT : W.ownsRow (w0.heap.size + 2) 86 1 vT zT.length (zT.flatMap (·.1))
  aT : ∀ z ∈ zT, z.1.length = 1 ∧ RSl 2 RT (MT w0.heap.size [109] W) W z.1 z.2
  oL : W.ownsRow (w0.heap.size + 2) 24 1 vL zL.length (zL.flatMap (·.1))
  aL : ∀ z ∈ zL, z.1.length = 1 ∧ RSl 1 RO (MT w0.heap.size [3] W) W z.1 z.2
theorem Wv.lt {w0 W : World} {l : List ClassD} {vC vS vF vN vT vL : Value} {zF : List (List Value × List FieldD)} {zN : List (List Value × List ByteArray)} {zT : List (List Value × List TargD)} {zL : List (List Value × List Nat)} (h : Wv w0 W l vC vS vF vN vT vL zF zN zT zL) : w0.heap.size + 1 < W.heap.size := lt_of h.blk
theorem Wv.grow {w0 W : World} {l : List ClassD} {vC vS vF vN vT vL : Value} {zF : List (List Value × List FieldD)} {zN : List (List Value × List ByteArray)} {zT : List (List Value × List TargD)} {zL : List (List Value × List Nat)} {W' : World} (h : Wv w0 W l vC vS vF vN vT vL zF zN zT zL) (hb : Below W.heap.size W W') : Wv w0 W' l vC vS vF vN vT vL zF zN zT zL :=
  ⟨h.below.trans (hb.mono h.below.size), (hb.block _ h.lt).trans h.blk, (h.sS.keptI (Stp.below hb).kp).monoI fun _ hk => hk.step (Stp.below hb), h.nm.below hb h.nm.lt,
   own_belowW h.oF hb, (fun z hz => ⟨(h.aF z hz).1, (h.aF z hz).2.stp (Stp.below hb) fun _ _ _ _ _ _ h => h⟩), own_belowW h.oN hb, (fun z hz => ⟨(h.aN z hz).1, (h.aN z hz).2.stp (Stp.below hb) fun _ _ _ _ _ _ h => h⟩), own_belowW h.oT hb, (fun z hz => ⟨(h.aT z hz).1, (h.aT z hz).2.stp (Stp.below hb) fun _ _ _ _ _ _ h => h⟩), own_belowW h.oL hb, (fun z hz => ⟨(h.aL z hz).1, (h.aL z hz).2.stp (Stp.below hb) fun _ _ _ _ _ _ h => h⟩)⟩
theorem Wv.cell {w0 W : World} {l : List ClassD} {vC vS vF vN vT vL : Value} {zF : List (List Value × List FieldD)} {zN : List (List Value × List ByteArray)} {zT : List (List Value × List TargD)} {zL : List (List Value × List Nat)} (h : Wv w0 W l vC vS vF vN vT vL zF zN zT zL) (j : Nat) {x : Value} (hx : (#[vC, vS, vF, vN, vT, .map (some w0.heap.size), vL] : Array Value)[j]? = some x) : W.cell? ⟨w0.heap.size + 1, j, none⟩ = some x := cell_of h.blk j hx

set_option maxHeartbeats 1000000 in
theorem Wv.addF {w0 W : World} {l : List ClassD} {vC vS vF vN vT vL : Value} {zF : List (List Value × List FieldD)} {zN : List (List Value × List ByteArray)} {zT : List (List Value × List TargD)} {zL : List (List Value × List Nat)} (h : Wv w0 W l vC vS vF vN vT vL zF zN zT zL) {u : Value} {x : List FieldD} (hu : SL 3 RF (MT w0.heap.size [69] W) W u x) {w1 : World} {v' : Value}
    (ho : w1.ownsRow (w0.heap.size + 2) 65 1 v' (zF.length + 1) (zF.flatMap (·.1) ++ [u])) (hg : (W.alloc (.cells #[u] 65)).grownBy w1 vF.ownBlock) :
    Wv w0 (w1.setCell ⟨w0.heap.size + 1, 2, none⟩ v') l vC vS v' vN vT vL (zF ++ [([u], x)]) zN zT zL := by
  have hlt := h.lt
  have hrb : ∀ q, vF.ownBlock = some q → w0.heap.size + 2 ≤ q ∧ q < W.heap.size := fun q e => h.oF.lt q e
  have hb1 : w1.heap[w0.heap.size + 1]? = some (.cells #[vC, vS, vF, vN, vT, .map (some w0.heap.size), vL] 48 (0, 0)) := by
    rw [hg.block (w0.heap.size + 1) (by simp; omega) (fun e => by have := (hrb _ e.symm).1; omega), Below.heap_alloc _ _ _ hlt]
    exact h.blk
  have hst : ∀ t, t ∉ [65, 48] → Stp w0.heap.size [t] W (w1.setCell ⟨w0.heap.size + 1, 2, none⟩ v') := fun t ht =>
    (((Stp.refl _ _ _).alloc _).trans (Stp.row hg (h.oF.alloc _) (fun e => ht (by simp at e; simp [e])))).trans (Stp.set hb1 (fun e => ht (by simp at e; simp [← e])) 2 v')
  have hB1 : Below w0.heap.size w0 w1 := (h.below.alloc h.below.size _).grown hg (by have := h.below.size; simp; omega) (fun q e => by have := (hrb q e).1; omega)
  refine ⟨hB1.setCell (by simp) _, heap_set hb1 v', ?_, ?_, ?_, ?_, ?_, ?_, ?_, ?_, ?_, ?_⟩
  · exact (h.sS.keptI (hst _ (by decide)).kp).monoI fun _ hk => hk.step (hst _ (by decide))
  · have hn1 := (h.nm.kept (row := none) (World.grownBy_alloc W _ _) (by simp)).kept hg (fun e => by have := (hrb _ e.symm).1; omega)
    exact hn1.kept (row := some (w0.heap.size + 1)) (grown_set (World.grownBy.refl _ _) _ _ (Or.inl rfl)) (by simp)

  · rw [List.length_append, snoc_flat]
    exact ownsRow_setCell_below ho (by simp) _
  · intro z hz
    rcases List.mem_append.1 hz with hz | hz
    · exact ⟨(h.aF z hz).1, (h.aF z hz).2.stp (hst _ (by decide)) fun _ _ _ _ _ _ h => h⟩
    · rw [List.mem_singleton] at hz
      subst hz
      exact ⟨rfl, RSl.stp ⟨u, rfl, hu⟩ (hst _ (by decide)) fun _ _ _ _ _ _ h => h⟩
  · exact ownsRow_setCell_below ((h.oN.alloc _).kept hg (own_types h.oN h.oF (by decide))) (by simp) _
  · exact fun z hz => ⟨(h.aN z hz).1, (h.aN z hz).2.stp (hst _ (by decide)) fun _ _ _ _ _ _ h => h⟩
  · exact ownsRow_setCell_below ((h.oT.alloc _).kept hg (own_types h.oT h.oF (by decide))) (by simp) _
  · exact fun z hz => ⟨(h.aT z hz).1, (h.aT z hz).2.stp (hst _ (by decide)) fun _ _ _ _ _ _ h => h⟩
  · exact ownsRow_setCell_below ((h.oL.alloc _).kept hg (own_types h.oL h.oF (by decide))) (by simp) _
  · exact fun z hz => ⟨(h.aL z hz).1, (h.aL z hz).2.stp (hst _ (by decide)) fun _ _ _ _ _ _ h => h⟩
set_option maxHeartbeats 1000000 in
theorem Wv.addN {w0 W : World} {l : List ClassD} {vC vS vF vN vT vL : Value} {zF : List (List Value × List FieldD)} {zN : List (List Value × List ByteArray)} {zT : List (List Value × List TargD)} {zL : List (List Value × List Nat)} (h : Wv w0 W l vC vS vF vN vT vL zF zN zT zL) {u : Value} {x : List ByteArray} (hu : SL 1 RS (MT w0.heap.size [9] W) W u x) {w1 : World} {v' : Value}
    (ho : w1.ownsRow (w0.heap.size + 2) 85 1 v' (zN.length + 1) (zN.flatMap (·.1) ++ [u])) (hg : (W.alloc (.cells #[u] 85)).grownBy w1 vN.ownBlock) :
    Wv w0 (w1.setCell ⟨w0.heap.size + 1, 3, none⟩ v') l vC vS vF v' vT vL zF (zN ++ [([u], x)]) zT zL := by
  have hlt := h.lt
  have hrb : ∀ q, vN.ownBlock = some q → w0.heap.size + 2 ≤ q ∧ q < W.heap.size := fun q e => h.oN.lt q e
  have hb1 : w1.heap[w0.heap.size + 1]? = some (.cells #[vC, vS, vF, vN, vT, .map (some w0.heap.size), vL] 48 (0, 0)) := by
    rw [hg.block (w0.heap.size + 1) (by simp; omega) (fun e => by have := (hrb _ e.symm).1; omega), Below.heap_alloc _ _ _ hlt]
    exact h.blk
  have hst : ∀ t, t ∉ [85, 48] → Stp w0.heap.size [t] W (w1.setCell ⟨w0.heap.size + 1, 3, none⟩ v') := fun t ht =>
    (((Stp.refl _ _ _).alloc _).trans (Stp.row hg (h.oN.alloc _) (fun e => ht (by simp at e; simp [e])))).trans (Stp.set hb1 (fun e => ht (by simp at e; simp [← e])) 3 v')
  have hB1 : Below w0.heap.size w0 w1 := (h.below.alloc h.below.size _).grown hg (by have := h.below.size; simp; omega) (fun q e => by have := (hrb q e).1; omega)
  refine ⟨hB1.setCell (by simp) _, heap_set hb1 v', ?_, ?_, ?_, ?_, ?_, ?_, ?_, ?_, ?_, ?_⟩
  · exact (h.sS.keptI (hst _ (by decide)).kp).monoI fun _ hk => hk.step (hst _ (by decide))
  · have hn1 := (h.nm.kept (row := none) (World.grownBy_alloc W _ _) (by simp)).kept hg (fun e => by have := (hrb _ e.symm).1; omega)
    exact hn1.kept (row := some (w0.heap.size + 1)) (grown_set (World.grownBy.refl _ _) _ _ (Or.inl rfl)) (by simp)

  · exact ownsRow_setCell_below ((h.oF.alloc _).kept hg (own_types h.oF h.oN (by decide))) (by simp) _
  · exact fun z hz => ⟨(h.aF z hz).1, (h.aF z hz).2.stp (hst _ (by decide)) fun _ _ _ _ _ _ h => h⟩
  · rw [List.length_append, snoc_flat]
    exact ownsRow_setCell_below ho (by simp) _
  · intro z hz
    rcases List.mem_append.1 hz with hz | hz
    · exact ⟨(h.aN z hz).1, (h.aN z hz).2.stp (hst _ (by decide)) fun _ _ _ _ _ _ h => h⟩
    · rw [List.mem_singleton] at hz
      subst hz
      exact ⟨rfl, RSl.stp ⟨u, rfl, hu⟩ (hst _ (by decide)) fun _ _ _ _ _ _ h => h⟩
  · exact ownsRow_setCell_below ((h.oT.alloc _).kept hg (own_types h.oT h.oN (by decide))) (by simp) _
  · exact fun z hz => ⟨(h.aT z hz).1, (h.aT z hz).2.stp (hst _ (by decide)) fun _ _ _ _ _ _ h => h⟩
  · exact ownsRow_setCell_below ((h.oL.alloc _).kept hg (own_types h.oL h.oN (by decide))) (by simp) _
  · exact fun z hz => ⟨(h.aL z hz).1, (h.aL z hz).2.stp (hst _ (by decide)) fun _ _ _ _ _ _ h => h⟩
set_option maxHeartbeats 1000000 in
theorem Wv.addT {w0 W : World} {l : List ClassD} {vC vS vF vN vT vL : Value} {zF : List (List Value × List FieldD)} {zN : List (List Value × List ByteArray)} {zT : List (List Value × List TargD)} {zL : List (List Value × List Nat)} (h : Wv w0 W l vC vS vF vN vT vL zF zN zT zL) {u : Value} {x : List TargD} (hu : SL 2 RT (MT w0.heap.size [109] W) W u x) {w1 : World} {v' : Value}
    (ho : w1.ownsRow (w0.heap.size + 2) 86 1 v' (zT.length + 1) (zT.flatMap (·.1) ++ [u])) (hg : (W.alloc (.cells #[u] 86)).grownBy w1 vT.ownBlock) :
    Wv w0 (w1.setCell ⟨w0.heap.size + 1, 4, none⟩ v') l vC vS vF vN v' vL zF zN (zT ++ [([u], x)]) zL := by
  have hlt := h.lt
  have hrb : ∀ q, vT.ownBlock = some q → w0.heap.size + 2 ≤ q ∧ q < W.heap.size := fun q e => h.oT.lt q e
  have hb1 : w1.heap[w0.heap.size + 1]? = some (.cells #[vC, vS, vF, vN, vT, .map (some w0.heap.size), vL] 48 (0, 0)) := by
    rw [hg.block (w0.heap.size + 1) (by simp; omega) (fun e => by have := (hrb _ e.symm).1; omega), Below.heap_alloc _ _ _ hlt]
    exact h.blk
  have hst : ∀ t, t ∉ [86, 48] → Stp w0.heap.size [t] W (w1.setCell ⟨w0.heap.size + 1, 4, none⟩ v') := fun t ht =>
    (((Stp.refl _ _ _).alloc _).trans (Stp.row hg (h.oT.alloc _) (fun e => ht (by simp at e; simp [e])))).trans (Stp.set hb1 (fun e => ht (by simp at e; simp [← e])) 4 v')
  have hB1 : Below w0.heap.size w0 w1 := (h.below.alloc h.below.size _).grown hg (by have := h.below.size; simp; omega) (fun q e => by have := (hrb q e).1; omega)
  refine ⟨hB1.setCell (by simp) _, heap_set hb1 v', ?_, ?_, ?_, ?_, ?_, ?_, ?_, ?_, ?_, ?_⟩
  · exact (h.sS.keptI (hst _ (by decide)).kp).monoI fun _ hk => hk.step (hst _ (by decide))
  · have hn1 := (h.nm.kept (row := none) (World.grownBy_alloc W _ _) (by simp)).kept hg (fun e => by have := (hrb _ e.symm).1; omega)
    exact hn1.kept (row := some (w0.heap.size + 1)) (grown_set (World.grownBy.refl _ _) _ _ (Or.inl rfl)) (by simp)

  · exact ownsRow_setCell_below ((h.oF.alloc _).kept hg (own_types h.oF h.oT (by decide))) (by simp) _
  · exact fun z hz => ⟨(h.aF z hz).1, (h.aF z hz).2.stp (hst _ (by decide)) fun _ _ _ _ _ _ h => h⟩
  · exact ownsRow_setCell_below ((h.oN.alloc _).kept hg (own_types h.oN h.oT (by decide))) (by simp) _
  · exact fun z hz => ⟨(h.aN z hz).1, (h.aN z hz).2.stp (hst _ (by decide)) fun _ _ _ _ _ _ h => h⟩
  · rw [List.length_append, snoc_flat]
    exact ownsRow_setCell_below ho (by simp) _
  · intro z hz
    rcases List.mem_append.1 hz with hz | hz
    · exact ⟨(h.aT z hz).1, (h.aT z hz).2.stp (hst _ (by decide)) fun _ _ _ _ _ _ h => h⟩
    · rw [List.mem_singleton] at hz
      subst hz
      exact ⟨rfl, RSl.stp ⟨u, rfl, hu⟩ (hst _ (by decide)) fun _ _ _ _ _ _ h => h⟩
  · exact ownsRow_setCell_below ((h.oL.alloc _).kept hg (own_types h.oL h.oT (by decide))) (by simp) _
  · exact fun z hz => ⟨(h.aL z hz).1, (h.aL z hz).2.stp (hst _ (by decide)) fun _ _ _ _ _ _ h => h⟩
set_option maxHeartbeats 1000000 in
theorem Wv.addL {w0 W : World} {l : List ClassD} {vC vS vF vN vT vL : Value} {zF : List (List Value × List FieldD)} {zN : List (List Value × List ByteArray)} {zT : List (List Value × List TargD)} {zL : List (List Value × List Nat)} (h : Wv w0 W l vC vS vF vN vT vL zF zN zT zL) {u : Value} {x : List Nat} (hu : SL 1 RO (MT w0.heap.size [3] W) W u x) {w1 : World} {v' : Value}
    (ho : w1.ownsRow (w0.heap.size + 2) 24 1 v' (zL.length + 1) (zL.flatMap (·.1) ++ [u])) (hg : (W.alloc (.cells #[u] 24)).grownBy w1 vL.ownBlock) :
    Wv w0 (w1.setCell ⟨w0.heap.size + 1, 6, none⟩ v') l vC vS vF vN vT v' zF zN zT (zL ++ [([u], x)]) := by
  have hlt := h.lt
  have hrb : ∀ q, vL.ownBlock = some q → w0.heap.size + 2 ≤ q ∧ q < W.heap.size := fun q e => h.oL.lt q e
  have hb1 : w1.heap[w0.heap.size + 1]? = some (.cells #[vC, vS, vF, vN, vT, .map (some w0.heap.size), vL] 48 (0, 0)) := by
    rw [hg.block (w0.heap.size + 1) (by simp; omega) (fun e => by have := (hrb _ e.symm).1; omega), Below.heap_alloc _ _ _ hlt]
    exact h.blk
  have hst : ∀ t, t ∉ [24, 48] → Stp w0.heap.size [t] W (w1.setCell ⟨w0.heap.size + 1, 6, none⟩ v') := fun t ht =>
    (((Stp.refl _ _ _).alloc _).trans (Stp.row hg (h.oL.alloc _) (fun e => ht (by simp at e; simp [e])))).trans (Stp.set hb1 (fun e => ht (by simp at e; simp [← e])) 6 v')
  have hB1 : Below w0.heap.size w0 w1 := (h.below.alloc h.below.size _).grown hg (by have := h.below.size; simp; omega) (fun q e => by have := (hrb q e).1; omega)
  refine ⟨hB1.setCell (by simp) _, heap_set hb1 v', ?_, ?_, ?_, ?_, ?_, ?_, ?_, ?_, ?_, ?_⟩
  · exact (h.sS.keptI (hst _ (by decide)).kp).monoI fun _ hk => hk.step (hst _ (by decide))
  · have hn1 := (h.nm.kept (row := none) (World.grownBy_alloc W _ _) (by simp)).kept hg (fun e => by have := (hrb _ e.symm).1; omega)
    exact hn1.kept (row := some (w0.heap.size + 1)) (grown_set (World.grownBy.refl _ _) _ _ (Or.inl rfl)) (by simp)

  · exact ownsRow_setCell_below ((h.oF.alloc _).kept hg (own_types h.oF h.oL (by decide))) (by simp) _
  · exact fun z hz => ⟨(h.aF z hz).1, (h.aF z hz).2.stp (hst _ (by decide)) fun _ _ _ _ _ _ h => h⟩
  · exact ownsRow_setCell_below ((h.oN.alloc _).kept hg (own_types h.oN h.oL (by decide))) (by simp) _
  · exact fun z hz => ⟨(h.aN z hz).1, (h.aN z hz).2.stp (hst _ (by decide)) fun _ _ _ _ _ _ h => h⟩
  · exact ownsRow_setCell_below ((h.oT.alloc _).kept hg (own_types h.oT h.oL (by decide))) (by simp) _
  · exact fun z hz => ⟨(h.aT z hz).1, (h.aT z hz).2.stp (hst _ (by decide)) fun _ _ _ _ _ _ h => h⟩
  · rw [List.length_append, snoc_flat]
    exact ownsRow_setCell_below ho (by simp) _
  · intro z hz
    rcases List.mem_append.1 hz with hz | hz
    · exact ⟨(h.aL z hz).1, (h.aL z hz).2.stp (hst _ (by decide)) fun _ _ _ _ _ _ h => h⟩
    · rw [List.mem_singleton] at hz
      subst hz
      exact ⟨rfl, RSl.stp ⟨u, rfl, hu⟩ (hst _ (by decide)) fun _ _ _ _ _ _ h => h⟩
/-- A web that was woven. -/
theorem Wv.rowsF {w0 W : World} {l : List ClassD} {vC vS vF vN vT vL : Value} {zF : List (List Value × List FieldD)} {zN : List (List Value × List ByteArray)} {zT : List (List Value × List TargD)} {zL : List (List Value × List Nat)} (h : Wv w0 W l vC vS vF vN vT vL zF zN zT zL) (hl : zF.length ≤ 1000) : SL 1 (RSl 3 RF) (MT w0.heap.size [69, 65] W) W vF (zF.map (·.2)) :=
  own_SL (n := 1) (R := RSl 3 RF) (T := [69, 65]) (own_lower h.oF (B' := w0.heap.size) (by omega)) (fun z hz => ⟨(h.aF z hz).1, by
    obtain ⟨v, e, hs⟩ := (h.aF z hz).2
    exact ⟨v, e, hs.mono (fun _ hk => hk.more (Nat.le_refl _) (fun _ ht => by simp at ht; simp [ht])) fun _ _ h => h⟩⟩) (by simp) (by unfold maxLen; omega)
theorem Wv.rowsN {w0 W : World} {l : List ClassD} {vC vS vF vN vT vL : Value} {zF : List (List Value × List FieldD)} {zN : List (List Value × List ByteArray)} {zT : List (List Value × List TargD)} {zL : List (List Value × List Nat)} (h : Wv w0 W l vC vS vF vN vT vL zF zN zT zL) (hl : zN.length ≤ 1000) : SL 1 (RSl 1 RS) (MT w0.heap.size [9, 85] W) W vN (zN.map (·.2)) :=
  own_SL (n := 1) (R := RSl 1 RS) (T := [9, 85]) (own_lower h.oN (B' := w0.heap.size) (by omega)) (fun z hz => ⟨(h.aN z hz).1, by
    obtain ⟨v, e, hs⟩ := (h.aN z hz).2
    exact ⟨v, e, hs.mono (fun _ hk => hk.more (Nat.le_refl _) (fun _ ht => by simp at ht; simp [ht])) fun _ _ h => h⟩⟩) (by simp) (by unfold maxLen; omega)
theorem Wv.rowsT {w0 W : World} {l : List ClassD} {vC vS vF vN vT vL : Value} {zF : List (List Value × List FieldD)} {zN : List (List Value × List ByteArray)} {zT : List (List Value × List TargD)} {zL : List (List Value × List Nat)} (h : Wv w0 W l vC vS vF vN vT vL zF zN zT zL) (hl : zT.length ≤ 1000) : SL 1 (RSl 2 RT) (MT w0.heap.size [109, 86] W) W vT (zT.map (·.2)) :=
  own_SL (n := 1) (R := RSl 2 RT) (T := [109, 86]) (own_lower h.oT (B' := w0.heap.size) (by omega)) (fun z hz => ⟨(h.aT z hz).1, by
    obtain ⟨v, e, hs⟩ := (h.aT z hz).2
    exact ⟨v, e, hs.mono (fun _ hk => hk.more (Nat.le_refl _) (fun _ ht => by simp at ht; simp [ht])) fun _ _ h => h⟩⟩) (by simp) (by unfold maxLen; omega)
theorem Wv.rowsL {w0 W : World} {l : List ClassD} {vC vS vF vN vT vL : Value} {zF : List (List Value × List FieldD)} {zN : List (List Value × List ByteArray)} {zT : List (List Value × List TargD)} {zL : List (List Value × List Nat)} (h : Wv w0 W l vC vS vF vN vT vL zF zN zT zL) (hl : zL.length ≤ 1000) : SL 1 (RSl 1 RO) (MT w0.heap.size [3, 24] W) W vL (zL.map (·.2)) :=
  own_SL (n := 1) (R := RSl 1 RO) (T := [3, 24]) (own_lower h.oL (B' := w0.heap.size) (by omega)) (fun z hz => ⟨(h.aL z hz).1, by
    obtain ⟨v, e, hs⟩ := (h.aL z hz).2
    exact ⟨v, e, hs.mono (fun _ hk => hk.more (Nat.le_refl _) (fun _ ht => by simp at ht; simp [ht])) fun _ _ h => h⟩⟩) (by simp) (by unfold maxLen; omega)
end Go.Proofs.YtkpklkhkhhlifacGreat
