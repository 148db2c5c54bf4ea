/- Rows that a reading makes: their blocks by their types, and what keeps them. -/
import Derived.Test.YtkhconnebiiboaaGreatDoorJChkClassLAsk
namespace Go.Proofs.YtkhconnebiiboaaGreatDoor
open Go.RowKit

/-- The blocks from one on that hold cells of some types. -/
def MT (B : Nat) (T : List Nat) (w : World) (k : Nat) : Prop := B ≤ k ∧ ∃ c t fr, w.heap[k]? = some (.cells c t fr) ∧ t ∈ T ∧ fr = (0, 0)
/-- Such blocks are kept. -/
structure Stp (B : Nat) (T : List Nat) (w w' : World) : Prop where
  size : w.heap.size ≤ w'.heap.size
  block : ∀ k, MT B T w k → w'.heap[k]? = w.heap[k]?
theorem MT.lt {B : Nat} {T : List Nat} {w : World} {k : Nat} (h : MT B T w k) : k < w.heap.size := by
  obtain ⟨_, c, t, fr, h, _⟩ := h
  exact (Array.getElem?_eq_some_iff.1 h).1
theorem MT.step {B : Nat} {T : List Nat} {w w' : World} {k : Nat} (h : MT B T w k) (hs : Stp B T w w') : MT B T w' k := by
  have e := hs.block k h
  obtain ⟨h1, c, t, fr, h2, h3⟩ := h
  exact ⟨h1, c, t, fr, e.trans h2, h3⟩
theorem MT.more {B B' : Nat} {T T' : List Nat} {w : World} {k : Nat} (h : MT B T w k) (hB : B' ≤ B) (hT : ∀ t ∈ T, t ∈ T') : MT B' T' w k := by
  obtain ⟨h1, c, t, fr, h2, h3⟩ := h
  exact ⟨Nat.le_trans hB h1, c, t, fr, h2, hT t h3.1, h3.2⟩
theorem Stp.kp {B : Nat} {T : List Nat} {w w' : World} (h : Stp B T w w') : Kp (MT B T w) w w' := ⟨h.size, fun b hb _ => h.block b hb⟩
theorem Stp.grown {B : Nat} {T : List Nat} {w w' : World} {b : Nat} (hg : w.grownBy w' (some b)) (hb : b < B) : Stp B T w w' := ⟨hg.size, fun k hk => hg.block k hk.lt (by have := hk.1; simp; omega)⟩
theorem Stp.row {B : Nat} {T : List Nat} {w w' : World} {v : Value} {B' e n len : Nat} {xs : List Value} (hg : w.grownBy w' v.ownBlock) (ho : w.ownsRow B' e n v len xs) (he : e ∉ T) : Stp B T w w' :=
  ⟨hg.size, fun k hk => hg.block k hk.lt (fun e' => by
    obtain ⟨_, c, t, fr, h2, h3⟩ := hk
    rcases ho.2 with ⟨rfl, _⟩ | ⟨g, cap, cur, rfl, _, h4, _⟩
    · cases e'
    · cases e'
      rw [h4] at h2
      cases h2
      exact he h3.1)⟩
theorem Stp.alloc {B : Nat} {T : List Nat} {w w' : World} (h : Stp B T w w') (o : Obj) : Stp B T w (w'.alloc o) :=
  ⟨Nat.le_trans h.size (by simp), fun k hk => (Below.heap_alloc _ _ _ (Nat.lt_of_lt_of_le hk.lt h.size)).trans (h.block k hk)⟩
theorem Stp.refl (B : Nat) (T : List Nat) (w : World) : Stp B T w w := ⟨Nat.le_refl _, fun _ _ => rfl⟩
theorem Stp.trans {B : Nat} {T : List Nat} {a b c : World} (h : Stp B T a b) (k : Stp B T b c) : Stp B T a c := ⟨Nat.le_trans h.size k.size, fun i hi => (k.block i (hi.step h)).trans (h.block i hi)⟩
theorem Stp.set {B : Nat} {T : List Nat} {w : World} {k t : Nat} {c : Array Value} {fr : Nat × Nat} (h : w.heap[k]? = some (.cells c t fr)) (ht : t ∉ T) (j : Nat) (v : Value) : Stp B T w (w.setCell ⟨k, j, none⟩ v) :=
  ⟨by simp [World.setCell], fun i hi => Below.heap_setCell _ _ _ _ (fun e => by
    obtain ⟨_, c', t', fr', h2, h3⟩ := hi
    rw [show i = k from e, h] at h2
    cases h2
    exact ht h3.1)⟩
theorem Stp.below {B : Nat} {T : List Nat} {w w' : World} (h : Below w.heap.size w w') : Stp B T w w' := ⟨h.size, fun k hk => h.block k hk.lt⟩
theorem SL.stpK {B : Nat} {T : List Nat} {w w' : World} {v : Value} {l : List KindD} (h : SL 2 RK (MT B T w) w v l) (hs : Stp B T w w') : SL 2 RK (MT B T w') w' v l := (h.keptK hs.kp).monoK fun _ hk => hk.step hs
theorem SL.stpF {B : Nat} {T : List Nat} {w w' : World} {v : Value} {l : List FieldD} (h : SL 3 RF (MT B T w) w v l) (hs : Stp B T w w') : SL 3 RF (MT B T w') w' v l := (h.keptF hs.kp).monoF fun _ hk => hk.step hs
theorem SL.stpH {B : Nat} {T : List Nat} {w w' : World} {v : Value} {l : List HandD} (h : SL 4 RH (MT B T w) w v l) (hs : Stp B T w w') : SL 4 RH (MT B T w') w' v l := (h.keptH hs.kp).monoH fun _ hk => hk.step hs
theorem SL.stpM {B : Nat} {T : List Nat} {w w' : World} {v : Value} {l : List MethD} (h : SL 9 RM (MT B T w) w v l) (hs : Stp B T w w') : SL 9 RM (MT B T w') w' v l := (h.keptM hs.kp).monoM fun _ hk => hk.step hs
theorem RM.stp {B : Nat} {T : List Nat} {w w' : World} {cs : List Value} {m : MethD} (h : RM (MT B T w) w cs m) (hs : Stp B T w w') : RM (MT B T w') w' cs m := (h.kept hs.kp).mono fun _ hk => hk.step hs
theorem RC.stp {B : Nat} {T : List Nat} {w w' : World} {cs : List Value} {m : ClassD} (h : RC (MT B T w) w cs m) (hs : Stp B T w w') : RC (MT B T w') w' cs m := (h.kept hs.kp).mono fun _ hk => hk.step hs

theorem flat_get {α : Type} {n : Nat} (f : α → List Value) : ∀ (zs : List α) (k j : Nat), (∀ z ∈ zs, (f z).length = n) → (hk : k < zs.length) → j < n → (zs.flatMap f)[k * n + j]? = (f zs[k])[j]?
  | [], k, j, _, hk, _ => by cases hk
  | z :: zs, k, j, h, hk, hj => by
    have h0 := h z (by simp)
    rw [List.flatMap_cons]
    match k, hk with
    | 0, _ =>
      rw [List.getElem?_append_left (by omega)]
      simp
    | k + 1, hk =>
      rw [List.getElem?_append_right (by rw [h0, Nat.add_mul]; omega), h0, show (k + 1) * n + j - n = k * n + j by rw [Nat.add_mul]; omega]
      exact flat_get f zs k j (fun y hy => h y (by simp [hy])) (by simpa using hk) hj
/-- A row of the call's own holds what was put there. -/
theorem own_SL {α : Type} {n : Nat} {R : (Nat → Prop) → World → List Value → α → Prop} {B e : Nat} {T : List Nat} {w : World} {v : Value} {zs : List (List Value × α)} (ho : w.ownsRow B e n v zs.length (zs.flatMap (·.1)))
    (h : ∀ z ∈ zs, z.1.length = n ∧ R (MT B T w) w z.1 z.2) (he : e ∈ T) (hl : zs.length ≤ maxLen) : SL n R (MT B T w) w v (zs.map (·.2)) := by
  rcases ho.2 with ⟨rfl, hn⟩ | ⟨g, cap, cur, rfl, hB, hg, hc, _⟩
  · have : zs = [] := List.eq_nil_of_length_eq_zero hn
    subst this
    exact ⟨none, 0, rfl, Nat.le_refl _, hl, fun k hk => by cases hk⟩
  · refine ⟨some ⟨g, 0, none⟩, cap, by simp, by simpa using hc, by simpa using hl, fun k hk => ?_⟩
    have hk' : k < zs.length := by simpa using hk
    have hz := h _ (List.getElem_mem hk')
    refine ⟨g, 0, zs[k].1, rfl, ⟨hB, cur, e, _, hg, he, rfl⟩, (Array.getElem?_eq_some_iff.1 hg).1, hz.1, fun j hj => ?_, by simpa using hz.2⟩
    have hj' : j < zs[k].1.length := by omega
    have := ho.cells (g := g) rfl (k * n + j) (zs[k].1[j]) (by rw [flat_get (n := n) (fun z : List Value × α => z.1) zs k j (fun z hz' => (h z hz').1) hk' hj]; simp [hj'])
    rw [List.getElem?_eq_getElem hj', ← this]
    simp [Addr.add]
    split
    · rename_i hz0
      rw [hz0.1, hz0.2]
    · rfl
theorem pCount_lt {s : ByteArray} {p n q : Nat} (h : pCount s p = some (n, q)) : n ≤ 255 := by
  unfold pCount at h
  split at h
  · cases h
    have := bt_lt s p
    omega
  · cases h
theorem pCounted_some {α : Type} {s : ByteArray} {f : Nat → Option (α × Nat)} {p n q : Nat} (h : pCount s p = some (n, q)) : pCounted s f p = pMany f n q := by rw [pCounted, h]; rfl
theorem snoc_flat {α : Type} (zs : List (List Value × α)) (c : List Value) (x : α) : (zs ++ [(c, x)]).flatMap (·.1) = zs.flatMap (·.1) ++ c := by simp
end Go.Proofs.YtkhconnebiiboaaGreatDoor
