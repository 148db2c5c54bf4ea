/- The contract of the document's own reader on kinds. -/
import Derived.Test.YtkpklkhkhhlifaaSc2
namespace Go.Proofs.Ytkpklkhkhhlifaa
open Go.RowKit

theorem Sc.setOther {w : World} {X : Nat} {s : ByteArray} {p : Nat} {b : Bool} (h : Sc w X s p b) (a : Addr) (v : Value) (ha : X ≠ a.block) : Sc (w.setCell a v) X s p b := h.kept (Below.heap_setCell _ _ _ _ ha)
theorem Sc.alloc {w : World} {X : Nat} {s : ByteArray} {p : Nat} {b : Bool} (h : Sc w X s p b) (o : Obj) : Sc (w.alloc o) X s p b := h.kept (Below.heap_alloc _ _ _ h.lt)
theorem ScOut.from {α : Type} {w W w' : World} {X : Nat} {s : ByteArray} {b b' : Bool} {Q : Option (α × Nat)} {x : α} {p' : Nat} (h : ScOut W w' X s b Q x p' b') (hg : w.grownBy W (some X)) : ScOut w w' X s b Q x p' b' := ⟨grown_trans hg h.grown, h.sc, h.le, h.good, h.wrong⟩
theorem ScOut.on {α : Type} {w W w' : World} {X : Nat} {s : ByteArray} {b b' : Bool} {Q : Option (α × Nat)} {x : α} {p' : Nat} (h : ScOut w W X s b Q x p' b') (hg : w.grownBy w' (some X)) (hs : Sc w' X s p' b') : ScOut w w' X s b Q x p' b' := ⟨hg, hs, h.le, h.good, h.wrong⟩

theorem cell_ofR {W : World} {X t : Nat} {c : Array Value} (h : W.heap[X]? = some (.cells c t (0, 0))) (j : Nat) {x : Value} (hx : c[j]? = some x) : W.cell? ⟨X, j, none⟩ = some x := by
  simp [World.cell?, h, hx]
theorem blk_ltR {W : World} {X : Nat} {o : Obj} (h : W.heap[X]? = some o) : X < W.heap.size := (Array.getElem?_eq_some_iff.1 h).1
theorem set2_world (w1 : World) (N : Nat) (a c : Value) (o : Obj) {x y : Value} (n0 : w1.cell? ⟨N, 0, none⟩ = some x) (n1 : w1.cell? ⟨N, 1, none⟩ = some y) :
    w1.grownBy (((w1.setCell ⟨N, 0, none⟩ a).setCell ⟨N, 1, none⟩ c).alloc o) (some N) ∧ (((w1.setCell ⟨N, 0, none⟩ a).setCell ⟨N, 1, none⟩ c).alloc o).cell? ⟨N, 0, none⟩ = some a ∧
    (((w1.setCell ⟨N, 0, none⟩ a).setCell ⟨N, 1, none⟩ c).alloc o).cell? ⟨N, 1, none⟩ = some c := by
  have hlt : N < w1.heap.size := World.block_lt_of_cell? w1 _ n0
  refine ⟨?_, ?_, ?_⟩
  · refine grown_alloc ?_ _
    refine grown_set ?_ _ _ (Or.inl rfl)
    refine grown_set ?_ _ _ (Or.inl rfl)
    exact World.grownBy.refl _ _
  · rw [World.cell?_alloc_past _ _ _ (by simpa [World.setCell] using hlt), World.cell?_setCell_other _ _ _ _ (by simp), World.cell?_setCell_same _ _ _ n0]
  · rw [World.cell?_alloc_past _ _ _ (by simpa [World.setCell] using hlt)]
    exact World.cell?_setCell_same _ _ _ ((World.cell?_setCell_other _ _ _ _ (by simp)).trans n1)

set_option maxHeartbeats 2000000 in
theorem kind_s (w : World) (X : Nat) (s : ByteArray) (p : Nat) (b : Bool) (h : Sc w X s p b) (hp : p ≤ s.size) (hs : s.size ≤ 20000) :
    Calls Try.prog 35 #[.pointer (some ⟨X, 0, none⟩)] w fun r w' => ∃ (k : KindD) (p' : Nat) (b' : Bool), r = .returned (.agg #[.int .i64 k.kind, .string k.cls]) ∧ k.cls.size ≤ maxLen ∧ ScOut w w' X s b (pKind s p) k p' b' := by
  have hX := h.lt
  go_enter Try.func35, Try.ntmps35
  go_wp2_with fail
  have hg0 : w.grownBy (w.alloc (.cells #[.int .i64 0, .string ⟨#[]⟩] 51)) (some X) := grown_alloc (World.grownBy.refl _ _) _
  refine (count_s _ X s p b (h.alloc _) hp hs).mono ?_
  rintro r w1 ⟨n, p1, b1, rfl, hn, ho1⟩
  have eR : w1.heap[w.heap.size]? = some (.cells #[.int .i64 0, .string ⟨#[]⟩] 51 (0, 0)) := (ho1.grown.block w.heap.size (by simp) (by simp; omega)).trans (by show (w.heap.push _)[w.heap.size]? = _; exact Array.getElem?_push_size)
  have HER := mkHid eR
  have rl := blk_ltR eR
  have r0 := cell_ofR eR 0 (x := .int .i64 0) rfl
  have r1 := cell_ofR eR 1 (x := .string ⟨#[]⟩) rfl
  have f0 : w1.frozen? ⟨w.heap.size, 0, none⟩ = false := by simp [World.frozen?, eR]
  have f1 : w1.frozen? ⟨w.heap.size, 1, none⟩ = false := by simp [World.frozen?, eR]
  have HO1 := mkHid (ho1.from hg0)
  clear ho1 hg0 eR
  cases hc : hasCls (n : Int)
  · have b3 : ((n : Int) == 3) = false := by simp [hasCls] at hc; simp; omega
    have b4 : ((n : Int) == 4) = false := by simp [hasCls] at hc; simp; omega
    have HK := mkHid (HO1.out.two (K := fun x : Nat × Nat => if hasCls x.1 = true then (pText s x.2).bind fun y => some ((⟨x.1, y.1⟩ : KindD), y.2) else some (⟨x.1, ByteArray.empty⟩, x.2)) (y := ⟨n, ByteArray.empty⟩) (w2 := w1) (p2 := p1) (b2 := b1) ⟨World.grownBy.refl _ _, HO1.out.sc, HO1.out.le, fun hb => ⟨hb, by dsimp only; rw [if_neg (by rw [hc]; decide)]⟩, fun hb => Or.inl hb⟩)
    clear hc
    go_wp2_with fail
    obtain ⟨hgf, q0, q1⟩ := set2_world w1 w.heap.size (.int .i64 n) (.string ⟨#[]⟩) (.cells #[.int .i64 n, .string ⟨#[]⟩] 51) r0 r1
    have hscf : Sc (((w1.setCell ⟨w.heap.size, 0, none⟩ (.int .i64 n)).setCell ⟨w.heap.size, 1, none⟩ (.string ⟨#[]⟩)).alloc (.cells #[.int .i64 n, .string ⟨#[]⟩] 51)) X s p1 b1 := ((HK.out.sc.setOther _ _ (by simp; omega)).setOther _ _ (by simp; omega)).alloc _
    have hgw : w.grownBy (((w1.setCell ⟨w.heap.size, 0, none⟩ (.int .i64 n)).setCell ⟨w.heap.size, 1, none⟩ (.string ⟨#[]⟩)).alloc (.cells #[.int .i64 n, .string ⟨#[]⟩] 51)) (some X) := grown_alloc (grown_set (grown_set HK.out.grown _ _ (Or.inr (Nat.le_refl _))) _ _ (Or.inr (Nat.le_refl _))) _
    generalize ((w1.setCell ⟨w.heap.size, 0, none⟩ (.int .i64 n)).setCell ⟨w.heap.size, 1, none⟩ (.string ⟨#[]⟩)).alloc (.cells #[.int .i64 n, .string ⟨#[]⟩] 51) = W9 at *
    exact bodyPost_ret (v := .agg #[.int .i64 n, .string ⟨#[]⟩]) (by simp [results, Try.results35, go_sem, q0, q1]) rfl ⟨⟨n, ByteArray.empty⟩, p1, b1, rfl, Nat.zero_le _, HK.out.on hgw hscf⟩
  · have h34 : ((n : Int) == 3) = true ∨ (((n : Int) == 3) = false ∧ ((n : Int) == 4) = true) := by
      have h : (n : Int) = 3 ∨ (n : Int) = 4 := by simpa [hasCls] using hc
      rcases h with h | h
      · exact Or.inl (by rw [h]; rfl)
      · exact Or.inr ⟨by rw [h]; rfl, by rw [h]; rfl⟩
    have HC := mkHid hc
    clear hc
    rcases h34 with b3 | ⟨b3, b4⟩
    all_goals
      go_wp2_with fail
      refine (text_s _ X s p1 b1 (HO1.out.sc.alloc _) HO1.out.le hs).mono ?_
      rintro r w2 ⟨t, p2, b2, rfl, ht, ho2⟩
      have hga : w1.grownBy (w1.alloc (.cells #[.int .i64 n, .string ⟨#[]⟩] 51)) (some X) := grown_alloc (World.grownBy.refl _ _) _
      have ho3 := ho2.from hga
      have HK := mkHid (HO1.out.two (K := fun x : Nat × Nat => if hasCls x.1 = true then (pText s x.2).bind fun y => some ((⟨x.1, y.1⟩ : KindD), y.2) else some (⟨x.1, ByteArray.empty⟩, x.2)) (y := ⟨n, t⟩) (ho3.map (fun e => by dsimp only; rw [if_pos HC.out, e]; rfl) (fun e => by dsimp only; rw [if_pos HC.out, e]; rfl)))
      have eL : w2.heap[w1.heap.size]? = some (.cells #[.int .i64 n, .string ⟨#[]⟩] 51 (0, 0)) := (ho2.grown.block w1.heap.size (by simp) (by have := HO1.out.sc.lt; simp; omega)).trans (by show (w1.heap.push _)[w1.heap.size]? = _; exact Array.getElem?_push_size)
      have eR2 : w2.heap[w.heap.size]? = some (.cells #[.int .i64 0, .string ⟨#[]⟩] 51 (0, 0)) := (ho3.grown.block w.heap.size rl (by simp; omega)).trans HER.out
      have ll := blk_ltR eL
      have hx0 := HO1.out.sc.lt
      have l0 := cell_ofR eL 0 (x := .int .i64 n) rfl
      have l1 := cell_ofR eL 1 (x := .string ⟨#[]⟩) rfl
      have g1 : w2.frozen? ⟨w1.heap.size, 1, none⟩ = false := by simp [World.frozen?, eL]
      have s0 := cell_ofR eR2 0 (x := .int .i64 0) rfl
      have s1 := cell_ofR eR2 1 (x := .string ⟨#[]⟩) rfl
      have u0 : w2.frozen? ⟨w.heap.size, 0, none⟩ = false := by simp [World.frozen?, eR2]
      have u1 : w2.frozen? ⟨w.heap.size, 1, none⟩ = false := by simp [World.frozen?, eR2]
      have rl2 := blk_ltR eR2
      have hne : w.heap.size ≠ w1.heap.size := by omega
      have hne' : w1.heap.size ≠ w.heap.size := by omega
      clear ho2 ho3 hga eL eR2
      go_wp2_with fail
      have hF : (((w2.setCell ⟨w1.heap.size, 1, none⟩ (.string t)).setCell ⟨w.heap.size, 0, none⟩ (.int .i64 n)).setCell ⟨w.heap.size, 1, none⟩ (.string t)).cell? ⟨w.heap.size, 0, none⟩ = some (.int .i64 n) ∧ (((w2.setCell ⟨w1.heap.size, 1, none⟩ (.string t)).setCell ⟨w.heap.size, 0, none⟩ (.int .i64 n)).setCell ⟨w.heap.size, 1, none⟩ (.string t)).cell? ⟨w.heap.size, 1, none⟩ = some (.string t) := by
        refine ⟨?_, ?_⟩
        · rw [World.cell?_setCell_other _ _ _ _ (by simp)]
          exact World.cell?_setCell_same _ _ _ ((World.cell?_setCell_other _ _ _ _ (by simp)).trans s0)
        · exact World.cell?_setCell_same _ _ _ ((World.cell?_setCell_other _ _ _ _ (by simp)).trans ((World.cell?_setCell_other _ _ _ _ (by simp)).trans s1))
      obtain ⟨q0, q1⟩ := hF
      have hscf : Sc (((w2.setCell ⟨w1.heap.size, 1, none⟩ (.string t)).setCell ⟨w.heap.size, 0, none⟩ (.int .i64 n)).setCell ⟨w.heap.size, 1, none⟩ (.string t)) X s p2 b2 := ((HK.out.sc.setOther _ _ (by simp; omega)).setOther _ _ (by simp; omega)).setOther _ _ (by simp; omega)
      have hgw : w.grownBy (((w2.setCell ⟨w1.heap.size, 1, none⟩ (.string t)).setCell ⟨w.heap.size, 0, none⟩ (.int .i64 n)).setCell ⟨w.heap.size, 1, none⟩ (.string t)) (some X) := grown_set (grown_set (grown_set HK.out.grown _ _ (Or.inr (by simp; omega))) _ _ (Or.inr (Nat.le_refl _))) _ _ (Or.inr (Nat.le_refl _))
      generalize ((w2.setCell ⟨w1.heap.size, 1, none⟩ (.string t)).setCell ⟨w.heap.size, 0, none⟩ (.int .i64 n)).setCell ⟨w.heap.size, 1, none⟩ (.string t) = W9 at *
      exact bodyPost_ret (v := .agg #[.int .i64 n, .string t]) (by simp [results, Try.results35, go_sem, q0, q1]) rfl ⟨⟨n, t⟩, p2, b2, rfl, ht, HK.out.on hgw hscf⟩
end Go.Proofs.Ytkpklkhkhhlifaa
