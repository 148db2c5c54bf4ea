/- The contract of Made, for any callee that makes a target. -/
import Derived.Test.YtkpklkhkhhlifabGreatLMade
namespace Go.Proofs.YtkpklkhkhhlifabGreat
open Go.RowKit Go.Maps

theorem two_set (w : World) (Q : Nat) (a b : Value) {x0 x1 : Value} (h0 : w.cell? ⟨Q, 0, none⟩ = some x0) (h1 : w.cell? ⟨Q, 1, none⟩ = some x1) :
    w.grownBy ((w.setCell ⟨Q, 0, none⟩ a).setCell ⟨Q, 1, none⟩ b) (some Q) ∧ ((w.setCell ⟨Q, 0, none⟩ a).setCell ⟨Q, 1, none⟩ b).cell? ⟨Q, 0, none⟩ = some a ∧ ((w.setCell ⟨Q, 0, none⟩ a).setCell ⟨Q, 1, none⟩ b).cell? ⟨Q, 1, none⟩ = some b :=
  ⟨grown_set (grown_set (World.grownBy.refl _ _) _ _ (Or.inl rfl)) _ _ (Or.inl rfl), (by rw [World.cell?_setCell_other _ _ _ _ (by simp), World.cell?_setCell_same _ _ _ h0]), World.cell?_setCell_same _ _ _ ((World.cell?_setCell_other _ _ _ _ (by simp)).trans h1)⟩
theorem grown_frz {w w' : World} {Q : Nat} (h : w.grownBy w' (some Q)) {b j : Nat} (hb : b < w.heap.size) (hne : b ≠ Q) : w'.frozen? ⟨b, j, none⟩ = w.frozen? ⟨b, j, none⟩ :=
  World.frozen?_of_block (a := ⟨b, j, none⟩) (h.block b hb (by simp; omega))

set_option maxHeartbeats 1000000 in
theorem made1T_any (w : World) (g : Nat) (cap : Array Value) (Ok : Value → World → Prop) (No : Int → Int → Prop) (Pf Q : Nat) (x0 x1 : Value) (hcf : ∀ args w, (callFunc g args).run Tryz.prog w = .ok (.enter g args) w)
    (hpf : w.cell? ⟨Pf, 0, none⟩ = some (.func (.func g) #[] cap)) (hq0 : w.cell? ⟨Q, 0, none⟩ = some x0) (hq1 : w.cell? ⟨Q, 1, none⟩ = some x1) (hz : ∀ j, w.frozen? ⟨Q, j, none⟩ = false)
    (hc : Calls Tryz.prog g cap w fun r W' => Below w.heap.size w W' ∧ ((∃ v, r = .returned v ∧ (∃ a b, v = .agg #[.int .i64 a, .int .i64 b]) ∧ Ok v W') ∨ ∃ e p, r = .panicked [wrongV e p] ∧ No e p)) :
    Calls Tryz.prog 62 #[.pointer (some ⟨Pf, 0, none⟩), .pointer (some ⟨Q, 0, none⟩)] w fun r w' =>
      (r = .returned (.tuple #[]) ∧ ∃ (a b : Int) (W' : World), Ok (.agg #[.int .i64 a, .int .i64 b]) W' ∧ w'.cell? ⟨Q, 0, none⟩ = some (.int .i64 a) ∧ w'.cell? ⟨Q, 1, none⟩ = some (.int .i64 b) ∧ w.grownBy w' (some Q) ∧ W'.grownBy w' (some Q) ∧ Below w.heap.size w W') ∨
      (∃ e p, r = .panicked [wrongV e p] ∧ No e p ∧ Below w.heap.size w w') := by
  have hQ : Q < w.heap.size := World.block_lt_of_cell? w _ hq0
  have HC := mkHid hc
  clear hc
  go_enter Tryz.func62, Tryz.ntmps62
  go_wp2_with fail
  refine HC.out.mono ?_
  rintro r w1 ⟨hb, ⟨v, rfl, ⟨a, b, rfl⟩, hok⟩ | ⟨e, p, rfl, hno⟩⟩
  rotate_left
  · exact ⟨rfl, Or.inr ⟨e, p, rfl, hno, hb⟩⟩
  have hq2 : w1.cell? ⟨Q, 0, none⟩ = some x0 := (hb.cell (p := ⟨Q, 0, none⟩) hQ).trans hq0
  have hq3 : w1.cell? ⟨Q, 1, none⟩ = some x1 := (hb.cell (p := ⟨Q, 1, none⟩) hQ).trans hq1
  have hz1 : ∀ j, w1.frozen? ⟨Q, j, none⟩ = false := fun j => (hb.frozen (p := ⟨Q, j, none⟩) hQ).trans (hz j)
  have HT := mkHid (two_set w1 Q (.int .i64 a) (.int .i64 b) hq2 hq3)
  have HG0 : Hid (w.grownBy w1 (some Q)) := ⟨hb.os, hb.tape, hb.output, hb.size, fun k hk _ => hb.block k hk⟩
  have HOK := mkHid hok
  have HB := mkHid hb
  clear hok hb hq0 hq1 hz HC
  go_wp2
  go_end0
  exact Or.inl ⟨rfl, _, _, w1, HOK.out, HT.out.2.1, HT.out.2.2, HG0.out.trans HT.out.1, HT.out.1, HB.out⟩

theorem callMadeT (args : Array Value) (w : World) : (callFunc 62 args).run Tryz.prog w = .ok (.enter 62 args) w := by kernel_rfl

theorem afterMadeT (w w1 : World) (x : Value) (h : (((((w.alloc (.cells #[x] 92)).alloc (.cells #[.int .i64 0, .int .i64 0] 40)).alloc (.cells #[.int .i64 0, .int .i64 0] 82)).alloc (.cells #[.int .i64 0, .int .i64 0] 40)).alloc (.cells #[.int .i64 0, .int .i64 0] 82)).grownBy w1 (some (w.heap.size + 3))) :
    w1.heap[w.heap.size + 4]? = some (.cells #[.int .i64 0, .int .i64 0] 82 (0, 0)) ∧ Below w.heap.size w w1 ∧ (w1.cell? ⟨w.heap.size + 1, 0, none⟩ = some (.int .i64 0) ∧ w1.cell? ⟨w.heap.size + 1, 1, none⟩ = some (.int .i64 0) ∧ ∀ j, w1.frozen? ⟨w.heap.size + 1, j, none⟩ = false) ∧
      (w1.cell? ⟨w.heap.size + 2, 0, none⟩ = some (.int .i64 0) ∧ w1.cell? ⟨w.heap.size + 2, 1, none⟩ = some (.int .i64 0) ∧ ∀ j, w1.frozen? ⟨w.heap.size + 2, j, none⟩ = false) ∧ w.heap.size + 5 ≤ w1.heap.size := by
  have hB0 : Below w.heap.size w (((((w.alloc (.cells #[x] 92)).alloc (.cells #[.int .i64 0, .int .i64 0] 40)).alloc (.cells #[.int .i64 0, .int .i64 0] 82)).alloc (.cells #[.int .i64 0, .int .i64 0] 40)).alloc (.cells #[.int .i64 0, .int .i64 0] 82)) := (((((Below.refl _ _).alloc (Nat.le_refl _) _).alloc (by simp) _).alloc (by simp; omega) _).alloc (by simp; omega) _).alloc (by simp; omega) _
  have hz : (((((w.alloc (.cells #[x] 92)).alloc (.cells #[.int .i64 0, .int .i64 0] 40)).alloc (.cells #[.int .i64 0, .int .i64 0] 82)).alloc (.cells #[.int .i64 0, .int .i64 0] 40)).alloc (.cells #[.int .i64 0, .int .i64 0] 82)).heap.size = w.heap.size + 5 := by simp
  refine ⟨?_, below_of_grown hB0 h (by omega), ⟨?_, ?_, ?_⟩, ⟨?_, ?_, ?_⟩, by rw [← hz]; exact h.size⟩
  · rw [h.block (w.heap.size + 4) (by omega) (by simp)]
    show (((((w.heap.push _).push _).push _).push _).push _)[w.heap.size + 4]? = _
    rw [Array.getElem?_push, if_pos (by simp)]
  · exact h.cell (a := ⟨w.heap.size + 1, 0, none⟩) (by simp [go_sem]) (by simp)
  · exact h.cell (a := ⟨w.heap.size + 1, 1, none⟩) (by simp [go_sem]) (by simp)
  · intro j
    rw [World.frozen?_of_block (a := ⟨w.heap.size + 1, j, none⟩) (h.block (w.heap.size + 1) (by omega) (by simp))]
    simp [go_sem]
  · exact h.cell (a := ⟨w.heap.size + 2, 0, none⟩) (by simp [go_sem]) (by simp)
  · exact h.cell (a := ⟨w.heap.size + 2, 1, none⟩) (by simp [go_sem]) (by simp)
  · intro j
    rw [World.frozen?_of_block (a := ⟨w.heap.size + 2, j, none⟩) (h.block (w.heap.size + 2) (by omega) (by simp))]
    simp [go_sem]

/-- What both ways leave behind the catch. -/
structure AftT (w w1 : World) : Prop where
  B : Below w.heap.size w w1
  a0 : ∃ x, w1.cell? ⟨w.heap.size + 1, 0, none⟩ = some x
  a1 : ∃ x, w1.cell? ⟨w.heap.size + 1, 1, none⟩ = some x
  az : ∀ j, w1.frozen? ⟨w.heap.size + 1, j, none⟩ = false
  f0 : ∃ x, w1.cell? ⟨w.heap.size + 2, 0, none⟩ = some x
  f1 : ∃ x, w1.cell? ⟨w.heap.size + 2, 1, none⟩ = some x
  fz : ∀ j, w1.frozen? ⟨w.heap.size + 2, j, none⟩ = false
  sz : w.heap.size + 5 ≤ w1.heap.size
theorem AftT.grown {w w1 w2 : World} (h : AftT w w1) {q : Nat} (hg : w1.grownBy w2 (some (w.heap.size + q))) (hq : 3 ≤ q) : AftT w w2 :=
  have hs := h.sz
  ⟨below_of_grown h.B hg (by omega), h.a0.imp fun _ hx => hg.cell hx (by simp; omega), h.a1.imp fun _ hx => hg.cell hx (by simp; omega), fun j => (grown_frz hg (by omega) (by omega)).trans (h.az j), h.f0.imp fun _ hx => hg.cell hx (by simp; omega), h.f1.imp fun _ hx => hg.cell hx (by simp; omega), fun j => (grown_frz hg (by omega) (by omega)).trans (h.fz j), Nat.le_trans hs hg.size⟩

theorem finT {w w2 : World} (h : AftT w w2) (a b e p : Int) (o : Obj) : ∃ W9, W9 = ((((w2.setCell ⟨w.heap.size + 1, 0, none⟩ (.int .i64 a)).setCell ⟨w.heap.size + 1, 1, none⟩ (.int .i64 b)).setCell ⟨w.heap.size + 1 + 1, 0, none⟩ (.int .i64 e)).setCell ⟨w.heap.size + 1 + 1, 1, none⟩ (.int .i64 p)).alloc o ∧ Below w.heap.size w W9 ∧ Far w.heap.size (w.heap.size + 5) w2 W9 ∧ w.heap.size + 5 ≤ W9.heap.size ∧
    W9.cell? ⟨w.heap.size + 1, 0, none⟩ = some (.int .i64 a) ∧ W9.cell? ⟨w.heap.size + 1, 1, none⟩ = some (.int .i64 b) ∧ W9.cell? ⟨w.heap.size + 1 + 1, 0, none⟩ = some (.int .i64 e) ∧ W9.cell? ⟨w.heap.size + 1 + 1, 1, none⟩ = some (.int .i64 p) := by
  have hs := h.sz
  obtain ⟨x0, h0⟩ := h.a0
  obtain ⟨x1, h1⟩ := h.a1
  obtain ⟨y0, g0⟩ := h.f0
  obtain ⟨y1, g1⟩ := h.f1
  obtain ⟨G1, p0, p1⟩ := two_set w2 (w.heap.size + 1) (.int .i64 a) (.int .i64 b) h0 h1
  have s1 := G1.size
  generalize (w2.setCell ⟨w.heap.size + 1, 0, none⟩ (.int .i64 a)).setCell ⟨w.heap.size + 1, 1, none⟩ (.int .i64 b) = W1 at *
  obtain ⟨G2, q0, q1⟩ := two_set W1 (w.heap.size + 1 + 1) (.int .i64 e) (.int .i64 p) (G1.cell g0 (by simp)) (G1.cell g1 (by simp))
  have s2 := G2.size
  have t0 := G2.cell p0 (by simp)
  have t1 := G2.cell p1 (by simp)
  have hB : Below w.heap.size w _ := below_of_grown (below_of_grown h.B G1 (by omega)) G2 (by omega)
  have hF : Far w.heap.size (w.heap.size + 5) w2 _ := (Far.grown G1 (by omega) (by omega)).trans (Far.grown G2 (by omega) (by omega))
  generalize (W1.setCell ⟨w.heap.size + 1 + 1, 0, none⟩ (.int .i64 e)).setCell ⟨w.heap.size + 1 + 1, 1, none⟩ (.int .i64 p) = W2 at *
  have hA : Below W2.heap.size W2 (W2.alloc o) := (Below.refl _ _).alloc (Nat.le_refl _) _
  have up : ∀ (k j : Nat) (x : Value), k < W2.heap.size → W2.cell? ⟨k, j, none⟩ = some x → (W2.alloc o).cell? ⟨k, j, none⟩ = some x := fun k j x hk hx => (hA.cell (p := ⟨k, j, none⟩) hk).trans hx
  exact ⟨_, rfl, hB.trans (hA.mono hB.size), hF.trans (Far.below hA), by have := hA.size; omega, up _ _ _ (by omega) t0, up _ _ _ (by omega) t1, up _ _ _ (by omega) q0, up _ _ _ (by omega) q1⟩

set_option maxRecDepth 100000 in
set_option maxHeartbeats 2000000 in
theorem madeT_any (w : World) (g : Nat) (cap : Array Value) (Ok : Value → World → Prop) (No : Int → Int → Prop) (hcf : ∀ args w, (callFunc g args).run Tryz.prog w = .ok (.enter g args) w)
    (hc : ∀ W, Below w.heap.size w W → W.heap.size = w.heap.size + 5 → Calls Tryz.prog g cap W fun r W' => Below W.heap.size W W' ∧ ((∃ v, r = .returned v ∧ (∃ a b, v = .agg #[.int .i64 a, .int .i64 b]) ∧ Ok v W') ∨ ∃ e p, r = .panicked [wrongV e p] ∧ No e p))
    (hst : ∀ v W W', w.heap.size + 5 ≤ W.heap.size → Far w.heap.size (w.heap.size + 5) W W' → Ok v W → Ok v W') :
    Calls Tryz.prog 37 #[.func (.func g) #[] cap] w fun r w' => Below w.heap.size w w' ∧ w.heap.size + 5 ≤ w'.heap.size ∧
      ((∃ a b, r = .returned (.tuple #[.agg #[.int .i64 a, .int .i64 b], .agg #[.int .i64 0, .int .i64 0]]) ∧ Ok (.agg #[.int .i64 a, .int .i64 b]) w') ∨
       (∃ e p, r = .returned (.tuple #[.agg #[.int .i64 0, .int .i64 0], .agg #[.int .i64 e, .int .i64 p]]) ∧ No e p)) := by
  have hmf : ∀ (fn : Fn) (first cap : Array Value) (w : World), (Instr.makeFunc fn first cap).run Tryz.prog w = .ok (.func fn first cap) w := fun _ _ _ _ => rfl
  have hB0 : Below w.heap.size w ((((w.alloc (.cells #[.func (.func g) #[] cap] 92)).alloc (.cells #[.int .i64 0, .int .i64 0] 40)).alloc (.cells #[.int .i64 0, .int .i64 0] 82)).alloc (.cells #[.int .i64 0, .int .i64 0] 40)) := ((((Below.refl _ _).alloc (Nat.le_refl _) _).alloc (by simp) _).alloc (by simp; omega) _).alloc (by simp; omega) _
  have hB1 := hB0.alloc hB0.size (.cells #[.int .i64 0, .int .i64 0] 82)
  have HC := mkHid hc
  have HST := mkHid hst
  have HCF := mkHid hcf
  clear hc hst hcf
  go_enter Tryz.func37, Tryz.ntmps37
  go_wp2_with fail
  refine (caught_any 62 _ _ (fun w1 => ∃ a b : Int, w1.cell? ⟨w.heap.size + 3, 0, none⟩ = some (.int .i64 a) ∧ w1.cell? ⟨w.heap.size + 3, 1, none⟩ = some (.int .i64 b) ∧ Ok (.agg #[.int .i64 a, .int .i64 b]) w1 ∧ AftT w w1)
    (fun e p w1 => No e p ∧ w1.cell? ⟨w.heap.size + 3, 0, none⟩ = some (.int .i64 0) ∧ w1.cell? ⟨w.heap.size + 3, 1, none⟩ = some (.int .i64 0) ∧ AftT w w1) (callMadeT _) ?hc).mono ?_
  case hc =>
    refine (made1T_any _ g cap Ok No w.heap.size (w.heap.size + 3) (.int .i64 0) (.int .i64 0) HCF.out (by simp [go_sem]) (by simp [go_sem]) (by simp [go_sem]) (by intro j; simp [go_sem]) (HC.out _ hB1 (by simp))).mono ?_
    rintro r w1 (⟨rfl, a, b, W', hok, hc0, hc1, hg, hg0, hbw⟩ | ⟨e, p, rfl, hd, hb⟩)
    · obtain ⟨a1, a2, ⟨a3, a4, a5⟩, ⟨a6, a7, a8⟩, a9⟩ := afterMadeT w w1 _ hg
      refine ⟨by simpa using a1, Or.inl ⟨rfl, a, b, hc0, hc1, ?_, a2, ⟨_, a3⟩, ⟨_, a4⟩, a5, ⟨_, a6⟩, ⟨_, a7⟩, a8, a9⟩⟩
      exact HST.out _ W' w1 (by have := hbw.size; simp at this; omega) (Far.grown hg0 (by omega) (by omega)) hok
    · have hg2 : World.grownBy _ w1 (some (w.heap.size + 3)) := ⟨hb.os, hb.tape, hb.output, hb.size, fun k hk _ => hb.block k hk⟩
      obtain ⟨a1, a2, ⟨a3, a4, a5⟩, ⟨a6, a7, a8⟩, a9⟩ := afterMadeT w w1 _ hg2
      refine ⟨by simpa using a1, Or.inr ⟨e, p, rfl, hd, ?_, ?_, a2, ⟨_, a3⟩, ⟨_, a4⟩, a5, ⟨_, a6⟩, ⟨_, a7⟩, a8, a9⟩⟩
      · exact (hb.cell (p := ⟨w.heap.size + 3, 0, none⟩) (by simp)).trans (by simp [go_sem])
      · exact (hb.cell (p := ⟨w.heap.size + 3, 1, none⟩) (by simp)).trans (by simp [go_sem])
  rintro r w2 ⟨w1, hg, hr⟩
  have hz : ((((w.alloc (.cells #[.func (.func g) #[] cap] 92)).alloc (.cells #[.int .i64 0, .int .i64 0] 40)).alloc (.cells #[.int .i64 0, .int .i64 0] 82)).alloc (.cells #[.int .i64 0, .int .i64 0] 40)).heap.size = w.heap.size + 4 := by simp
  rw [hz] at hg
  clear hB0 hB1 hz HC HCF
  rcases hr with ⟨rfl, a, b, hc0, hc1, hok, hA⟩ | ⟨e, p, rfl, hd, hc0, hc1, hA⟩
  · have m0 : w2.cell? ⟨w.heap.size + 1 + 1 + 1, 0, none⟩ = some (.int .i64 a) := hg.cell hc0 (by simp)
    have m1 : w2.cell? ⟨w.heap.size + 1 + 1 + 1, 1, none⟩ = some (.int .i64 b) := hg.cell hc1 (by simp)
    have hA2 := hA.grown hg (by omega)
    have HO2 := mkHid (HST.out _ w1 w2 hA.sz (Far.grown hg (by omega) (by omega)) hok)
    have HA2 := mkHid hA2
    obtain ⟨x0, h0⟩ := hA2.a0
    obtain ⟨x1, h1⟩ := hA2.a1
    obtain ⟨y0, g0⟩ := hA2.f0
    obtain ⟨y1, g1⟩ := hA2.f1
    have z1 := hA2.az
    have z2 := hA2.fz
    have hsz := hA2.sz
    have l1 : w.heap.size + 1 < w2.heap.size := by omega
    have l2 : w.heap.size + 1 + 1 < w2.heap.size := by omega
    have l3 : w.heap.size + 1 + 1 + 1 < w2.heap.size := by omega
    clear hok hc0 hc1 hg hA hA2
    go_wp2_with fail
    go_region
    all_goals
      go_wp2
      obtain ⟨W9, h9, hB9, hF9, hz9, q0, q1, q2, q3⟩ := finT HA2.out a b 0 0 (.cells #[.int .i64 0, .int .i64 0] 82)
      rw [← h9]
      exact bodyPost_ret (v := .tuple #[.agg #[.int .i64 a, .int .i64 b], .agg #[.int .i64 0, .int .i64 0]]) (by simp [results, Tryz.results37, go_sem, q0, q1, q2, q3]) rfl ⟨hB9.drew, hz9, Or.inl ⟨_, _, rfl, HST.out _ w2 _ hsz (hF9.trans ⟨Nat.le_refl _, fun _ _ _ => rfl⟩) HO2.out⟩⟩
  · have m0 : w2.cell? ⟨w.heap.size + 1 + 1 + 1, 0, none⟩ = some (.int .i64 0) := hg.cell hc0 (by simp)
    have m1 : w2.cell? ⟨w.heap.size + 1 + 1 + 1, 1, none⟩ = some (.int .i64 0) := hg.cell hc1 (by simp)
    have hA2 := hA.grown hg (by omega)
    have HD := mkHid hd
    have HA2 := mkHid hA2
    obtain ⟨x0, h0⟩ := hA2.a0
    obtain ⟨x1, h1⟩ := hA2.a1
    obtain ⟨y0, g0⟩ := hA2.f0
    obtain ⟨y1, g1⟩ := hA2.f1
    have z1 := hA2.az
    have z2 := hA2.fz
    have hsz := hA2.sz
    have l1 : w.heap.size + 1 < w2.heap.size := by omega
    have l2 : w.heap.size + 1 + 1 < w2.heap.size := by omega
    have l3 : w.heap.size + 1 + 1 + 1 < w2.heap.size := by omega
    clear hd hc0 hc1 hg hA hA2 HST
    go_wp2_with fail
    go_region
    all_goals
      go_wp2
      obtain ⟨W9, h9, hB9, hF9, hz9, q0, q1, q2, q3⟩ := finT HA2.out 0 0 e p (.cells #[.int .i64 e, .int .i64 p] 82)
      rw [← h9]
      exact bodyPost_ret (v := .tuple #[.agg #[.int .i64 0, .int .i64 0], .agg #[.int .i64 e, .int .i64 p]]) (by simp [results, Tryz.results37, go_sem, q0, q1, q2, q3]) rfl ⟨hB9.drew, hz9, Or.inr ⟨_, _, rfl, HD.out⟩⟩
end Go.Proofs.YtkpklkhkhhlifabGreat
