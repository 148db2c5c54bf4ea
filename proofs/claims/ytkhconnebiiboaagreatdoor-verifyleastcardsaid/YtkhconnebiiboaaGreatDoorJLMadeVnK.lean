/- The contract of Made, for any callee. -/
import Derived.Test.YtkhconnebiiboaaGreatDoorLQs
namespace Go.Proofs.YtkhconnebiiboaaGreatDoor
open Go.RowKit Go.Maps

/-- What lies apart from some blocks is as it was. -/
structure Far (lo hi : Nat) (W W' : World) : Prop where
  size : W.heap.size ≤ W'.heap.size
  block : ∀ k, k < W.heap.size → (k < lo ∨ hi ≤ k) → W'.heap[k]? = W.heap[k]?
theorem Far.refl (lo hi : Nat) (W : World) : Far lo hi W W := ⟨Nat.le_refl _, fun _ _ _ => rfl⟩
theorem Far.trans {lo hi : Nat} {a b c : World} (h : Far lo hi a b) (k : Far lo hi b c) : Far lo hi a c := ⟨Nat.le_trans h.size k.size, fun i hi hl => (k.block i (Nat.lt_of_lt_of_le hi h.size) hl).trans (h.block i hi hl)⟩
theorem Far.grown {lo hi b : Nat} {W W' : World} (h : W.grownBy W' (some b)) (hl : lo ≤ b) (hh : b < hi) : Far lo hi W W' := ⟨h.size, fun k hk hf => h.block k hk (by intro e; injection e; omega)⟩
theorem Far.below {lo hi : Nat} {W W' : World} (h : Below W.heap.size W W') : Far lo hi W W' := ⟨h.size, fun k hk _ => h.block k hk⟩

set_option maxHeartbeats 1000000 in
theorem made1W_any (w : World) (g : Nat) (cap : Array Value) (Ok : Value → World → Prop) (No : Int → Int → Prop) (Pf Q : Nat) (x : Value) (hcf : ∀ args w, (callFunc g args).run Tryz.prog w = .ok (.enter g args) w)
    (hpf : w.cell? ⟨Pf, 0, none⟩ = some (.func (.func g) #[] cap)) (hq : w.cell? ⟨Q, 0, none⟩ = some x) (hz : w.frozen? ⟨Q, 0, none⟩ = false)
    (hc : Calls Tryz.prog g cap w fun r W' => Below w.heap.size w W' ∧ ((∃ v, r = .returned v ∧ (∃ p, v = .pointer p) ∧ Ok v W') ∨ ∃ e p, r = .panicked [wrongV e p] ∧ No e p)) :
    Calls Tryz.prog 65 #[.pointer (some ⟨Pf, 0, none⟩), .pointer (some ⟨Q, 0, none⟩)] w fun r w' =>
      (r = .returned (.tuple #[]) ∧ ∃ v W', (∃ p, v = .pointer p) ∧ Ok v W' ∧ w'.cell? ⟨Q, 0, none⟩ = some v ∧ w.grownBy w' (some Q) ∧ W'.grownBy w' (some Q) ∧ Below w.heap.size w W') ∨
      (∃ e p, r = .panicked [wrongV e p] ∧ No e p ∧ Below w.heap.size w w') := by
  have hQ : Q < w.heap.size := World.block_lt_of_cell? w _ hq
  have HC := mkHid hc
  clear hc
  go_enter Tryz.func65, Tryz.ntmps65
  go_wp2_with fail
  refine HC.out.mono ?_
  rintro r w1 ⟨hb, ⟨v, rfl, hT, hok⟩ | ⟨e, p, rfl, hno⟩⟩
  rotate_left
  · exact ⟨rfl, Or.inr ⟨e, p, rfl, hno, hb⟩⟩
  have hq1 : w1.cell? ⟨Q, 0, none⟩ = some x := (hb.cell (p := ⟨Q, 0, none⟩) hQ).trans hq
  have hz1 : w1.frozen? ⟨Q, 0, none⟩ = false := (hb.frozen (p := ⟨Q, 0, none⟩) hQ).trans hz
  have HG0 : Hid (w1.grownBy (w1.setCell ⟨Q, 0, none⟩ v) (some Q)) := grown_set (World.grownBy.refl _ _) _ _ (Or.inl rfl)
  have HG : Hid (w.grownBy (w1.setCell ⟨Q, 0, none⟩ v) (some Q)) := grown_set ⟨hb.os, hb.tape, hb.output, hb.size, fun k hk _ => hb.block k hk⟩ _ _ (by simp)
  have HC1 := mkHid (World.cell?_setCell_same w1 ⟨Q, 0, none⟩ v hq1)
  have HOK := mkHid hok
  have HB := mkHid hb
  have HT := mkHid hT
  obtain ⟨vv, rfl⟩ := hT
  clear hok hb hq hz HC
  go_wp2
  go_end0
  exact Or.inl ⟨rfl, _, w1, HT.out, HOK.out, HC1.out, HG.out, HG0.out, HB.out⟩

theorem callMadeW (args : Array Value) (w : World) : (callFunc 65 args).run Tryz.prog w = .ok (.enter 65 args) w := by kernel_rfl

theorem afterMadeW {tf tz : Nat} {z : Value} (w w1 : World) (x : Value) (h : ((((w.alloc (.cells #[x] tf)).alloc (.cells #[.int .i64 0, .int .i64 0] 43)).alloc (.cells #[z] tz)).alloc (.cells #[.int .i64 0, .int .i64 0] 43)).grownBy w1 (some (w.heap.size + 2))) :
    w1.heap[w.heap.size + 3]? = some (.cells #[.int .i64 0, .int .i64 0] 43 (0, 0)) ∧ Below w.heap.size w w1 ∧ w1.cell? ⟨w.heap.size + 1, 0, none⟩ = some (.int .i64 0) ∧ w1.cell? ⟨w.heap.size + 1, 1, none⟩ = some (.int .i64 0) ∧
      (∀ j, w1.frozen? ⟨w.heap.size + 1, j, none⟩ = false) ∧ w.heap.size + 4 ≤ w1.heap.size := by
  have hB0 : Below w.heap.size w ((((w.alloc (.cells #[x] tf)).alloc (.cells #[.int .i64 0, .int .i64 0] 43)).alloc (.cells #[z] tz)).alloc (.cells #[.int .i64 0, .int .i64 0] 43)) := ((((Below.refl _ _).alloc (Nat.le_refl _) _).alloc (by simp) _).alloc (by simp; omega) _).alloc (by simp; omega) _
  have hz : ((((w.alloc (.cells #[x] tf)).alloc (.cells #[.int .i64 0, .int .i64 0] 43)).alloc (.cells #[z] tz)).alloc (.cells #[.int .i64 0, .int .i64 0] 43)).heap.size = w.heap.size + 4 := by simp
  refine ⟨?_, below_of_grown hB0 h (by omega), ?_, ?_, ?_, by rw [← hz]; exact h.size⟩
  · rw [h.block (w.heap.size + 3) (by omega) (by simp)]
    show ((((w.heap.push _).push _).push _).push _)[w.heap.size + 3]? = _
    rw [Array.getElem?_push, if_pos (by simp)]
  · exact h.cell (a := ⟨w.heap.size + 1, 0, none⟩) (by simp [go_sem]) (by simp)
  · exact h.cell (a := ⟨w.heap.size + 1, 1, none⟩) (by simp [go_sem]) (by simp)
  · intro j
    rw [World.frozen?_of_block (a := ⟨w.heap.size + 1, j, none⟩) (h.block (w.heap.size + 1) (by omega) (by simp))]
    simp [go_sem]

set_option maxHeartbeats 2000000 in
theorem madeW_any (w : World) (g : Nat) (cap : Array Value) (Ok : Value → World → Prop) (No : Int → Int → Prop) (hcf : ∀ args w, (callFunc g args).run Tryz.prog w = .ok (.enter g args) w)
    (hc : ∀ W, Below w.heap.size w W → W.heap.size = w.heap.size + 4 → Calls Tryz.prog g cap W fun r W' => Below W.heap.size W W' ∧ ((∃ v, r = .returned v ∧ (∃ p, v = .pointer p) ∧ Ok v W') ∨ ∃ e p, r = .panicked [wrongV e p] ∧ No e p))
    (hst : ∀ v W W', w.heap.size + 4 ≤ W.heap.size → Far w.heap.size (w.heap.size + 4) W W' → Ok v W → Ok v W') :
    Calls Tryz.prog 33 #[.func (.func g) #[] cap] w fun r w' => Below w.heap.size w w' ∧ w.heap.size + 4 ≤ w'.heap.size ∧
      ((∃ v, r = .returned (.tuple #[v, .agg #[.int .i64 0, .int .i64 0]]) ∧ (∃ p, v = .pointer p) ∧ Ok v w') ∨
       (∃ e p, r = .returned (.tuple #[.pointer none, .agg #[.int .i64 e, .int .i64 p]]) ∧ No e p)) := by
  have hmf : ∀ (fn : Fn) (first cap : Array Value) (w : World), (Instr.makeFunc fn first cap).run Tryz.prog w = .ok (.func fn first cap) w := fun _ _ _ _ => rfl
  have hB0 : Below w.heap.size w (((w.alloc (.cells #[.func (.func g) #[] cap] 93)).alloc (.cells #[.int .i64 0, .int .i64 0] 43)).alloc (.cells #[.pointer none] 52)) := (((Below.refl _ _).alloc (Nat.le_refl _) _).alloc (by simp) _).alloc (by simp; omega) _
  have hB1 := hB0.alloc hB0.size (.cells #[.int .i64 0, .int .i64 0] 43)
  have HC := mkHid hc
  have HST := mkHid hst
  have HCF := mkHid hcf
  clear hc hst hcf
  go_enter Tryz.func33, Tryz.ntmps33
  go_wp2_with fail
  refine (caught_any 65 _ _ (fun w1 => ∃ v, (∃ p, v = .pointer p) ∧ w1.cell? ⟨w.heap.size + 2, 0, none⟩ = some v ∧ Ok v w1 ∧ Below w.heap.size w w1 ∧
    (∃ x y, w1.cell? ⟨w.heap.size + 1, 0, none⟩ = some x ∧ w1.cell? ⟨w.heap.size + 1, 1, none⟩ = some y) ∧ (∀ j, w1.frozen? ⟨w.heap.size + 1, j, none⟩ = false) ∧ w.heap.size + 4 ≤ w1.heap.size)
    (fun e p w1 => No e p ∧ w1.cell? ⟨w.heap.size + 2, 0, none⟩ = some (.pointer none) ∧ Below w.heap.size w w1 ∧
    (∃ x y, w1.cell? ⟨w.heap.size + 1, 0, none⟩ = some x ∧ w1.cell? ⟨w.heap.size + 1, 1, none⟩ = some y) ∧ (∀ j, w1.frozen? ⟨w.heap.size + 1, j, none⟩ = false) ∧ w.heap.size + 4 ≤ w1.heap.size) (callMadeW _) ?hc).mono ?_
  case hc =>
    refine (made1W_any _ g cap Ok No w.heap.size (w.heap.size + 2) (.pointer none) HCF.out (by simp [go_sem]) (by simp [go_sem]) (by simp [go_sem]) (HC.out _ hB1 (by simp))).mono ?_
    rintro r w1 (⟨rfl, v, W', hT, hok, hc, hg, hg0, hbw⟩ | ⟨e, p, rfl, hd, hb⟩)
    · obtain ⟨a1, a2, a3, a4, a5, a6⟩ := afterMadeW w w1 _ hg
      refine ⟨by simpa using a1, Or.inl ⟨rfl, v, hT, hc, ?_, a2, ⟨.int .i64 0, .int .i64 0, a3, a4⟩, a5, a6⟩⟩
      exact HST.out v W' w1 (by have := hbw.size; simp at this; omega) (Far.grown hg0 (by omega) (by omega)) hok
    · have hg2 : World.grownBy _ w1 (some (w.heap.size + 2)) := ⟨hb.os, hb.tape, hb.output, hb.size, fun k hk _ => hb.block k hk⟩
      obtain ⟨a1, a2, a3, a4, a5, a6⟩ := afterMadeW w w1 _ hg2
      refine ⟨by simpa using a1, Or.inr ⟨e, p, rfl, hd, ?_, a2, ⟨.int .i64 0, .int .i64 0, a3, a4⟩, a5, a6⟩⟩
      exact (hb.cell (p := ⟨w.heap.size + 2, 0, none⟩) (by simp)).trans (by simp [go_sem])
  rintro r w2 ⟨w1, hg, hr⟩
  have hz : (((w.alloc (.cells #[.func (.func g) #[] cap] 93)).alloc (.cells #[.int .i64 0, .int .i64 0] 43)).alloc (.cells #[.pointer none] 52)).heap.size = w.heap.size + 3 := by simp
  rw [hz] at hg
  clear hB0 hB1 hz HC HCF
  rcases hr with ⟨rfl, v, hT, hc, hok, hB, ⟨x, y, hx, hy⟩, hfz, hsz⟩ | ⟨e, p, rfl, hd, hc, hB, ⟨x, y, hx, hy⟩, hfz, hsz⟩
  · have c4 : w2.cell? ⟨w.heap.size + 1 + 1, 0, none⟩ = some v := hg.cell hc (by simp)
    have c30 : w2.cell? ⟨w.heap.size + 1, 0, none⟩ = some x := hg.cell hx (by simp)
    have c31 : w2.cell? ⟨w.heap.size + 1, 1, none⟩ = some y := hg.cell hy (by simp)
    have z3 : ∀ j, w2.frozen? ⟨w.heap.size + 1, j, none⟩ = false := fun j => (World.frozen?_of_block (a := ⟨w.heap.size + 1, j, none⟩) (hg.block (w.heap.size + 1) (by omega) (by simp))).trans (hfz j)
    have hsz2 : w.heap.size + 4 ≤ w2.heap.size := Nat.le_trans hsz hg.size
    have hlt1 : w.heap.size + 1 < w2.heap.size := by omega
    have hlt2 : w.heap.size + 1 + 1 < w2.heap.size := by omega
    have HT := mkHid hT
    have hB2 : Below w.heap.size w w2 := below_of_grown hB hg (by omega)
    have HO2 := mkHid (HST.out v w1 w2 hsz (Far.grown hg (by omega) (by omega)) hok)
    obtain ⟨vv, rfl⟩ := hT
    clear hok hc hx hy hfz hg hB
    go_wp2_with fail
    go_region
    all_goals
      go_wp2
      obtain ⟨hg, q0, q1⟩ := fault_world w2 (w.heap.size + 1) 0 0 (.cells #[.int .i64 0, .int .i64 0] 43) c30 c31
      have hB3 := below_of_grown hB2 hg (by omega)
      have HO3 := mkHid (HST.out _ w2 _ hsz2 (Far.grown hg (by omega) (by omega)) HO2.out)
      have hz3 := Nat.le_trans hsz2 hg.size
      generalize ((w2.setCell ⟨w.heap.size + 1, 0, none⟩ (.int .i64 0)).setCell ⟨w.heap.size + 1, 1, none⟩ (.int .i64 0)).alloc (.cells #[.int .i64 0, .int .i64 0] 43) = W9 at *
      exact bodyPost_ret (v := .tuple #[_, .agg #[.int .i64 0, .int .i64 0]]) (by simp [results, Tryz.results33, go_sem, q0, q1]) rfl ⟨hB3.drew, hz3, Or.inl ⟨_, rfl, HT.out, HST.out _ W9 _ hz3 ⟨Nat.le_refl _, fun _ _ _ => rfl⟩ HO3.out⟩⟩
  · have c4 : w2.cell? ⟨w.heap.size + 1 + 1, 0, none⟩ = some (.pointer none) := hg.cell hc (by simp)
    have c30 : w2.cell? ⟨w.heap.size + 1, 0, none⟩ = some x := hg.cell hx (by simp)
    have c31 : w2.cell? ⟨w.heap.size + 1, 1, none⟩ = some y := hg.cell hy (by simp)
    have z3 : ∀ j, w2.frozen? ⟨w.heap.size + 1, j, none⟩ = false := fun j => (World.frozen?_of_block (a := ⟨w.heap.size + 1, j, none⟩) (hg.block (w.heap.size + 1) (by omega) (by simp))).trans (hfz j)
    have hsz2 : w.heap.size + 4 ≤ w2.heap.size := Nat.le_trans hsz hg.size
    have hlt1 : w.heap.size + 1 < w2.heap.size := by omega
    have hlt2 : w.heap.size + 1 + 1 < w2.heap.size := by omega
    have HD := mkHid hd
    have hB2 : Below w.heap.size w w2 := below_of_grown hB hg (by omega)
    clear hd hc hx hy hfz hg hB HST
    go_wp2_with fail
    go_region
    all_goals
      go_wp2
      obtain ⟨hg, q0, q1⟩ := fault_world w2 (w.heap.size + 1) e p (.cells #[.int .i64 e, .int .i64 p] 43) c30 c31
      have hB3 := below_of_grown hB2 hg (by omega)
      have hz3 := Nat.le_trans hsz2 hg.size
      generalize ((w2.setCell ⟨w.heap.size + 1, 0, none⟩ (.int .i64 e)).setCell ⟨w.heap.size + 1, 1, none⟩ (.int .i64 p)).alloc (.cells #[.int .i64 e, .int .i64 p] 43) = W9 at *
      exact bodyPost_ret (v := .tuple #[.pointer none, .agg #[.int .i64 e, .int .i64 p]]) (by simp [results, Tryz.results33, go_sem, q0, q1]) rfl ⟨hB3.drew, hz3, Or.inr ⟨_, _, rfl, HD.out⟩⟩

set_option maxHeartbeats 1000000 in
theorem made1I_any (w : World) (g : Nat) (cap : Array Value) (Ok : Value → World → Prop) (No : Int → Int → Prop) (Pf Q : Nat) (x : Value) (hcf : ∀ args w, (callFunc g args).run Tryz.prog w = .ok (.enter g args) w)
    (hpf : w.cell? ⟨Pf, 0, none⟩ = some (.func (.func g) #[] cap)) (hq : w.cell? ⟨Q, 0, none⟩ = some x) (hz : w.frozen? ⟨Q, 0, none⟩ = false)
    (hc : Calls Tryz.prog g cap w fun r W' => Below w.heap.size w W' ∧ ((∃ v, r = .returned v ∧ (∃ n, v = .int .i64 n) ∧ Ok v W') ∨ ∃ e p, r = .panicked [wrongV e p] ∧ No e p)) :
    Calls Tryz.prog 59 #[.pointer (some ⟨Pf, 0, none⟩), .pointer (some ⟨Q, 0, none⟩)] w fun r w' =>
      (r = .returned (.tuple #[]) ∧ ∃ v W', (∃ n, v = .int .i64 n) ∧ Ok v W' ∧ w'.cell? ⟨Q, 0, none⟩ = some v ∧ w.grownBy w' (some Q) ∧ W'.grownBy w' (some Q) ∧ Below w.heap.size w W') ∨
      (∃ e p, r = .panicked [wrongV e p] ∧ No e p ∧ Below w.heap.size w w') := by
  have hQ : Q < w.heap.size := World.block_lt_of_cell? w _ hq
  have HC := mkHid hc
  clear hc
  go_enter Tryz.func59, Tryz.ntmps59
  go_wp2_with fail
  refine HC.out.mono ?_
  rintro r w1 ⟨hb, ⟨v, rfl, hT, hok⟩ | ⟨e, p, rfl, hno⟩⟩
  rotate_left
  · exact ⟨rfl, Or.inr ⟨e, p, rfl, hno, hb⟩⟩
  have hq1 : w1.cell? ⟨Q, 0, none⟩ = some x := (hb.cell (p := ⟨Q, 0, none⟩) hQ).trans hq
  have hz1 : w1.frozen? ⟨Q, 0, none⟩ = false := (hb.frozen (p := ⟨Q, 0, none⟩) hQ).trans hz
  have HG0 : Hid (w1.grownBy (w1.setCell ⟨Q, 0, none⟩ v) (some Q)) := grown_set (World.grownBy.refl _ _) _ _ (Or.inl rfl)
  have HG : Hid (w.grownBy (w1.setCell ⟨Q, 0, none⟩ v) (some Q)) := grown_set ⟨hb.os, hb.tape, hb.output, hb.size, fun k hk _ => hb.block k hk⟩ _ _ (by simp)
  have HC1 := mkHid (World.cell?_setCell_same w1 ⟨Q, 0, none⟩ v hq1)
  have HOK := mkHid hok
  have HB := mkHid hb
  have HT := mkHid hT
  obtain ⟨vv, rfl⟩ := hT
  clear hok hb hq hz HC
  go_wp2
  go_end0
  exact Or.inl ⟨rfl, _, w1, HT.out, HOK.out, HC1.out, HG.out, HG0.out, HB.out⟩

theorem callMadeI (args : Array Value) (w : World) : (callFunc 59 args).run Tryz.prog w = .ok (.enter 59 args) w := by kernel_rfl

set_option maxHeartbeats 2000000 in
theorem madeI_any (w : World) (g : Nat) (cap : Array Value) (Ok : Value → World → Prop) (No : Int → Int → Prop) (hcf : ∀ args w, (callFunc g args).run Tryz.prog w = .ok (.enter g args) w)
    (hc : ∀ W, Below w.heap.size w W → W.heap.size = w.heap.size + 4 → Calls Tryz.prog g cap W fun r W' => Below W.heap.size W W' ∧ ((∃ v, r = .returned v ∧ (∃ n, v = .int .i64 n) ∧ Ok v W') ∨ ∃ e p, r = .panicked [wrongV e p] ∧ No e p))
    (hst : ∀ v W W', w.heap.size + 4 ≤ W.heap.size → Far w.heap.size (w.heap.size + 4) W W' → Ok v W → Ok v W') :
    Calls Tryz.prog 26 #[.func (.func g) #[] cap] w fun r w' => Below w.heap.size w w' ∧ w.heap.size + 4 ≤ w'.heap.size ∧
      ((∃ v, r = .returned (.tuple #[v, .agg #[.int .i64 0, .int .i64 0]]) ∧ (∃ n, v = .int .i64 n) ∧ Ok v w') ∨
       (∃ e p, r = .returned (.tuple #[.int .i64 0, .agg #[.int .i64 e, .int .i64 p]]) ∧ No e p)) := by
  have hmf : ∀ (fn : Fn) (first cap : Array Value) (w : World), (Instr.makeFunc fn first cap).run Tryz.prog w = .ok (.func fn first cap) w := fun _ _ _ _ => rfl
  have hB0 : Below w.heap.size w (((w.alloc (.cells #[.func (.func g) #[] cap] 87)).alloc (.cells #[.int .i64 0, .int .i64 0] 43)).alloc (.cells #[.int .i64 0] 3)) := (((Below.refl _ _).alloc (Nat.le_refl _) _).alloc (by simp) _).alloc (by simp; omega) _
  have hB1 := hB0.alloc hB0.size (.cells #[.int .i64 0, .int .i64 0] 43)
  have HC := mkHid hc
  have HST := mkHid hst
  have HCF := mkHid hcf
  clear hc hst hcf
  go_enter Tryz.func26, Tryz.ntmps26
  go_wp2_with fail
  refine (caught_any 59 _ _ (fun w1 => ∃ v, (∃ n, v = .int .i64 n) ∧ w1.cell? ⟨w.heap.size + 2, 0, none⟩ = some v ∧ Ok v w1 ∧ Below w.heap.size w w1 ∧
    (∃ x y, w1.cell? ⟨w.heap.size + 1, 0, none⟩ = some x ∧ w1.cell? ⟨w.heap.size + 1, 1, none⟩ = some y) ∧ (∀ j, w1.frozen? ⟨w.heap.size + 1, j, none⟩ = false) ∧ w.heap.size + 4 ≤ w1.heap.size)
    (fun e p w1 => No e p ∧ w1.cell? ⟨w.heap.size + 2, 0, none⟩ = some (.int .i64 0) ∧ Below w.heap.size w w1 ∧
    (∃ x y, w1.cell? ⟨w.heap.size + 1, 0, none⟩ = some x ∧ w1.cell? ⟨w.heap.size + 1, 1, none⟩ = some y) ∧ (∀ j, w1.frozen? ⟨w.heap.size + 1, j, none⟩ = false) ∧ w.heap.size + 4 ≤ w1.heap.size) (callMadeI _) ?hc).mono ?_
  case hc =>
    refine (made1I_any _ g cap Ok No w.heap.size (w.heap.size + 2) (.int .i64 0) HCF.out (by simp [go_sem]) (by simp [go_sem]) (by simp [go_sem]) (HC.out _ hB1 (by simp))).mono ?_
    rintro r w1 (⟨rfl, v, W', hT, hok, hc, hg, hg0, hbw⟩ | ⟨e, p, rfl, hd, hb⟩)
    · obtain ⟨a1, a2, a3, a4, a5, a6⟩ := afterMadeW w w1 _ hg
      refine ⟨by simpa using a1, Or.inl ⟨rfl, v, hT, hc, ?_, a2, ⟨.int .i64 0, .int .i64 0, a3, a4⟩, a5, a6⟩⟩
      exact HST.out v W' w1 (by have := hbw.size; simp at this; omega) (Far.grown hg0 (by omega) (by omega)) hok
    · have hg2 : World.grownBy _ w1 (some (w.heap.size + 2)) := ⟨hb.os, hb.tape, hb.output, hb.size, fun k hk _ => hb.block k hk⟩
      obtain ⟨a1, a2, a3, a4, a5, a6⟩ := afterMadeW w w1 _ hg2
      refine ⟨by simpa using a1, Or.inr ⟨e, p, rfl, hd, ?_, a2, ⟨.int .i64 0, .int .i64 0, a3, a4⟩, a5, a6⟩⟩
      exact (hb.cell (p := ⟨w.heap.size + 2, 0, none⟩) (by simp)).trans (by simp [go_sem])
  rintro r w2 ⟨w1, hg, hr⟩
  have hz : (((w.alloc (.cells #[.func (.func g) #[] cap] 87)).alloc (.cells #[.int .i64 0, .int .i64 0] 43)).alloc (.cells #[.int .i64 0] 3)).heap.size = w.heap.size + 3 := by simp
  rw [hz] at hg
  clear hB0 hB1 hz HC HCF
  rcases hr with ⟨rfl, v, hT, hc, hok, hB, ⟨x, y, hx, hy⟩, hfz, hsz⟩ | ⟨e, p, rfl, hd, hc, hB, ⟨x, y, hx, hy⟩, hfz, hsz⟩
  · have c4 : w2.cell? ⟨w.heap.size + 1 + 1, 0, none⟩ = some v := hg.cell hc (by simp)
    have c30 : w2.cell? ⟨w.heap.size + 1, 0, none⟩ = some x := hg.cell hx (by simp)
    have c31 : w2.cell? ⟨w.heap.size + 1, 1, none⟩ = some y := hg.cell hy (by simp)
    have z3 : ∀ j, w2.frozen? ⟨w.heap.size + 1, j, none⟩ = false := fun j => (World.frozen?_of_block (a := ⟨w.heap.size + 1, j, none⟩) (hg.block (w.heap.size + 1) (by omega) (by simp))).trans (hfz j)
    have hsz2 : w.heap.size + 4 ≤ w2.heap.size := Nat.le_trans hsz hg.size
    have hlt1 : w.heap.size + 1 < w2.heap.size := by omega
    have hlt2 : w.heap.size + 1 + 1 < w2.heap.size := by omega
    have HT := mkHid hT
    have hB2 : Below w.heap.size w w2 := below_of_grown hB hg (by omega)
    have HO2 := mkHid (HST.out v w1 w2 hsz (Far.grown hg (by omega) (by omega)) hok)
    obtain ⟨vv, rfl⟩ := hT
    clear hok hc hx hy hfz hg hB
    go_wp2_with fail
    go_region
    all_goals
      go_wp2
      obtain ⟨hg, q0, q1⟩ := fault_world w2 (w.heap.size + 1) 0 0 (.cells #[.int .i64 0, .int .i64 0] 43) c30 c31
      have hB3 := below_of_grown hB2 hg (by omega)
      have HO3 := mkHid (HST.out _ w2 _ hsz2 (Far.grown hg (by omega) (by omega)) HO2.out)
      have hz3 := Nat.le_trans hsz2 hg.size
      generalize ((w2.setCell ⟨w.heap.size + 1, 0, none⟩ (.int .i64 0)).setCell ⟨w.heap.size + 1, 1, none⟩ (.int .i64 0)).alloc (.cells #[.int .i64 0, .int .i64 0] 43) = W9 at *
      exact bodyPost_ret (v := .tuple #[_, .agg #[.int .i64 0, .int .i64 0]]) (by simp [results, Tryz.results26, go_sem, q0, q1]) rfl ⟨hB3.drew, hz3, Or.inl ⟨_, rfl, HT.out, HST.out _ W9 _ hz3 ⟨Nat.le_refl _, fun _ _ _ => rfl⟩ HO3.out⟩⟩
  · have c4 : w2.cell? ⟨w.heap.size + 1 + 1, 0, none⟩ = some (.int .i64 0) := hg.cell hc (by simp)
    have c30 : w2.cell? ⟨w.heap.size + 1, 0, none⟩ = some x := hg.cell hx (by simp)
    have c31 : w2.cell? ⟨w.heap.size + 1, 1, none⟩ = some y := hg.cell hy (by simp)
    have z3 : ∀ j, w2.frozen? ⟨w.heap.size + 1, j, none⟩ = false := fun j => (World.frozen?_of_block (a := ⟨w.heap.size + 1, j, none⟩) (hg.block (w.heap.size + 1) (by omega) (by simp))).trans (hfz j)
    have hsz2 : w.heap.size + 4 ≤ w2.heap.size := Nat.le_trans hsz hg.size
    have hlt1 : w.heap.size + 1 < w2.heap.size := by omega
    have hlt2 : w.heap.size + 1 + 1 < w2.heap.size := by omega
    have HD := mkHid hd
    have hB2 : Below w.heap.size w w2 := below_of_grown hB hg (by omega)
    clear hd hc hx hy hfz hg hB HST
    go_wp2_with fail
    go_region
    all_goals
      go_wp2
      obtain ⟨hg, q0, q1⟩ := fault_world w2 (w.heap.size + 1) e p (.cells #[.int .i64 e, .int .i64 p] 43) c30 c31
      have hB3 := below_of_grown hB2 hg (by omega)
      have hz3 := Nat.le_trans hsz2 hg.size
      generalize ((w2.setCell ⟨w.heap.size + 1, 0, none⟩ (.int .i64 e)).setCell ⟨w.heap.size + 1, 1, none⟩ (.int .i64 p)).alloc (.cells #[.int .i64 e, .int .i64 p] 43) = W9 at *
      exact bodyPost_ret (v := .tuple #[.int .i64 0, .agg #[.int .i64 e, .int .i64 p]]) (by simp [results, Tryz.results26, go_sem, q0, q1]) rfl ⟨hB3.drew, hz3, Or.inr ⟨_, _, rfl, HD.out⟩⟩

set_option maxHeartbeats 1000000 in
theorem made1B_any (w : World) (g : Nat) (cap : Array Value) (Ok : Value → World → Prop) (No : Int → Int → Prop) (Pf Q : Nat) (x : Value) (hcf : ∀ args w, (callFunc g args).run Tryz.prog w = .ok (.enter g args) w)
    (hpf : w.cell? ⟨Pf, 0, none⟩ = some (.func (.func g) #[] cap)) (hq : w.cell? ⟨Q, 0, none⟩ = some x) (hz : w.frozen? ⟨Q, 0, none⟩ = false)
    (hc : Calls Tryz.prog g cap w fun r W' => Below w.heap.size w W' ∧ ((∃ v, r = .returned v ∧ (∃ n, v = .bool n) ∧ Ok v W') ∨ ∃ e p, r = .panicked [wrongV e p] ∧ No e p)) :
    Calls Tryz.prog 49 #[.pointer (some ⟨Pf, 0, none⟩), .pointer (some ⟨Q, 0, none⟩)] w fun r w' =>
      (r = .returned (.tuple #[]) ∧ ∃ v W', (∃ n, v = .bool n) ∧ Ok v W' ∧ w'.cell? ⟨Q, 0, none⟩ = some v ∧ w.grownBy w' (some Q) ∧ W'.grownBy w' (some Q) ∧ Below w.heap.size w W') ∨
      (∃ e p, r = .panicked [wrongV e p] ∧ No e p ∧ Below w.heap.size w w') := by
  have hQ : Q < w.heap.size := World.block_lt_of_cell? w _ hq
  have HC := mkHid hc
  clear hc
  go_enter Tryz.func49, Tryz.ntmps49
  go_wp2_with fail
  refine HC.out.mono ?_
  rintro r w1 ⟨hb, ⟨v, rfl, hT, hok⟩ | ⟨e, p, rfl, hno⟩⟩
  rotate_left
  · exact ⟨rfl, Or.inr ⟨e, p, rfl, hno, hb⟩⟩
  have hq1 : w1.cell? ⟨Q, 0, none⟩ = some x := (hb.cell (p := ⟨Q, 0, none⟩) hQ).trans hq
  have hz1 : w1.frozen? ⟨Q, 0, none⟩ = false := (hb.frozen (p := ⟨Q, 0, none⟩) hQ).trans hz
  have HG0 : Hid (w1.grownBy (w1.setCell ⟨Q, 0, none⟩ v) (some Q)) := grown_set (World.grownBy.refl _ _) _ _ (Or.inl rfl)
  have HG : Hid (w.grownBy (w1.setCell ⟨Q, 0, none⟩ v) (some Q)) := grown_set ⟨hb.os, hb.tape, hb.output, hb.size, fun k hk _ => hb.block k hk⟩ _ _ (by simp)
  have HC1 := mkHid (World.cell?_setCell_same w1 ⟨Q, 0, none⟩ v hq1)
  have HOK := mkHid hok
  have HB := mkHid hb
  have HT := mkHid hT
  obtain ⟨vv, rfl⟩ := hT
  clear hok hb hq hz HC
  go_wp2
  go_end0
  exact Or.inl ⟨rfl, _, w1, HT.out, HOK.out, HC1.out, HG.out, HG0.out, HB.out⟩

theorem callMadeB (args : Array Value) (w : World) : (callFunc 49 args).run Tryz.prog w = .ok (.enter 49 args) w := by kernel_rfl

set_option maxHeartbeats 2000000 in
theorem madeB_any (w : World) (g : Nat) (cap : Array Value) (Ok : Value → World → Prop) (No : Int → Int → Prop) (hcf : ∀ args w, (callFunc g args).run Tryz.prog w = .ok (.enter g args) w)
    (hc : ∀ W, Below w.heap.size w W → W.heap.size = w.heap.size + 4 → Calls Tryz.prog g cap W fun r W' => Below W.heap.size W W' ∧ ((∃ v, r = .returned v ∧ (∃ n, v = .bool n) ∧ Ok v W') ∨ ∃ e p, r = .panicked [wrongV e p] ∧ No e p))
    (hst : ∀ v W W', w.heap.size + 4 ≤ W.heap.size → Far w.heap.size (w.heap.size + 4) W W' → Ok v W → Ok v W') :
    Calls Tryz.prog 19 #[.func (.func g) #[] cap] w fun r w' => Below w.heap.size w w' ∧ w.heap.size + 4 ≤ w'.heap.size ∧
      ((∃ v, r = .returned (.tuple #[v, .agg #[.int .i64 0, .int .i64 0]]) ∧ (∃ n, v = .bool n) ∧ Ok v w') ∨
       (∃ e p, r = .returned (.tuple #[.bool false, .agg #[.int .i64 e, .int .i64 p]]) ∧ No e p)) := by
  have hmf : ∀ (fn : Fn) (first cap : Array Value) (w : World), (Instr.makeFunc fn first cap).run Tryz.prog w = .ok (.func fn first cap) w := fun _ _ _ _ => rfl
  have hB0 : Below w.heap.size w (((w.alloc (.cells #[.func (.func g) #[] cap] 25)).alloc (.cells #[.int .i64 0, .int .i64 0] 43)).alloc (.cells #[.bool false] 4)) := (((Below.refl _ _).alloc (Nat.le_refl _) _).alloc (by simp) _).alloc (by simp; omega) _
  have hB1 := hB0.alloc hB0.size (.cells #[.int .i64 0, .int .i64 0] 43)
  have HC := mkHid hc
  have HST := mkHid hst
  have HCF := mkHid hcf
  clear hc hst hcf
  go_enter Tryz.func19, Tryz.ntmps19
  go_wp2_with fail
  refine (caught_any 49 _ _ (fun w1 => ∃ v, (∃ n, v = .bool n) ∧ w1.cell? ⟨w.heap.size + 2, 0, none⟩ = some v ∧ Ok v w1 ∧ Below w.heap.size w w1 ∧
    (∃ x y, w1.cell? ⟨w.heap.size + 1, 0, none⟩ = some x ∧ w1.cell? ⟨w.heap.size + 1, 1, none⟩ = some y) ∧ (∀ j, w1.frozen? ⟨w.heap.size + 1, j, none⟩ = false) ∧ w.heap.size + 4 ≤ w1.heap.size)
    (fun e p w1 => No e p ∧ w1.cell? ⟨w.heap.size + 2, 0, none⟩ = some (.bool false) ∧ Below w.heap.size w w1 ∧
    (∃ x y, w1.cell? ⟨w.heap.size + 1, 0, none⟩ = some x ∧ w1.cell? ⟨w.heap.size + 1, 1, none⟩ = some y) ∧ (∀ j, w1.frozen? ⟨w.heap.size + 1, j, none⟩ = false) ∧ w.heap.size + 4 ≤ w1.heap.size) (callMadeB _) ?hc).mono ?_
  case hc =>
    refine (made1B_any _ g cap Ok No w.heap.size (w.heap.size + 2) (.bool false) HCF.out (by simp [go_sem]) (by simp [go_sem]) (by simp [go_sem]) (HC.out _ hB1 (by simp))).mono ?_
    rintro r w1 (⟨rfl, v, W', hT, hok, hc, hg, hg0, hbw⟩ | ⟨e, p, rfl, hd, hb⟩)
    · obtain ⟨a1, a2, a3, a4, a5, a6⟩ := afterMadeW w w1 _ hg
      refine ⟨by simpa using a1, Or.inl ⟨rfl, v, hT, hc, ?_, a2, ⟨.int .i64 0, .int .i64 0, a3, a4⟩, a5, a6⟩⟩
      exact HST.out v W' w1 (by have := hbw.size; simp at this; omega) (Far.grown hg0 (by omega) (by omega)) hok
    · have hg2 : World.grownBy _ w1 (some (w.heap.size + 2)) := ⟨hb.os, hb.tape, hb.output, hb.size, fun k hk _ => hb.block k hk⟩
      obtain ⟨a1, a2, a3, a4, a5, a6⟩ := afterMadeW w w1 _ hg2
      refine ⟨by simpa using a1, Or.inr ⟨e, p, rfl, hd, ?_, a2, ⟨.int .i64 0, .int .i64 0, a3, a4⟩, a5, a6⟩⟩
      exact (hb.cell (p := ⟨w.heap.size + 2, 0, none⟩) (by simp)).trans (by simp [go_sem])
  rintro r w2 ⟨w1, hg, hr⟩
  have hz : (((w.alloc (.cells #[.func (.func g) #[] cap] 25)).alloc (.cells #[.int .i64 0, .int .i64 0] 43)).alloc (.cells #[.bool false] 4)).heap.size = w.heap.size + 3 := by simp
  rw [hz] at hg
  clear hB0 hB1 hz HC HCF
  rcases hr with ⟨rfl, v, hT, hc, hok, hB, ⟨x, y, hx, hy⟩, hfz, hsz⟩ | ⟨e, p, rfl, hd, hc, hB, ⟨x, y, hx, hy⟩, hfz, hsz⟩
  · have c4 : w2.cell? ⟨w.heap.size + 1 + 1, 0, none⟩ = some v := hg.cell hc (by simp)
    have c30 : w2.cell? ⟨w.heap.size + 1, 0, none⟩ = some x := hg.cell hx (by simp)
    have c31 : w2.cell? ⟨w.heap.size + 1, 1, none⟩ = some y := hg.cell hy (by simp)
    have z3 : ∀ j, w2.frozen? ⟨w.heap.size + 1, j, none⟩ = false := fun j => (World.frozen?_of_block (a := ⟨w.heap.size + 1, j, none⟩) (hg.block (w.heap.size + 1) (by omega) (by simp))).trans (hfz j)
    have hsz2 : w.heap.size + 4 ≤ w2.heap.size := Nat.le_trans hsz hg.size
    have hlt1 : w.heap.size + 1 < w2.heap.size := by omega
    have hlt2 : w.heap.size + 1 + 1 < w2.heap.size := by omega
    have HT := mkHid hT
    have hB2 : Below w.heap.size w w2 := below_of_grown hB hg (by omega)
    have HO2 := mkHid (HST.out v w1 w2 hsz (Far.grown hg (by omega) (by omega)) hok)
    obtain ⟨vv, rfl⟩ := hT
    clear hok hc hx hy hfz hg hB
    go_wp2_with fail
    go_region
    all_goals
      go_wp2
      obtain ⟨hg, q0, q1⟩ := fault_world w2 (w.heap.size + 1) 0 0 (.cells #[.int .i64 0, .int .i64 0] 43) c30 c31
      have hB3 := below_of_grown hB2 hg (by omega)
      have HO3 := mkHid (HST.out _ w2 _ hsz2 (Far.grown hg (by omega) (by omega)) HO2.out)
      have hz3 := Nat.le_trans hsz2 hg.size
      generalize ((w2.setCell ⟨w.heap.size + 1, 0, none⟩ (.int .i64 0)).setCell ⟨w.heap.size + 1, 1, none⟩ (.int .i64 0)).alloc (.cells #[.int .i64 0, .int .i64 0] 43) = W9 at *
      exact bodyPost_ret (v := .tuple #[_, .agg #[.int .i64 0, .int .i64 0]]) (by simp [results, Tryz.results19, go_sem, q0, q1]) rfl ⟨hB3.drew, hz3, Or.inl ⟨_, rfl, HT.out, HST.out _ W9 _ hz3 ⟨Nat.le_refl _, fun _ _ _ => rfl⟩ HO3.out⟩⟩
  · have c4 : w2.cell? ⟨w.heap.size + 1 + 1, 0, none⟩ = some (.bool false) := hg.cell hc (by simp)
    have c30 : w2.cell? ⟨w.heap.size + 1, 0, none⟩ = some x := hg.cell hx (by simp)
    have c31 : w2.cell? ⟨w.heap.size + 1, 1, none⟩ = some y := hg.cell hy (by simp)
    have z3 : ∀ j, w2.frozen? ⟨w.heap.size + 1, j, none⟩ = false := fun j => (World.frozen?_of_block (a := ⟨w.heap.size + 1, j, none⟩) (hg.block (w.heap.size + 1) (by omega) (by simp))).trans (hfz j)
    have hsz2 : w.heap.size + 4 ≤ w2.heap.size := Nat.le_trans hsz hg.size
    have hlt1 : w.heap.size + 1 < w2.heap.size := by omega
    have hlt2 : w.heap.size + 1 + 1 < w2.heap.size := by omega
    have HD := mkHid hd
    have hB2 : Below w.heap.size w w2 := below_of_grown hB hg (by omega)
    clear hd hc hx hy hfz hg hB HST
    go_wp2_with fail
    go_region
    all_goals
      go_wp2
      obtain ⟨hg, q0, q1⟩ := fault_world w2 (w.heap.size + 1) e p (.cells #[.int .i64 e, .int .i64 p] 43) c30 c31
      have hB3 := below_of_grown hB2 hg (by omega)
      have hz3 := Nat.le_trans hsz2 hg.size
      generalize ((w2.setCell ⟨w.heap.size + 1, 0, none⟩ (.int .i64 e)).setCell ⟨w.heap.size + 1, 1, none⟩ (.int .i64 p)).alloc (.cells #[.int .i64 e, .int .i64 p] 43) = W9 at *
      exact bodyPost_ret (v := .tuple #[.bool false, .agg #[.int .i64 e, .int .i64 p]]) (by simp [results, Tryz.results19, go_sem, q0, q1]) rfl ⟨hB3.drew, hz3, Or.inr ⟨_, _, rfl, HD.out⟩⟩

end Go.Proofs.YtkhconnebiiboaaGreatDoor
/- The contract of Made at rows of states, for any callee. -/
namespace Go.Proofs.YtkhconnebiiboaaGreatDoor
open Go.RowKit Go.Maps

set_option maxHeartbeats 1000000 in
theorem made1St_any (w : World) (g : Nat) (cap : Array Value) (Ok : Value → World → Prop) (No : Int → Int → Prop) (Pf Q : Nat) (x : Value) (hcf : ∀ args w, (callFunc g args).run Tryz.prog w = .ok (.enter g args) w)
    (hpf : w.cell? ⟨Pf, 0, none⟩ = some (.func (.func g) #[] cap)) (hq : w.cell? ⟨Q, 0, none⟩ = some x) (hz : w.frozen? ⟨Q, 0, none⟩ = false)
    (hc : Calls Tryz.prog g cap w fun r W' => Below w.heap.size w W' ∧ ((∃ v, r = .returned v ∧ (∃ z : Option Addr × Nat × Nat, v = .slice z.1 z.2.1 z.2.2) ∧ Ok v W') ∨ ∃ e p, r = .panicked [wrongV e p] ∧ No e p)) :
    Calls Tryz.prog 51 #[.pointer (some ⟨Pf, 0, none⟩), .pointer (some ⟨Q, 0, none⟩)] w fun r w' =>
      (r = .returned (.tuple #[]) ∧ ∃ v W', (∃ z : Option Addr × Nat × Nat, v = .slice z.1 z.2.1 z.2.2) ∧ Ok v W' ∧ w'.cell? ⟨Q, 0, none⟩ = some v ∧ w.grownBy w' (some Q) ∧ W'.grownBy w' (some Q) ∧ Below w.heap.size w W') ∨
      (∃ e p, r = .panicked [wrongV e p] ∧ No e p ∧ Below w.heap.size w w') := by
  have hQ : Q < w.heap.size := World.block_lt_of_cell? w _ hq
  have HC := mkHid hc
  clear hc
  go_enter Tryz.func51, Tryz.ntmps51
  go_wp2_with fail
  refine HC.out.mono ?_
  rintro r w1 ⟨hb, ⟨v, rfl, hT, hok⟩ | ⟨e, p, rfl, hno⟩⟩
  rotate_left
  · exact ⟨rfl, Or.inr ⟨e, p, rfl, hno, hb⟩⟩
  have hq1 : w1.cell? ⟨Q, 0, none⟩ = some x := (hb.cell (p := ⟨Q, 0, none⟩) hQ).trans hq
  have hz1 : w1.frozen? ⟨Q, 0, none⟩ = false := (hb.frozen (p := ⟨Q, 0, none⟩) hQ).trans hz
  have HG0 : Hid (w1.grownBy (w1.setCell ⟨Q, 0, none⟩ v) (some Q)) := grown_set (World.grownBy.refl _ _) _ _ (Or.inl rfl)
  have HG : Hid (w.grownBy (w1.setCell ⟨Q, 0, none⟩ v) (some Q)) := grown_set ⟨hb.os, hb.tape, hb.output, hb.size, fun k hk _ => hb.block k hk⟩ _ _ (by simp)
  have HC1 := mkHid (World.cell?_setCell_same w1 ⟨Q, 0, none⟩ v hq1)
  have HOK := mkHid hok
  have HB := mkHid hb
  have HT := mkHid hT
  obtain ⟨⟨za, zn, zc⟩, rfl⟩ := hT
  clear hok hb hq hz HC
  go_wp2
  go_end0
  exact Or.inl ⟨rfl, _, w1, HT.out, HOK.out, HC1.out, HG.out, HG0.out, HB.out⟩

theorem callMadeSt (args : Array Value) (w : World) : (callFunc 51 args).run Tryz.prog w = .ok (.enter 51 args) w := by kernel_rfl

theorem afterMadeSt (w w1 : World) (x : Value) (h : ((((w.alloc (.cells #[x] 82)).alloc (.cells #[.int .i64 0, .int .i64 0] 43)).alloc (.cells #[.slice none 0 0] 41)).alloc (.cells #[.int .i64 0, .int .i64 0] 43)).grownBy w1 (some (w.heap.size + 2))) :
    w1.heap[w.heap.size + 3]? = some (.cells #[.int .i64 0, .int .i64 0] 43 (0, 0)) ∧ Below w.heap.size w w1 ∧ w1.cell? ⟨w.heap.size + 1, 0, none⟩ = some (.int .i64 0) ∧ w1.cell? ⟨w.heap.size + 1, 1, none⟩ = some (.int .i64 0) ∧
      (∀ j, w1.frozen? ⟨w.heap.size + 1, j, none⟩ = false) ∧ w.heap.size + 4 ≤ w1.heap.size := by
  have hB0 : Below w.heap.size w ((((w.alloc (.cells #[x] 82)).alloc (.cells #[.int .i64 0, .int .i64 0] 43)).alloc (.cells #[.slice none 0 0] 41)).alloc (.cells #[.int .i64 0, .int .i64 0] 43)) := ((((Below.refl _ _).alloc (Nat.le_refl _) _).alloc (by simp) _).alloc (by simp; omega) _).alloc (by simp; omega) _
  have hz : ((((w.alloc (.cells #[x] 82)).alloc (.cells #[.int .i64 0, .int .i64 0] 43)).alloc (.cells #[.slice none 0 0] 41)).alloc (.cells #[.int .i64 0, .int .i64 0] 43)).heap.size = w.heap.size + 4 := by simp
  refine ⟨?_, below_of_grown hB0 h (by omega), ?_, ?_, ?_, by rw [← hz]; exact h.size⟩
  · rw [h.block (w.heap.size + 3) (by omega) (by simp)]
    show ((((w.heap.push _).push _).push _).push _)[w.heap.size + 3]? = _
    rw [Array.getElem?_push, if_pos (by simp)]
  · exact h.cell (a := ⟨w.heap.size + 1, 0, none⟩) (by simp [go_sem]) (by simp)
  · exact h.cell (a := ⟨w.heap.size + 1, 1, none⟩) (by simp [go_sem]) (by simp)
  · intro j
    rw [World.frozen?_of_block (a := ⟨w.heap.size + 1, j, none⟩) (h.block (w.heap.size + 1) (by omega) (by simp))]
    simp [go_sem]

set_option maxHeartbeats 2000000 in
theorem madeSt_any (w : World) (g : Nat) (cap : Array Value) (Ok : Value → World → Prop) (No : Int → Int → Prop) (hcf : ∀ args w, (callFunc g args).run Tryz.prog w = .ok (.enter g args) w)
    (hc : ∀ W, Below w.heap.size w W → W.heap.size = w.heap.size + 4 → Calls Tryz.prog g cap W fun r W' => Below W.heap.size W W' ∧ ((∃ v, r = .returned v ∧ (∃ z : Option Addr × Nat × Nat, v = .slice z.1 z.2.1 z.2.2) ∧ Ok v W') ∨ ∃ e p, r = .panicked [wrongV e p] ∧ No e p))
    (hst : ∀ v W W', w.heap.size + 4 ≤ W.heap.size → Far w.heap.size (w.heap.size + 4) W W' → Ok v W → Ok v W') :
    Calls Tryz.prog 22 #[.func (.func g) #[] cap] w fun r w' => Below w.heap.size w w' ∧ w.heap.size + 4 ≤ w'.heap.size ∧
      ((∃ v, r = .returned (.tuple #[v, .agg #[.int .i64 0, .int .i64 0]]) ∧ (∃ z : Option Addr × Nat × Nat, v = .slice z.1 z.2.1 z.2.2) ∧ Ok v w') ∨
       (∃ e p, r = .returned (.tuple #[.slice none 0 0, .agg #[.int .i64 e, .int .i64 p]]) ∧ No e p)) := by
  have hmf : ∀ (fn : Fn) (first cap : Array Value) (w : World), (Instr.makeFunc fn first cap).run Tryz.prog w = .ok (.func fn first cap) w := fun _ _ _ _ => rfl
  have hB0 : Below w.heap.size w (((w.alloc (.cells #[.func (.func g) #[] cap] 82)).alloc (.cells #[.int .i64 0, .int .i64 0] 43)).alloc (.cells #[.slice none 0 0] 41)) := (((Below.refl _ _).alloc (Nat.le_refl _) _).alloc (by simp) _).alloc (by simp; omega) _
  have hB1 := hB0.alloc hB0.size (.cells #[.int .i64 0, .int .i64 0] 43)
  have HC := mkHid hc
  have HST := mkHid hst
  have HCF := mkHid hcf
  clear hc hst hcf
  go_enter Tryz.func22, Tryz.ntmps22
  go_wp2_with fail
  refine (caught_any 51 _ _ (fun w1 => ∃ v, (∃ z : Option Addr × Nat × Nat, v = .slice z.1 z.2.1 z.2.2) ∧ w1.cell? ⟨w.heap.size + 2, 0, none⟩ = some v ∧ Ok v w1 ∧ Below w.heap.size w w1 ∧
    (∃ x y, w1.cell? ⟨w.heap.size + 1, 0, none⟩ = some x ∧ w1.cell? ⟨w.heap.size + 1, 1, none⟩ = some y) ∧ (∀ j, w1.frozen? ⟨w.heap.size + 1, j, none⟩ = false) ∧ w.heap.size + 4 ≤ w1.heap.size)
    (fun e p w1 => No e p ∧ w1.cell? ⟨w.heap.size + 2, 0, none⟩ = some (.slice none 0 0) ∧ Below w.heap.size w w1 ∧
    (∃ x y, w1.cell? ⟨w.heap.size + 1, 0, none⟩ = some x ∧ w1.cell? ⟨w.heap.size + 1, 1, none⟩ = some y) ∧ (∀ j, w1.frozen? ⟨w.heap.size + 1, j, none⟩ = false) ∧ w.heap.size + 4 ≤ w1.heap.size) (callMadeSt _) ?hc).mono ?_
  case hc =>
    refine (made1St_any _ g cap Ok No w.heap.size (w.heap.size + 2) (.slice none 0 0) HCF.out (by simp [go_sem]) (by simp [go_sem]) (by simp [go_sem]) (HC.out _ hB1 (by simp))).mono ?_
    rintro r w1 (⟨rfl, v, W', hT, hok, hc, hg, hg0, hbw⟩ | ⟨e, p, rfl, hd, hb⟩)
    · obtain ⟨a1, a2, a3, a4, a5, a6⟩ := afterMadeSt w w1 _ hg
      refine ⟨by simpa using a1, Or.inl ⟨rfl, v, hT, hc, ?_, a2, ⟨.int .i64 0, .int .i64 0, a3, a4⟩, a5, a6⟩⟩
      exact HST.out v W' w1 (by have := hbw.size; simp at this; omega) (Far.grown hg0 (by omega) (by omega)) hok
    · have hg2 : World.grownBy _ w1 (some (w.heap.size + 2)) := ⟨hb.os, hb.tape, hb.output, hb.size, fun k hk _ => hb.block k hk⟩
      obtain ⟨a1, a2, a3, a4, a5, a6⟩ := afterMadeSt w w1 _ hg2
      refine ⟨by simpa using a1, Or.inr ⟨e, p, rfl, hd, ?_, a2, ⟨.int .i64 0, .int .i64 0, a3, a4⟩, a5, a6⟩⟩
      exact (hb.cell (p := ⟨w.heap.size + 2, 0, none⟩) (by simp)).trans (by simp [go_sem])
  rintro r w2 ⟨w1, hg, hr⟩
  have hz : (((w.alloc (.cells #[.func (.func g) #[] cap] 82)).alloc (.cells #[.int .i64 0, .int .i64 0] 43)).alloc (.cells #[.slice none 0 0] 41)).heap.size = w.heap.size + 3 := by simp
  rw [hz] at hg
  clear hB0 hB1 hz HC HCF
  rcases hr with ⟨rfl, v, hT, hc, hok, hB, ⟨x, y, hx, hy⟩, hfz, hsz⟩ | ⟨e, p, rfl, hd, hc, hB, ⟨x, y, hx, hy⟩, hfz, hsz⟩
  · have c4 : w2.cell? ⟨w.heap.size + 1 + 1, 0, none⟩ = some v := hg.cell hc (by simp)
    have c30 : w2.cell? ⟨w.heap.size + 1, 0, none⟩ = some x := hg.cell hx (by simp)
    have c31 : w2.cell? ⟨w.heap.size + 1, 1, none⟩ = some y := hg.cell hy (by simp)
    have z3 : ∀ j, w2.frozen? ⟨w.heap.size + 1, j, none⟩ = false := fun j => (World.frozen?_of_block (a := ⟨w.heap.size + 1, j, none⟩) (hg.block (w.heap.size + 1) (by omega) (by simp))).trans (hfz j)
    have hsz2 : w.heap.size + 4 ≤ w2.heap.size := Nat.le_trans hsz hg.size
    have hlt1 : w.heap.size + 1 < w2.heap.size := by omega
    have hlt2 : w.heap.size + 1 + 1 < w2.heap.size := by omega
    have HT := mkHid hT
    have hB2 : Below w.heap.size w w2 := below_of_grown hB hg (by omega)
    have HO2 := mkHid (HST.out v w1 w2 hsz (Far.grown hg (by omega) (by omega)) hok)
    obtain ⟨⟨za, zn, zc⟩, rfl⟩ := hT
    clear hok hc hx hy hfz hg hB
    go_wp2_with fail
    go_region
    all_goals
      go_wp2
      obtain ⟨hg, q0, q1⟩ := fault_world w2 (w.heap.size + 1) 0 0 (.cells #[.int .i64 0, .int .i64 0] 43) c30 c31
      have hB3 := below_of_grown hB2 hg (by omega)
      have HO3 := mkHid (HST.out _ w2 _ hsz2 (Far.grown hg (by omega) (by omega)) HO2.out)
      have hz3 := Nat.le_trans hsz2 hg.size
      generalize ((w2.setCell ⟨w.heap.size + 1, 0, none⟩ (.int .i64 0)).setCell ⟨w.heap.size + 1, 1, none⟩ (.int .i64 0)).alloc (.cells #[.int .i64 0, .int .i64 0] 43) = W9 at *
      exact bodyPost_ret (v := .tuple #[_, .agg #[.int .i64 0, .int .i64 0]]) (by simp [results, Tryz.results22, go_sem, q0, q1]) rfl ⟨hB3.drew, hz3, Or.inl ⟨_, rfl, HT.out, HST.out _ W9 _ hz3 ⟨Nat.le_refl _, fun _ _ _ => rfl⟩ HO3.out⟩⟩
  · have c4 : w2.cell? ⟨w.heap.size + 1 + 1, 0, none⟩ = some (.slice none 0 0) := hg.cell hc (by simp)
    have c30 : w2.cell? ⟨w.heap.size + 1, 0, none⟩ = some x := hg.cell hx (by simp)
    have c31 : w2.cell? ⟨w.heap.size + 1, 1, none⟩ = some y := hg.cell hy (by simp)
    have z3 : ∀ j, w2.frozen? ⟨w.heap.size + 1, j, none⟩ = false := fun j => (World.frozen?_of_block (a := ⟨w.heap.size + 1, j, none⟩) (hg.block (w.heap.size + 1) (by omega) (by simp))).trans (hfz j)
    have hsz2 : w.heap.size + 4 ≤ w2.heap.size := Nat.le_trans hsz hg.size
    have hlt1 : w.heap.size + 1 < w2.heap.size := by omega
    have hlt2 : w.heap.size + 1 + 1 < w2.heap.size := by omega
    have HD := mkHid hd
    have hB2 : Below w.heap.size w w2 := below_of_grown hB hg (by omega)
    clear hd hc hx hy hfz hg hB HST
    go_wp2_with fail
    go_region
    all_goals
      go_wp2
      obtain ⟨hg, q0, q1⟩ := fault_world w2 (w.heap.size + 1) e p (.cells #[.int .i64 e, .int .i64 p] 43) c30 c31
      have hB3 := below_of_grown hB2 hg (by omega)
      have hz3 := Nat.le_trans hsz2 hg.size
      generalize ((w2.setCell ⟨w.heap.size + 1, 0, none⟩ (.int .i64 e)).setCell ⟨w.heap.size + 1, 1, none⟩ (.int .i64 p)).alloc (.cells #[.int .i64 e, .int .i64 p] 43) = W9 at *
      exact bodyPost_ret (v := .tuple #[.slice none 0 0, .agg #[.int .i64 e, .int .i64 p]]) (by simp [results, Tryz.results22, go_sem, q0, q1]) rfl ⟨hB3.drew, hz3, Or.inr ⟨_, _, rfl, HD.out⟩⟩
end Go.Proofs.YtkhconnebiiboaaGreatDoor
/- The contract of Made, for any callee that makes what takes some cells: what they have in common. -/
namespace Go.Proofs.YtkhconnebiiboaaGreatDoor
open Go.RowKit Go.Maps

/-- Cells of a block, set one behind the other. -/
def setL (w : World) (Q : Nat) : Nat → List Value → World
  | _, [] => w
  | o, c :: cs => setL (w.setCell ⟨Q, o, none⟩ c) Q (o + 1) cs
theorem setL_ok (Q : Nat) : ∀ (cs : List Value) (w : World) (o : Nat), (∀ j, j < cs.length → ∃ x, w.cell? ⟨Q, o + j, none⟩ = some x) → w.grownBy (setL w Q o cs) (some Q) ∧ (∀ j, j < cs.length → (setL w Q o cs).cell? ⟨Q, o + j, none⟩ = cs[j]?) ∧ ∀ i, i < o → (setL w Q o cs).cell? ⟨Q, i, none⟩ = w.cell? ⟨Q, i, none⟩
  | [], w, o, _ => ⟨World.grownBy.refl _ _, (fun j hj => by cases hj), fun _ _ => rfl⟩
  | c :: cs, w, o, h => by
    obtain ⟨x0, h0⟩ := h 0 (by simp)
    have hs := World.cell?_setCell_same w ⟨Q, o, none⟩ c h0
    have ho : ∀ i, i ≠ o → (w.setCell ⟨Q, o, none⟩ c).cell? ⟨Q, i, none⟩ = w.cell? ⟨Q, i, none⟩ := fun i hi => World.cell?_setCell_other _ _ _ _ (fun e => hi (congrArg Addr.off e).symm)
    obtain ⟨g, hc, hl⟩ := setL_ok Q cs (w.setCell ⟨Q, o, none⟩ c) (o + 1) (fun j hj => by
      obtain ⟨x, hx⟩ := h (j + 1) (by simpa using hj)
      refine ⟨x, ?_⟩
      rw [ho _ (by omega), show o + 1 + j = o + (j + 1) by omega]
      exact hx)
    refine ⟨(grown_set (World.grownBy.refl _ _) _ _ (Or.inl rfl)).trans g, fun j hj => ?_, fun i hi => (hl i (by omega)).trans (ho i (by omega))⟩
    cases j with
    | zero => rw [Nat.add_zero, setL, hl o (by omega)]; exact hs
    | succ j =>
      have := hc j (by simpa using hj)
      rw [show o + 1 + j = o + (j + 1) by omega] at this
      rw [setL, this]
      rfl
theorem grown_frz {w w' : World} {Q : Nat} (h : w.grownBy w' (some Q)) {b j : Nat} (hb : b < w.heap.size) (hne : b ≠ Q) : w'.frozen? ⟨b, j, none⟩ = w.frozen? ⟨b, j, none⟩ :=
  World.frozen?_of_block (a := ⟨b, j, none⟩) (h.block b hb (by simp <;> omega))
/-- What both ways leave behind the catch. -/
structure AftN (n : Nat) (w w1 : World) : Prop where
  B : Below w.heap.size w w1
  a : ∀ j, j < n → ∃ x, w1.cell? ⟨w.heap.size + 1, j, none⟩ = some x
  az : ∀ j, w1.frozen? ⟨w.heap.size + 1, j, none⟩ = false
  f : ∀ j, j < 2 → ∃ x, w1.cell? ⟨w.heap.size + 2, j, none⟩ = some x
  fz : ∀ j, w1.frozen? ⟨w.heap.size + 2, j, none⟩ = false
  sz : w.heap.size + 5 ≤ w1.heap.size
theorem AftN.grown {n : Nat} {w w1 w2 : World} (h : AftN n w w1) {q : Nat} (hg : w1.grownBy w2 (some (w.heap.size + q))) (hq : 3 ≤ q) : AftN n w w2 :=
  have hs := h.sz
  ⟨below_of_grown h.B hg (by omega), fun j hj => (h.a j hj).imp fun _ hx => hg.cell hx (by simp <;> omega), fun j => (grown_frz hg (by omega) (by omega)).trans (h.az j), fun j hj => (h.f j hj).imp fun _ hx => hg.cell hx (by simp <;> omega), fun j => (grown_frz hg (by omega) (by omega)).trans (h.fz j), Nat.le_trans hs hg.size⟩
theorem finN {n : Nat} {w w2 : World} (h : AftN n w w2) (cs : List Value) (hn : cs.length = n) (e p : Int) (o : Obj) : ∃ W9, W9 = (setL (setL w2 (w.heap.size + 1) 0 cs) (w.heap.size + 1 + 1) 0 [.int .i64 e, .int .i64 p]).alloc o ∧ Below w.heap.size w W9 ∧ Far w.heap.size (w.heap.size + 5) w2 W9 ∧ w.heap.size + 5 ≤ W9.heap.size ∧
    (∀ j, j < n → W9.cell? ⟨w.heap.size + 1, j, none⟩ = cs[j]?) ∧ W9.cell? ⟨w.heap.size + 1 + 1, 0, none⟩ = some (.int .i64 e) ∧ W9.cell? ⟨w.heap.size + 1 + 1, 1, none⟩ = some (.int .i64 p) := by
  have hs := h.sz
  obtain ⟨G1, p1, -⟩ := setL_ok (w.heap.size + 1) cs w2 0 (fun j hj => by rw [Nat.zero_add]; exact h.a j (by omega))
  have s1 := G1.size
  generalize setL w2 (w.heap.size + 1) 0 cs = W1 at *
  obtain ⟨G2, p2, -⟩ := setL_ok (w.heap.size + 1 + 1) [.int .i64 e, .int .i64 p] W1 0 (fun j hj => by
    rw [Nat.zero_add]
    obtain ⟨x, hx⟩ := h.f j (by simpa using hj)
    exact ⟨x, G1.cell hx (by simp)⟩)
  have s2 := G2.size
  have hB : Below w.heap.size w _ := below_of_grown (below_of_grown h.B G1 (by omega)) G2 (by omega)
  have hF : Far w.heap.size (w.heap.size + 5) w2 _ := (Far.grown G1 (by omega) (by omega)).trans (Far.grown G2 (by omega) (by omega))
  have p3 : ∀ j, j < n → (setL W1 (w.heap.size + 1 + 1) 0 [.int .i64 e, .int .i64 p]).cell? ⟨w.heap.size + 1, j, none⟩ = cs[j]? := fun j hj => by
    have hx := p1 j (by omega)
    rw [Nat.zero_add] at hx
    have : cs[j]? = some (cs[j]'(by omega)) := List.getElem?_eq_getElem (by omega)
    rw [this] at hx ⊢
    exact G2.cell hx (by simp)
  generalize setL W1 (w.heap.size + 1 + 1) 0 [.int .i64 e, .int .i64 p] = W2 at *
  have hA : Below W2.heap.size W2 (W2.alloc o) := (Below.refl _ _).alloc (Nat.le_refl _) _
  refine ⟨_, rfl, hB.trans (hA.mono hB.size), hF.trans (Far.below hA), by have := hA.size; omega, fun j hj => (hA.cell (p := ⟨w.heap.size + 1, j, none⟩) (by show w.heap.size + 1 < _; omega)).trans (p3 j hj), ?_, ?_⟩
  · exact (hA.cell (p := ⟨w.heap.size + 1 + 1, 0, none⟩) (by show w.heap.size + 1 + 1 < _; omega)).trans (p2 0 (by simp))
  · exact (hA.cell (p := ⟨w.heap.size + 1 + 1, 1, none⟩) (by show w.heap.size + 1 + 1 < _; omega)).trans (p2 1 (by simp))
end Go.Proofs.YtkhconnebiiboaaGreatDoor
/- The contract of Made, for any callee that makes a kind. -/
namespace Go.Proofs.YtkhconnebiiboaaGreatDoor
open Go.RowKit Go.Maps

def IsKk (v : Value) : Prop := ∃ (a0 : Int) (a1 : ByteArray), v = .agg #[.int .i64 a0, .string a1]
set_option maxRecDepth 100000 in
set_option maxHeartbeats 1000000 in
theorem made1Kk_any (w : World) (g : Nat) (cap : Array Value) (Ok : Value → World → Prop) (No : Int → Int → Prop) (Pf Q : Nat) (hcf : ∀ args w, (callFunc g args).run Tryz.prog w = .ok (.enter g args) w)
    (hpf : w.cell? ⟨Pf, 0, none⟩ = some (.func (.func g) #[] cap)) (hq : ∀ j, j < 2 → ∃ x, w.cell? ⟨Q, j, none⟩ = some x) (hz : ∀ j, w.frozen? ⟨Q, j, none⟩ = false)
    (hc : Calls Tryz.prog g cap w fun r W' => Below w.heap.size w W' ∧ ((∃ v, r = .returned v ∧ IsKk v ∧ Ok v W') ∨ ∃ e p, r = .panicked [wrongV e p] ∧ No e p)) :
    Calls Tryz.prog 41 #[.pointer (some ⟨Pf, 0, none⟩), .pointer (some ⟨Q, 0, none⟩)] w fun r w' =>
      (r = .returned (.tuple #[]) ∧ ∃ (v : Value) (W' : World), IsKk v ∧ Ok v W' ∧ (∀ j, j < 2 → w'.cell? ⟨Q, j, none⟩ = v.cells[j]?) ∧ w.grownBy w' (some Q) ∧ W'.grownBy w' (some Q) ∧ Below w.heap.size w W') ∨
      (∃ e p, r = .panicked [wrongV e p] ∧ No e p ∧ Below w.heap.size w w') := by
  have hQ : Q < w.heap.size := by obtain ⟨x, hx⟩ := hq 0 (by decide); exact World.block_lt_of_cell? w _ hx
  have HC := mkHid hc
  clear hc
  go_enter Tryz.func41, Tryz.ntmps41
  go_wp2_with fail
  refine HC.out.mono ?_
  rintro r w1 ⟨hb, ⟨v, rfl, ⟨a0, a1, rfl⟩, hok⟩ | ⟨e, p, rfl, hno⟩⟩
  rotate_left
  · exact ⟨rfl, Or.inr ⟨e, p, rfl, hno, hb⟩⟩
  have hq2 : ∀ j, j < 2 → ∃ x, w1.cell? ⟨Q, j, none⟩ = some x := fun j hj => (hq j hj).imp fun x hx => (hb.cell (p := ⟨Q, j, none⟩) hQ).trans hx
  obtain ⟨x0, hx0⟩ := hq2 0 (by decide)
  obtain ⟨x1, hx1⟩ := hq2 1 (by decide)
  have hz1 : ∀ j, w1.frozen? ⟨Q, j, none⟩ = false := fun j => (hb.frozen (p := ⟨Q, j, none⟩) hQ).trans (hz j)
  have HT := mkHid (setL_ok Q [.int .i64 a0, .string a1] w1 0 (fun j hj => by rw [Nat.zero_add]; exact hq2 j (by simpa using hj)))
  have HG0 : Hid (w.grownBy w1 (some Q)) := ⟨hb.os, hb.tape, hb.output, hb.size, fun k hk _ => hb.block k hk⟩
  have HOK := mkHid hok
  have HB := mkHid hb
  clear hok hb hq hz HC hq2
  go_wp2
  go_end0
  refine Or.inl ⟨rfl, .agg #[.int .i64 a0, .string a1], w1, ⟨a0, a1, rfl⟩, HOK.out, fun j hj => ?_, HG0.out.trans HT.out.1, HT.out.1, HB.out⟩
  have := HT.out.2.1 j (by simpa using hj)
  rw [Nat.zero_add] at this
  refine Eq.trans this ?_
  simp [Value.cells]

theorem callMadeKk (args : Array Value) (w : World) : (callFunc 41 args).run Tryz.prog w = .ok (.enter 41 args) w := by kernel_rfl

theorem afterMadeKk (w w1 : World) (x : Value) (h : (((((w.alloc (.cells #[x] 66)).alloc (.cells #[.int .i64 0, .string ⟨#[]⟩] 24)).alloc (.cells #[.int .i64 0, .int .i64 0] 43)).alloc (.cells #[.int .i64 0, .string ⟨#[]⟩] 24)).alloc (.cells #[.int .i64 0, .int .i64 0] 43)).grownBy w1 (some (w.heap.size + 3))) : w1.heap[w.heap.size + 4]? = some (.cells #[.int .i64 0, .int .i64 0] 43 (0, 0)) ∧ AftN 2 w w1 := by
  have hB0 : Below w.heap.size w (((((w.alloc (.cells #[x] 66)).alloc (.cells #[.int .i64 0, .string ⟨#[]⟩] 24)).alloc (.cells #[.int .i64 0, .int .i64 0] 43)).alloc (.cells #[.int .i64 0, .string ⟨#[]⟩] 24)).alloc (.cells #[.int .i64 0, .int .i64 0] 43)) := (((((Below.refl _ _).alloc (Nat.le_refl _) _).alloc (by simp) _).alloc (by simp <;> omega) _).alloc (by simp <;> omega) _).alloc (by simp <;> omega) _
  have hz : (((((w.alloc (.cells #[x] 66)).alloc (.cells #[.int .i64 0, .string ⟨#[]⟩] 24)).alloc (.cells #[.int .i64 0, .int .i64 0] 43)).alloc (.cells #[.int .i64 0, .string ⟨#[]⟩] 24)).alloc (.cells #[.int .i64 0, .int .i64 0] 43)).heap.size = w.heap.size + 5 := by simp
  have hb1 : (((((w.alloc (.cells #[x] 66)).alloc (.cells #[.int .i64 0, .string ⟨#[]⟩] 24)).alloc (.cells #[.int .i64 0, .int .i64 0] 43)).alloc (.cells #[.int .i64 0, .string ⟨#[]⟩] 24)).alloc (.cells #[.int .i64 0, .int .i64 0] 43)).heap[w.heap.size + 1]? = some (.cells #[.int .i64 0, .string ⟨#[]⟩] 24 (0, 0)) := (Below.heap_alloc _ _ _ (by simp <;> omega)).trans ((Below.heap_alloc _ _ _ (by simp <;> omega)).trans ((Below.heap_alloc _ _ _ (by simp)).trans (by
    have := heap_alloc_new (w.alloc (.cells #[x] 66)) (.cells #[.int .i64 0, .string ⟨#[]⟩] 24)
    simpa using this)))
  have hb2 : (((((w.alloc (.cells #[x] 66)).alloc (.cells #[.int .i64 0, .string ⟨#[]⟩] 24)).alloc (.cells #[.int .i64 0, .int .i64 0] 43)).alloc (.cells #[.int .i64 0, .string ⟨#[]⟩] 24)).alloc (.cells #[.int .i64 0, .int .i64 0] 43)).heap[w.heap.size + 2]? = some (.cells #[.int .i64 0, .int .i64 0] 43 (0, 0)) := (Below.heap_alloc _ _ _ (by simp <;> omega)).trans ((Below.heap_alloc _ _ _ (by simp)).trans (by
    have := heap_alloc_new ((w.alloc (.cells #[x] 66)).alloc (.cells #[.int .i64 0, .string ⟨#[]⟩] 24)) (.cells #[.int .i64 0, .int .i64 0] 43)
    simpa using this))
  have k1 := (h.block (w.heap.size + 1) (by omega) (by simp)).trans hb1
  have k2 := (h.block (w.heap.size + 2) (by omega) (by simp)).trans hb2
  refine ⟨?_, below_of_grown hB0 h (by omega), fun j hj => ?_, fun j => frz_of k1 j, fun j hj => ?_, fun j => frz_of k2 j, by rw [← hz]; exact h.size⟩
  · rw [h.block (w.heap.size + 4) (by omega) (by simp)]
    show (((((w.heap.push _).push _).push _).push _).push _)[w.heap.size + 4]? = _
    rw [Array.getElem?_push, if_pos (by simp)]
  · exact ⟨_, cell_of k1 j (x := [.int .i64 0, .string ⟨#[]⟩][j]'(by simpa using hj)) (by rw [← List.getElem_toArray (by simpa using hj)]; exact Array.getElem?_eq_getElem (by simpa using hj))⟩
  · exact ⟨_, cell_of k2 j (x := [Value.int .i64 0, .int .i64 0][j]'(by simpa using hj)) (by rw [← List.getElem_toArray (by simpa using hj)]; exact Array.getElem?_eq_getElem (by simpa using hj))⟩

set_option maxRecDepth 100000 in
set_option maxHeartbeats 4000000 in
theorem madeKk_any (w : World) (g : Nat) (cap : Array Value) (Ok : Value → World → Prop) (No : Int → Int → Prop) (hcf : ∀ args w, (callFunc g args).run Tryz.prog w = .ok (.enter g args) w)
    (hc : ∀ W, Below w.heap.size w W → W.heap.size = w.heap.size + 5 → Calls Tryz.prog g cap W fun r W' => Below W.heap.size W W' ∧ ((∃ v, r = .returned v ∧ IsKk v ∧ Ok v W') ∨ ∃ e p, r = .panicked [wrongV e p] ∧ No e p))
    (hst : ∀ v W W', w.heap.size + 5 ≤ W.heap.size → Far w.heap.size (w.heap.size + 5) W W' → Ok v W → Ok v W') :
    Calls Tryz.prog 15 #[.func (.func g) #[] cap] w fun r w' => Below w.heap.size w w' ∧ w.heap.size + 5 ≤ w'.heap.size ∧
      ((∃ v, r = .returned (.tuple #[v, .agg #[.int .i64 0, .int .i64 0]]) ∧ IsKk v ∧ Ok v w') ∨
       (∃ e p, r = .returned (.tuple #[.agg #[.int .i64 0, .string ⟨#[]⟩], .agg #[.int .i64 e, .int .i64 p]]) ∧ No e p)) := by
  have hmf : ∀ (fn : Fn) (first cap : Array Value) (w : World), (Instr.makeFunc fn first cap).run Tryz.prog w = .ok (.func fn first cap) w := fun _ _ _ _ => rfl
  have hB0 : Below w.heap.size w ((((w.alloc (.cells #[.func (.func g) #[] cap] 66)).alloc (.cells #[.int .i64 0, .string ⟨#[]⟩] 24)).alloc (.cells #[.int .i64 0, .int .i64 0] 43)).alloc (.cells #[.int .i64 0, .string ⟨#[]⟩] 24)) := ((((Below.refl _ _).alloc (Nat.le_refl _) _).alloc (by simp) _).alloc (by simp <;> omega) _).alloc (by simp <;> omega) _
  have hB1 := hB0.alloc hB0.size (.cells #[.int .i64 0, .int .i64 0] 43)
  have HC := mkHid hc
  have HST := mkHid hst
  have HCF := mkHid hcf
  clear hc hst hcf
  go_enter Tryz.func15, Tryz.ntmps15
  go_wp2_with fail
  refine (caught_any 41 _ _ (fun w1 => ∃ v, IsKk v ∧ (∀ j, j < 2 → w1.cell? ⟨w.heap.size + 3, j, none⟩ = v.cells[j]?) ∧ Ok v w1 ∧ AftN 2 w w1)
    (fun e p w1 => No e p ∧ (∀ j, j < 2 → w1.cell? ⟨w.heap.size + 3, j, none⟩ = [.int .i64 0, .string ⟨#[]⟩][j]?) ∧ AftN 2 w w1) (callMadeKk _) ?hc).mono ?_
  case hc =>
    have hb3 : ((((w.alloc (.cells #[.func (.func g) #[] cap] 66)).alloc (.cells #[.int .i64 0, .string ⟨#[]⟩] 24)).alloc (.cells #[.int .i64 0, .int .i64 0] 43)).alloc (.cells #[.int .i64 0, .string ⟨#[]⟩] 24)).heap[w.heap.size + 3]? = some (.cells #[.int .i64 0, .string ⟨#[]⟩] 24 (0, 0)) := by
      have := heap_alloc_new (((w.alloc (.cells #[.func (.func g) #[] cap] 66)).alloc (.cells #[.int .i64 0, .string ⟨#[]⟩] 24)).alloc (.cells #[.int .i64 0, .int .i64 0] 43)) (.cells #[.int .i64 0, .string ⟨#[]⟩] 24)
      simpa using this
    have hb4 := (Below.heap_alloc ((((w.alloc (.cells #[.func (.func g) #[] cap] 66)).alloc (.cells #[.int .i64 0, .string ⟨#[]⟩] 24)).alloc (.cells #[.int .i64 0, .int .i64 0] 43)).alloc (.cells #[.int .i64 0, .string ⟨#[]⟩] 24)) (.cells #[.int .i64 0, .int .i64 0] 43) _ (lt_of hb3)).trans hb3
    refine (made1Kk_any _ g cap Ok No w.heap.size (w.heap.size + 3) HCF.out (by simp [go_sem]) (fun j hj => ⟨_, cell_of hb4 j (x := [.int .i64 0, .string ⟨#[]⟩][j]'(by simpa using hj)) (by rw [← List.getElem_toArray (by simpa using hj)]; exact Array.getElem?_eq_getElem (by simpa using hj))⟩) (fun j => frz_of hb4 j) (HC.out _ hB1 (by simp))).mono ?_
    rintro r w1 (⟨rfl, v, W', hv, hok, hc0, hg, hg0, hbw⟩ | ⟨e, p, rfl, hd, hb⟩)
    · obtain ⟨a1, a2⟩ := afterMadeKk w w1 _ hg
      refine ⟨by simpa using a1, Or.inl ⟨rfl, v, hv, hc0, ?_, a2⟩⟩
      exact HST.out _ W' w1 (by have := hbw.size; simp at this; omega) (Far.grown hg0 (by omega) (by omega)) hok
    · have hg2 : World.grownBy _ w1 (some (w.heap.size + 3)) := ⟨hb.os, hb.tape, hb.output, hb.size, fun k hk _ => hb.block k hk⟩
      obtain ⟨a1, a2⟩ := afterMadeKk w w1 _ hg2
      refine ⟨by simpa using a1, Or.inr ⟨e, p, rfl, hd, fun j hj => ?_, a2⟩⟩
      refine (cell_of ((hb.block (w.heap.size + 3) (lt_of hb4)).trans hb4) j (x := [.int .i64 0, .string ⟨#[]⟩][j]'(by simpa using hj)) (by rw [← List.getElem_toArray (by simpa using hj)]; exact Array.getElem?_eq_getElem (by simpa using hj))).trans (List.getElem?_eq_getElem (by simpa using hj)).symm
  rintro r w2 ⟨w1, hg, hr⟩
  have hz : ((((w.alloc (.cells #[.func (.func g) #[] cap] 66)).alloc (.cells #[.int .i64 0, .string ⟨#[]⟩] 24)).alloc (.cells #[.int .i64 0, .int .i64 0] 43)).alloc (.cells #[.int .i64 0, .string ⟨#[]⟩] 24)).heap.size = w.heap.size + 4 := by simp
  rw [hz] at hg
  clear hB0 hB1 hz HC HCF
  rcases hr with ⟨rfl, v, hv, hc0, hok, hA⟩ | ⟨e, p, rfl, hd, hc0, hA⟩
  · have HV := mkHid hv
    obtain ⟨a0, a1, rfl⟩ := hv
    have m0 : w2.cell? ⟨w.heap.size + 1 + 1 + 1, 0, none⟩ = some (.int .i64 a0) := hg.cell ((hc0 0 (by decide)).trans (by simp [Value.cells])) (by simp)
    have m1 : w2.cell? ⟨w.heap.size + 1 + 1 + 1, 1, none⟩ = some (.string a1) := hg.cell ((hc0 1 (by decide)).trans (by simp [Value.cells])) (by simp)
    have hA2 := hA.grown hg (by omega)
    have HO2 := mkHid (HST.out _ w1 w2 hA.sz (Far.grown hg (by omega) (by omega)) hok)
    have HA2 := mkHid hA2
    obtain ⟨x0, hx0⟩ := hA2.a 0 (by decide)
    obtain ⟨x1, hx1⟩ := hA2.a 1 (by decide)
    obtain ⟨y0, g0⟩ := hA2.f 0 (by decide)
    obtain ⟨y1, g1⟩ := hA2.f 1 (by decide)
    have z1 := hA2.az
    have z2 := hA2.fz
    have hsz := hA2.sz
    have l1 : w.heap.size + 1 < w2.heap.size := by omega
    have l2 : w.heap.size + 1 + 1 < w2.heap.size := by omega
    have l3 : w.heap.size + 1 + 1 + 1 < w2.heap.size := by omega
    clear hok hc0 hg hA hA2
    go_wp2_with fail
    go_region
    all_goals
      go_wp2
      obtain ⟨W9, h9, hB9, hF9, hz9, hq9, r0, r1⟩ := finN HA2.out [.int .i64 a0, .string a1] rfl 0 0 (.cells #[.int .i64 0, .int .i64 0] 43)
      rw [show (setL (setL w2 (w.heap.size + 1) 0 [.int .i64 a0, .string a1]) (w.heap.size + 1 + 1) 0 [.int .i64 0, .int .i64 0]).alloc (.cells #[.int .i64 0, .int .i64 0] 43) = (((((w2.setCell ⟨w.heap.size + 1, 0, none⟩ (.int .i64 a0)).setCell ⟨w.heap.size + 1, 1, none⟩ (.string a1)).setCell ⟨w.heap.size + 1 + 1, 0, none⟩ (.int .i64 0)).setCell ⟨w.heap.size + 1 + 1, 1, none⟩ (.int .i64 0))).alloc (.cells #[.int .i64 0, .int .i64 0] 43) from rfl] at h9
      rw [← h9]
      have hh0 := hq9 0 (by decide)
      have hh1 := hq9 1 (by decide)
      exact bodyPost_ret (v := .tuple #[.agg #[.int .i64 a0, .string a1], .agg #[.int .i64 0, .int .i64 0]]) (by simp [results, Tryz.results15, go_sem, hh0, hh1, r0, r1]) rfl ⟨hB9.drew, hz9, Or.inl ⟨_, rfl, HV.out, HST.out _ w2 _ hsz (hF9.trans ⟨Nat.le_refl _, fun _ _ _ => rfl⟩) HO2.out⟩⟩
  · have m0 : w2.cell? ⟨w.heap.size + 1 + 1 + 1, 0, none⟩ = some (.int .i64 0) := hg.cell ((hc0 0 (by decide)).trans rfl) (by simp)
    have m1 : w2.cell? ⟨w.heap.size + 1 + 1 + 1, 1, none⟩ = some (.string ⟨#[]⟩) := hg.cell ((hc0 1 (by decide)).trans rfl) (by simp)
    have hA2 := hA.grown hg (by omega)
    have HD := mkHid hd
    have HA2 := mkHid hA2
    obtain ⟨x0, hx0⟩ := hA2.a 0 (by decide)
    obtain ⟨x1, hx1⟩ := hA2.a 1 (by decide)
    obtain ⟨y0, g0⟩ := hA2.f 0 (by decide)
    obtain ⟨y1, g1⟩ := hA2.f 1 (by decide)
    have z1 := hA2.az
    have z2 := hA2.fz
    have hsz := hA2.sz
    have l1 : w.heap.size + 1 < w2.heap.size := by omega
    have l2 : w.heap.size + 1 + 1 < w2.heap.size := by omega
    have l3 : w.heap.size + 1 + 1 + 1 < w2.heap.size := by omega
    clear hd hc0 hg hA hA2 HST
    go_wp2_with fail
    go_region
    all_goals
      go_wp2
      obtain ⟨W9, h9, hB9, hF9, hz9, hq9, r0, r1⟩ := finN HA2.out [.int .i64 0, .string ⟨#[]⟩] rfl e p (.cells #[.int .i64 e, .int .i64 p] 43)
      rw [show (setL (setL w2 (w.heap.size + 1) 0 [.int .i64 0, .string ⟨#[]⟩]) (w.heap.size + 1 + 1) 0 [.int .i64 e, .int .i64 p]).alloc (.cells #[.int .i64 e, .int .i64 p] 43) = (((((w2.setCell ⟨w.heap.size + 1, 0, none⟩ (.int .i64 0)).setCell ⟨w.heap.size + 1, 1, none⟩ (.string ⟨#[]⟩)).setCell ⟨w.heap.size + 1 + 1, 0, none⟩ (.int .i64 e)).setCell ⟨w.heap.size + 1 + 1, 1, none⟩ (.int .i64 p))).alloc (.cells #[.int .i64 e, .int .i64 p] 43) from rfl] at h9
      rw [← h9]
      have hh0 := hq9 0 (by decide)
      have hh1 := hq9 1 (by decide)
      exact bodyPost_ret (v := .tuple #[.agg #[.int .i64 0, .string ⟨#[]⟩], .agg #[.int .i64 e, .int .i64 p]]) (by simp [results, Tryz.results15, go_sem, hh0, hh1, r0, r1]) rfl ⟨hB9.drew, hz9, Or.inr ⟨_, _, rfl, HD.out⟩⟩
end Go.Proofs.YtkhconnebiiboaaGreatDoor
