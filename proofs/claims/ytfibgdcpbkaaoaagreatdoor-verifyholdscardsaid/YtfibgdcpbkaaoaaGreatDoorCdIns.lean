/- The contract of the decoder's method that reads one operation. -/
import Derived.Test.YtfibgdcpbkaaoaaGreatDoorCdLeaf
import Derived.Deep.DeepCutAuto
namespace Go.Proofs.YtfibgdcpbkaaoaaGreatDoor.Cd
set_option maxRecDepth 100000
open Go.RowKit
theorem isOp_yes (w : World) (n : Int) (h0 : 0 ≤ n) (h1 : n < 37) : Calls Tryz.prog 101 #[.int .i64 n] w fun r w' => r = .returned (.bool true) ∧ w' = w := by
  refine (isOp_any w n).mono ?_
  rintro r w' ⟨rfl, rfl⟩
  simp [h0, h1]
theorem isOp_not (w : World) (n : Int) (h1 : ¬ n < 37) : Calls Tryz.prog 101 #[.int .i64 n] w fun r w' => r = .returned (.bool false) ∧ w' = w := by
  refine (isOp_any w n).mono ?_
  rintro r w' ⟨rfl, rfl⟩
  simp [h1]
structure Mid (w W : World) (b : Nat) (s : ByteArray) (p o : Nat) : Prop where
  grown : w.grownBy W (some b)
  rd : Rd W b s (p + 1)
  x0 : W.cell? ⟨w.heap.size + 1, 0, none⟩ = some (.int .i64 p)
  x1 : W.cell? ⟨w.heap.size + 1, 1, none⟩ = some (.int .i64 o)
  x2 : W.cell? ⟨w.heap.size + 1, 2, none⟩ = some (.int .i64 0)
  x3 : W.cell? ⟨w.heap.size + 1, 3, none⟩ = some (.int .i64 0)
  xf : ∀ j, W.frozen? ⟨w.heap.size + 1, j, none⟩ = false
  r0 : W.cell? ⟨w.heap.size, 0, none⟩ = some (.int .i64 0)
  r1 : W.cell? ⟨w.heap.size, 1, none⟩ = some (.int .i64 0)
  r2 : W.cell? ⟨w.heap.size, 2, none⟩ = some (.int .i64 0)
  r3 : W.cell? ⟨w.heap.size, 3, none⟩ = some (.int .i64 0)
  rf : ∀ j, W.frozen? ⟨w.heap.size, j, none⟩ = false
  size : W.heap.size = w.heap.size + 2
theorem grown_set {w W : World} {b : Nat} (h : w.grownBy W (some b)) (a : Addr) (u : Value) (ha : a.block = b ∨ w.heap.size ≤ a.block) : w.grownBy (W.setCell a u) (some b) :=
  ⟨h.os, h.tape, h.output, by simpa [World.setCell] using h.size, fun k hk hne => by
    rw [Below.heap_setCell _ _ _ _ (by intro e; subst e; rcases ha with ha | ha; · exact hne (by rw [ha])
                                       · omega)]
    exact h.block k hk hne⟩
theorem grown_alloc {w W : World} {b : Nat} (h : w.grownBy W (some b)) (o : Obj) : w.grownBy (W.alloc o) (some b) :=
  ⟨h.os, h.tape, h.output, Nat.le_trans h.size (by simp), fun k hk hne => by
    rw [Below.heap_alloc _ _ _ (Nat.lt_of_lt_of_le hk h.size)]
    exact h.block k hk hne⟩
theorem grown_drewN {w W : World} {b : Nat} (h : w.grownBy W (some b)) (n : Nat) : w.grownBy (W.drewN n) (some b) := ⟨h.os, h.tape, h.output, h.size, h.block⟩
theorem Mid.drewN {w W : World} {b : Nat} {s : ByteArray} {p o : Nat} (h : Mid w W b s p o) (n : Nat) : Mid w (W.drewN n) b s p o :=
  ⟨grown_drewN h.grown n, h.rd.drewN n, h.x0, h.x1, h.x2, h.x3, h.xf, h.r0, h.r1, h.r2, h.r3, h.rf, h.size⟩
theorem mid_start (w : World) (b : Nat) (s : ByteArray) (p o : Nat) (h : Rd w b s p) (q nq : Nat) (hp : ((p : Int) + 1) = ((p + 1 : Nat) : Int)) : Mid w ((((((w.setCell { block := b, off := 1 } (Value.int IntKind.i64 (↑p + 1))).alloc (Obj.cells #[Value.int IntKind.i64 0, Value.int IntKind.i64 0, Value.int IntKind.i64 0, Value.int IntKind.i64 0] 55)).alloc
    (Obj.cells #[Value.int IntKind.i64 ↑p, Value.int IntKind.i64 0, Value.int IntKind.i64 0, Value.int IntKind.i64 0] 55)).drewN q).setCell { block := w.heap.size + 1, off := 1 } (Value.int IntKind.i64 ↑o)).drewN nq) b s p o := by
  have hb := h.lt
  constructor
  · exact grown_drewN (grown_set (grown_drewN (grown_alloc (grown_alloc (grown_set (World.grownBy.refl _ _) _ _ (Or.inl rfl)) _) _) _) _ _ (Or.inr (by simp))) _
  · rw [hp]
    exact ((((((h.setAt _).alloc _).alloc _).drewN _).setOther _ _ (by simp; omega)).drewN _)
  all_goals simp [go_sem]
set_option maxHeartbeats 1000000 in
theorem ins_ok (w : World) (b : Nat) (s : ByteArray) (p : Nat) (h : Rd w b s p) (hs : s.size ≤ maxLen) (hp : p < s.size) (o k : Nat) (ho : o < 37) (hso : Hid (bt s p = o)) (hk : k < 5)
    (ht : w.cell? ⟨5, o, none⟩ = some (.int .i64 k)) (hr : w.cell? ⟨4, k * 4, none⟩ = some (.int .i64 (mOf k))) (h0b : 5 < b) (hm : p + 1 + mOf k ≤ s.size) :
    Calls Tryz.prog 57 #[.pointer (some ⟨b, 0, none⟩)] w fun r w' => r = .returned (.agg #[.int .i64 p, .int .i64 o, .int .i64 (argA k s p), .int .i64 (argB k s p)]) ∧ w.grownBy w' (some b) ∧ Rd w' b s (p + 1 + mOf k) := by
  have hs' := hs
  unfold maxLen at hs'
  have hb := h.lt
  have hpc : ((p : Int) + 1) = ((p + 1 : Nat) : Int) := by omega
  have HP : Hid (((p : Int) + 1) = ((p + 1 : Nat) : Int)) := hpc
  clear hpc
  go_enter Tryz.func57, Tryz.ntmps57
  go_wp2_with fail
  refine (at_any _ b s p ?_).mono ?_
  · exact h.alloc _
  rintro r w' ⟨rfl, rfl⟩
  go_wp2_with fail
  refine (count_ok _ b s p ?_ hs hp).mono ?_
  · exact (h.alloc _).alloc _
  rintro r w' ⟨rfl, q, rfl⟩
  rw [hso.out]
  go_wp2_with fail
  go_cut [] (fun W => Mid w W b s p o)
  case first =>
    go_quiet (first | (go_at_call 101; exact Calls.quiet_of_same (isOp_yes _ _ (by omega) (by omega))) | (go_at_call 47; exact Calls.quiet_of_same (demand_ok _ _ _)))
    go_wp2_with fail
    go_meet
    exact mid_start w b s p o h _ _ HP.out
  case rest =>
    have hw0 : wc.cell? ⟨5, o, none⟩ = some (.int .i64 k) := hcut.grown.cell ht (by simp; omega)
    have hw1 : wc.cell? ⟨4, k * 4, none⟩ = some (.int .i64 (mOf k)) := hcut.grown.cell hr (by simp; omega)
    have HC := hcut
    obtain ⟨g1, g2, x0, x1, x2, x3, xf, r0, r1, r2, r3, rf, z⟩ := hcut
    go_wp2_with fail
    go_cut [] (fun W => Mid w W b s p o)
    case first =>
      go_quiet (first | (go_at_call 98; exact Calls.quiet_of (left_any _ b s (p + 1) (g2.drewN _) (by omega) hs)) | (go_at_call 47; exact Calls.quiet_of_same (demand_yes _ (by simp; omega) _ _ _)))
      go_wp2_with fail
      go_meet
      exact HC.drewN _
    case rest =>
      clear hw0 hw1 g1 g2 x0 x1 x2 x3 xf r0 r1 r2 r3 rf z HC
      have hw0 : wc.cell? ⟨5, o, none⟩ = some (.int .i64 k) := hcut.grown.cell ht (by simp; omega)
      obtain ⟨g1, g2, x0, x1, x2, x3, xf, r0, r1, r2, r3, rf, z⟩ := hcut
      obtain rfl | rfl | rfl | rfl | rfl : k = 0 ∨ k = 1 ∨ k = 2 ∨ k = 3 ∨ k = 4 := by omega
      · go_wp2
        refine bodyPost_ret (v := .agg #[.int .i64 p, .int .i64 o, .int .i64 0, .int .i64 0]) (by simp [results, Tryz.results57, go_sem, r0, r1, r2, r3]) rfl ⟨rfl, ?_, ?_⟩
        · exact grown_set (grown_set (grown_set (grown_set g1 _ _ (by simp)) _ _ (by simp)) _ _ (by simp)) _ _ (by simp)
        · exact (((g2.setOther _ _ (by simp; omega)).setOther _ _ (by simp; omega)).setOther _ _ (by simp; omega)).setOther _ _ (by simp; omega)
      · go_wp2_with fail
        refine (number_ok _ b s (p + 1) g2 hs (by simp [mOf] at hm; omega)).mono ?_
        rintro r w' ⟨rfl, q', rfl⟩
        go_wp2
        have e := sg_eq (bt s (p + 1)) (bt s (p + 1 + 1)) (bt_lt _ _) (bt_lt _ _)
        refine bodyPost_ret (v := .agg #[.int .i64 p, .int .i64 o, .int .i64 (wrap64 (IntKind.i16.wrap (256 * bt s (p + 1) + bt s (p + 1 + 1)))), .int .i64 0]) (by simp [results, Tryz.results57, go_sem, r0, r1, r2, r3]) rfl ⟨?_, ?_, ?_⟩
        · have ea : argA 1 s p = sg (256 * bt s (p + 1) + bt s (p + 1 + 1)) := by simp [argA]
          rw [e, ea]
          simp [argB]
        · exact grown_set (grown_set (grown_set (grown_set (grown_set (grown_drewN (grown_set (g1) _ _ (by simp)) _) _ _ (by simp)) _ _ (by simp)) _ _ (by simp)) _ _ (by simp)) _ _ (by simp)
        · exact (((((((g2).setAt' _ _ (by simp only [mOf]; omega)).drewN _).setOther _ _ (by simp; omega)).setOther _ _ (by simp; omega)).setOther _ _ (by simp; omega)).setOther _ _ (by simp; omega)).setOther _ _ (by simp; omega)
      · go_wp2_with fail
        refine (number_ok _ b s (p + 1) g2 hs (by simp [mOf] at hm; omega)).mono ?_
        rintro r w' ⟨rfl, q', rfl⟩
        go_wp2
        refine bodyPost_ret (v := .agg #[.int .i64 p, .int .i64 o, .int .i64 (256 * bt s (p + 1) + bt s (p + 1 + 1)), .int .i64 0]) (by simp [results, Tryz.results57, go_sem, r0, r1, r2, r3]) rfl ⟨rfl, ?_, ?_⟩
        · exact grown_set (grown_set (grown_set (grown_set (grown_set (grown_drewN (grown_set (g1) _ _ (by simp)) _) _ _ (by simp)) _ _ (by simp)) _ _ (by simp)) _ _ (by simp)) _ _ (by simp)
        · exact (((((((g2).setAt' _ _ (by simp only [mOf]; omega)).drewN _).setOther _ _ (by simp; omega)).setOther _ _ (by simp; omega)).setOther _ _ (by simp; omega)).setOther _ _ (by simp; omega)).setOther _ _ (by simp; omega)
      · go_wp2_with fail
        refine (count_ok _ b s (p + 1) g2 hs (by simp [mOf] at hm; omega)).mono ?_
        rintro r w' ⟨rfl, q', rfl⟩
        go_wp2
        refine bodyPost_ret (v := .agg #[.int .i64 p, .int .i64 o, .int .i64 (bt s (p + 1)), .int .i64 0]) (by simp [results, Tryz.results57, go_sem, r0, r1, r2, r3]) rfl ⟨rfl, ?_, ?_⟩
        · exact grown_set (grown_set (grown_set (grown_set (grown_set (grown_drewN (grown_set (g1) _ _ (by simp)) _) _ _ (by simp)) _ _ (by simp)) _ _ (by simp)) _ _ (by simp)) _ _ (by simp)
        · exact (((((((g2).setAt' _ _ (by simp only [mOf]; omega)).drewN _).setOther _ _ (by simp; omega)).setOther _ _ (by simp; omega)).setOther _ _ (by simp; omega)).setOther _ _ (by simp; omega)).setOther _ _ (by simp; omega)
      · go_wp2_with fail
        refine (count_ok _ b s (p + 1) g2 hs (by simp [mOf] at hm; omega)).mono ?_
        rintro r w' ⟨rfl, q', rfl⟩
        go_wp2_with fail
        refine (count_ok _ b s (p + 1 + 1) ?_ hs (by simp [mOf] at hm; omega)).mono ?_
        · exact ((g2.setAt' _ _ (by omega)).drewN _).setOther _ _ (by simp; omega)
        rintro r w' ⟨rfl, q'', rfl⟩
        go_wp2
        refine bodyPost_ret (v := .agg #[.int .i64 p, .int .i64 o, .int .i64 (bt s (p + 1)), .int .i64 (bt s (p + 1 + 1))]) (by simp [results, Tryz.results57, go_sem, r0, r1, r2, r3]) rfl ⟨rfl, ?_, ?_⟩
        · exact grown_set (grown_set (grown_set (grown_set (grown_set (grown_drewN (grown_set (grown_set (grown_drewN (grown_set (g1) _ _ (by simp)) _) _ _ (by simp)) _ _ (by simp)) _) _ _ (by simp)) _ _ (by simp)) _ _ (by simp)) _ _ (by simp)) _ _ (by simp)
        · exact ((((((((((g2).setAt' (p + 1 + 1) _ (by omega)).drewN _).setOther _ _ (by simp; omega)).setAt' _ _ (by simp only [mOf]; omega)).drewN _).setOther _ _ (by simp; omega)).setOther _ _ (by simp; omega)).setOther _ _ (by simp; omega)).setOther _ _ (by simp; omega)).setOther _ _ (by simp; omega)
end Go.Proofs.YtfibgdcpbkaaoaaGreatDoor.Cd
