/- The contracts of Caught and of what it defers. -/
import Derived.Test.YtkhconnebiiboaaGreatDoorCdDec
namespace Go.Proofs.YtkhconnebiiboaaGreatDoor.Cd
set_option maxRecDepth 100000
open Go.RowKit

theorem catch_idle (f : Addr) (w : World) :
    CallsD Tryz.prog 83 #[.pointer (some f)] .returning w fun e u' w' => e = .returned (.tuple #[]) ∧ u' = .returning ∧ w' = w := by
  refine callsD_of_wpS Tryz.func83 rfl fun c₀ cs hu => ?_
  apply wpS_seq
  apply wpS_region
  simp [wpOpsS, go_sem, recoverD, hu, Tryz.ntmps83, Exit.thenS]
  have e : (#[Value.pointer (some f)] ++ ((Array.replicate 16 undef).setIfInBounds 3 Value.nilIface).setIfInBounds 0 Value.nilIface) = #[.pointer (some f), .nilIface, undef, undef, .nilIface, undef, undef, undef, undef, undef, undef, undef, undef, undef, undef, undef, undef] := rfl
  rw [e]
  refine wpS_of_wp ?_
  go_wp2
  refine ⟨rfl, .returning, ?_, _, (results_none rfl _ _ _), rfl, rfl, rfl⟩
  cases c₀
  simp_all

theorem assert57 (x : Value) (w : World) : (Instr.typeAssert (.iface 131 x) 20 131 true).run Tryz.prog w = .ok (.tuple #[x, .bool true]) w := by kernel_rfl
theorem eqlNil (x : Value) (w : World) : (binOp BinOp.eql 20 (.iface 131 x) .nilIface).run Tryz.prog w = .ok (.bool false) w := by kernel_rfl

set_option maxHeartbeats 1000000 in
theorem catch_panicking (b : Nat) (x y : Value) (e p : Int) (w : World) (h0 : w.cell? ⟨b, 0, none⟩ = some x) (h1 : w.cell? ⟨b, 1, none⟩ = some y) (f0 : w.frozen? ⟨b, 0, none⟩ = false) (f1 : w.frozen? ⟨b, 1, none⟩ = false) :
    CallsD Tryz.prog 83 #[.pointer (some ⟨b, 0, none⟩)] (.panicking [wrongV e p]) w fun r u' w' => r = .returned (.tuple #[]) ∧ u' = .panicking [{ wrongV e p with recovered := true }] ∧
      w' = ((w.setCell ⟨b, 0, none⟩ (.int .i64 e)).setCell ⟨b, 1, none⟩ (.int .i64 p)).alloc (.cells #[.int .i64 e, .int .i64 p] 131) := by
  have hb : b < w.heap.size := World.block_lt_of_cell? w _ h0
  have k1 := assert57 (.agg #[.int .i64 e, .int .i64 p])
  have k2 := eqlNil (.agg #[.int .i64 e, .int .i64 p])
  refine callsD_of_wpS Tryz.func83 rfl fun c₀ cs hu => ?_
  apply wpS_seq
  apply wpS_region
  simp [wpOpsS, go_sem, recoverD, hu, Tryz.ntmps83, Exit.thenS]
  generalize hv : Value.iface 131 (.agg #[.int .i64 e, .int .i64 p]) = V
  have ee : (#[Value.pointer (some ⟨b, 0, none⟩)] ++ ((Array.replicate 16 undef).setIfInBounds 3 V).setIfInBounds 0 V) = #[.pointer (some ⟨b, 0, none⟩), V, undef, undef, V, undef, undef, undef, undef, undef, undef, undef, undef, undef, undef, undef, undef] := rfl
  rw [ee]
  clear ee
  subst hv
  refine wpS_of_wp ?_
  clear hu
  go_wp2_with fail
  exact ⟨rfl, _, rfl, _, results_none rfl _ _ _, rfl, rfl, rfl⟩

theorem fault_world (w1 : World) (N : Nat) (e p : Int) (o : Obj) {x y : Value} (n0 : w1.cell? ⟨N, 0, none⟩ = some x) (n1 : w1.cell? ⟨N, 1, none⟩ = some y) :
    w1.grownBy (((w1.setCell ⟨N, 0, none⟩ (.int .i64 e)).setCell ⟨N, 1, none⟩ (.int .i64 p)).alloc o) (some N) ∧
    (((w1.setCell ⟨N, 0, none⟩ (.int .i64 e)).setCell ⟨N, 1, none⟩ (.int .i64 p)).alloc o).cell? ⟨N, 0, none⟩ = some (.int .i64 e) ∧
    (((w1.setCell ⟨N, 0, none⟩ (.int .i64 e)).setCell ⟨N, 1, none⟩ (.int .i64 p)).alloc o).cell? ⟨N, 1, none⟩ = some (.int .i64 p) := by
  have hlt : N < w1.heap.size := World.block_lt_of_cell? w1 _ n0
  refine ⟨?_, ?_, ?_⟩
  · refine grown_alloc ?_ _
    refine grown_set ?_ _ _ (Or.inl rfl)
    refine grown_set ?_ _ _ (Or.inl rfl)
    exact World.grownBy.refl _ _
  · rw [World.cell?_alloc_past _ _ _ (by simpa [World.setCell] using hlt), World.cell?_setCell_other _ _ _ _ (by simp), World.cell?_setCell_same _ _ _ n0]
  · rw [World.cell?_alloc_past _ _ _ (by simpa [World.setCell] using hlt)]
    exact World.cell?_setCell_same _ _ _ ((World.cell?_setCell_other _ _ _ _ (by simp)).trans n1)

set_option maxHeartbeats 1000000 in
theorem caught_any (g : Nat) (cap : Array Value) (w : World) (Ok : World → Prop) (No : Int → Int → World → Prop) (hcf : ∀ w, (callFunc g cap).run Tryz.prog w = .ok (.enter g cap) w)
    (hc : Calls Tryz.prog g cap (w.alloc (.cells #[.int .i64 0, .int .i64 0] 43)) fun r w1 => w1.heap[w.heap.size]? = some (.cells #[.int .i64 0, .int .i64 0] 43 (0, 0)) ∧
      ((r = .returned (.tuple #[]) ∧ Ok w1) ∨ ∃ e p, r = .panicked [wrongV e p] ∧ No e p w1)) :
    Calls Tryz.prog 40 #[.func (.func g) #[] cap] w fun r w' => ∃ w1, w1.grownBy w' (some w.heap.size) ∧
      ((r = .returned (.agg #[.int .i64 0, .int .i64 0]) ∧ Ok w1) ∨ ∃ e p, r = .returned (.agg #[.int .i64 e, .int .i64 p]) ∧ No e p w1) := by
  have hmf : ∀ (fn : Fn) (first cap : Array Value) (w : World), (Instr.makeFunc fn first cap).run Tryz.prog w = .ok (.func fn first cap) w := fun _ _ _ _ => rfl
  have HC : Hid _ := hc
  clear hc
  go_enter_defers Tryz.func40, Tryz.ntmps40
  go_wp2_with fail
  refine Calls.mono HC.out ?_
  rintro r w1 ⟨hN, hr⟩
  have n0 : w1.cell? ⟨w.heap.size, 0, none⟩ = some (.int .i64 0) := by simp [World.cell?, hN]
  have n1 : w1.cell? ⟨w.heap.size, 1, none⟩ = some (.int .i64 0) := by simp [World.cell?, hN]
  have z0 : w1.frozen? ⟨w.heap.size, 0, none⟩ = false := by simp [World.frozen?, hN]
  have z1 : w1.frozen? ⟨w.heap.size, 1, none⟩ = false := by simp [World.frozen?, hN]
  clear hN
  rcases hr with ⟨rfl, hok⟩ | ⟨e, p, rfl, hno⟩
  · go_wp2_with fail
    refine leaves_cons (f := 83) (args := #[.pointer (some ⟨w.heap.size, 0, none⟩)]) (by simp) (by simp [go_sem]) ?_
    refine (catch_idle ⟨w.heap.size, 0, none⟩ _).mono ?_
    rintro r2 u' w'' ⟨rfl, rfl, rfl⟩
    show Leaves Tryz.prog Tryz.f40 _ _ [] FrameMode.returning _
    refine ⟨.agg #[.int .i64 0, .int .i64 0], ?_, w1, ?_, Or.inl ⟨rfl, hok⟩⟩
    · simp [results, Tryz.results40, go_sem, n0, n1]
    · exact grown_set (grown_set (World.grownBy.refl _ _) _ _ (Or.inl rfl)) _ _ (Or.inl rfl)
  · refine leaves_cons (f := 83) (args := #[.pointer (some ⟨w.heap.size, 0, none⟩)]) (by simp) (by simp [go_sem]) ?_
    refine (catch_panicking w.heap.size _ _ e p _ n0 n1 z0 z1).mono ?_
    rintro r2 u' w'' ⟨rfl, rfl, rfl⟩
    obtain ⟨hg, q0, q1⟩ := fault_world w1 w.heap.size e p _ n0 n1
    show Leaves Tryz.prog Tryz.f40 _ _ [] FrameMode.returning _
    generalize ((w1.setCell ⟨w.heap.size, 0, none⟩ (.int .i64 e)).setCell ⟨w.heap.size, 1, none⟩ (.int .i64 p)).alloc (.cells #[.int .i64 e, .int .i64 p] 131) = W2 at *
    refine ⟨.agg #[.int .i64 e, .int .i64 p], ?_, w1, hg, Or.inr ⟨e, p, rfl, hno⟩⟩
    simp [results, Tryz.results40, go_sem, q0, q1]
end Go.Proofs.YtkhconnebiiboaaGreatDoor.Cd
