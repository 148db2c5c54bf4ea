/- Package verify's kinds: the listed ones, and the small functions over them. -/
import Derived.Test.YtkhconnebiiboaaGreatDoorJLErrLEq
import Derived.Test.YtkhconnebiiboaaGreatDoorVkP
namespace Go.Proofs.YtkhconnebiiboaaGreatDoor
open Go.RowKit Go.Maps

abbrev kv (x : KindD) : Value := .agg #[.int .i64 x.kind, .string x.cls]
/-- The kinds that package verify lists, in memory. -/
structure GlK (w : World) : Prop where
  t0 : w.cell? ⟨0, 0, none⟩ = some (.int .i64 3)
  t1 : w.cell? ⟨0, 1, none⟩ = some (.string topName)
  a0 : w.cell? ⟨1, 0, none⟩ = some (.int .i64 6)
  a1 : w.cell? ⟨1, 1, none⟩ = some (.string noNm)
  u0 : w.cell? ⟨2, 0, none⟩ = some (.int .i64 5)
  u1 : w.cell? ⟨2, 1, none⟩ = some (.string noNm)
  n0 : w.cell? ⟨3, 0, none⟩ = some (.int .i64 1)
  n1 : w.cell? ⟨3, 1, none⟩ = some (.string noNm)
  r0 : w.cell? ⟨4, 0, none⟩ = some (.int .i64 2)
  r1 : w.cell? ⟨4, 1, none⟩ = some (.string noNm)
  big : 6 < w.heap.size
theorem GlK.below {w w' : World} (h : GlK w) (hb : Below w.heap.size w w') : GlK w' := by
  have hz := h.big
  have hc : ∀ g j, g ≤ 6 → w'.cell? ⟨g, j, none⟩ = w.cell? ⟨g, j, none⟩ := fun g j hg => hb.cell (p := ⟨g, j, none⟩) (by simp; omega)
  exact ⟨(hc _ _ (by decide)).trans h.t0, (hc _ _ (by decide)).trans h.t1, (hc _ _ (by decide)).trans h.a0, (hc _ _ (by decide)).trans h.a1, (hc _ _ (by decide)).trans h.u0, (hc _ _ (by decide)).trans h.u1, (hc _ _ (by decide)).trans h.n0, (hc _ _ (by decide)).trans h.n1, (hc _ _ (by decide)).trans h.r0, (hc _ _ (by decide)).trans h.r1, Nat.lt_of_lt_of_le hz hb.size⟩
theorem kindEq (x y : KindD) (w : World) : (binOp BinOp.eql 24 (kv x) (kv y)).run Tryz.prog w = .ok (.bool (sameK x y)) w := by
  rw [kindEql, sameK_eq]
def thK : KindD := ⟨3, topName⟩
def isTh (x : KindD) : Bool := !sameK x numK && !sameK x anyK
set_option maxHeartbeats 1000000 in
theorem isThing_any (w : World) (x : KindD) (hg : GlK w) : Calls Tryz.prog 48 #[kv x] w fun r w' => r = .returned (.bool (isTh x)) ∧ Below w.heap.size w w' := by
  have HB := mkHid ((Below.refl w.heap.size w).alloc (Nat.le_refl _) (.cells #[.int .i64 x.kind, .string x.cls] 24))
  obtain ⟨-, -, a0, a1, -, -, n0, n1, -, -, -⟩ := hg.below HB.out
  have e1 : ∀ W, (binOp BinOp.neq 24 (kv x) (.agg #[.int .i64 1, .string noNm])).run Tryz.prog W = .ok (.bool (!sameK x numK)) W := kindNeq x numK
  have e2 : ∀ W, (binOp BinOp.neq 24 (kv x) (.agg #[.int .i64 6, .string noNm])).run Tryz.prog W = .ok (.bool (!sameK x anyK)) W := kindNeq x anyK
  have eg := kindNeqG
  have HR : Hid (isTh x = (!sameK x numK && !sameK x anyK)) := rfl
  cases h1 : sameK x numK <;> cases h2 : sameK x anyK
  all_goals
    rw [h1] at e1 HR
    rw [h2] at e2 HR
    go_enter Tryz.func48, Tryz.ntmps48
    go_wp2_with fail
    go_ret
    exact ⟨by rw [HR.out]; rfl, HB.out⟩
end Go.Proofs.YtkhconnebiiboaaGreatDoor
