/- The law CodeDecodes, walked. -/
import Derived.Test.YtkpklkhkhhlifaaDoorBegun
import Derived.Test.YtkpklkhkhhlifaaDoorInsOf
import Derived.Test.YtkpklkhkhhlifaaDoorSame
namespace Go.Proofs.YtkpklkhkhhlifaaDoor
open Go.RowKit

/-- What both decoders leave, of a text. -/
def Leaves2 (s : ByteArray) (w1 : World) (v : Value) (e p : Int) : Prop :=
  ∃ l, Holds4 w1 v l ∧ l.length ≤ 200 ∧ ((full s = .ok l ∧ e = 0 ∧ p = 0) ∨ (full s = .error (e, p) ∧ l = []))

set_option maxHeartbeats 1000000 in
theorem decodes_any (w : World) (s : ByteArray) (hT : Tabs w) (hs : s.size ≤ maxLen) :
    Calls Tryd.prog 3 #[.string s] w fun r w' => r = .returned (.bool true) ∧ Below w.heap.size w w' := by
  go_enter Tryd.func3, Tryd.ntmps3
  go_wp2_with fail
  refine (Decode_any _ s hT hs).mono ?_
  rintro r w1 ⟨hB, hr⟩
  obtain ⟨v, e, p, rfl, l, hh, hll, hfu⟩ : ∃ v e p, r = .returned (.tuple #[v, .agg #[.int .i64 e, .int .i64 p]]) ∧ Leaves2 s w1 v e p := by
    rcases hr with ⟨l, v, hf, hl, rfl, ho⟩ | ⟨e, p, hf, rfl⟩
    · exact ⟨v, 0, 0, rfl, l, own_holds ho, hl, Or.inl ⟨hf, rfl, rfl⟩⟩
    · exact ⟨_, e, p, rfl, [], Or.inl ⟨none, 0, rfl, rfl⟩, by simp, Or.inr ⟨hf, rfl⟩⟩
  have HFU := mkHid hfu
  clear hr hfu
  have hB1 := hB.alloc hB.size (.cells #[.int .i64 e, .int .i64 p] 25)
  have hh1 := hh.below ((Below.refl _ w1).alloc (Nat.le_refl _) (.cells #[.int .i64 e, .int .i64 p] 25))
  go_wp2_with fail
  refine (insOf_any _ s hs).mono ?_
  rintro r w2 ⟨hB2, hr⟩
  have hB3 : Below w.heap.size w w2 := hB1.trans (hB2.mono (by have := hB.size; simp; omega))
  have hh2 := hh1.below hB2
  have hT2 := hT.below hB3
  obtain ⟨v', e', p', rfl, l', hh', hll', hfu'⟩ : ∃ v e p, r = .returned (.tuple #[v, .agg #[.int .i64 e, .int .i64 p]]) ∧ Leaves2 s w2 v e p := by
    rcases hr with ⟨l, v, hf, hl, rfl, ho⟩ | ⟨e, p, hf, rfl⟩
    · exact ⟨v, 0, 0, rfl, l, own_holds ho, hl, Or.inl ⟨hf, rfl, rfl⟩⟩
    · exact ⟨_, e, p, rfl, [], Or.inl ⟨none, 0, rfl, rfl⟩, by simp, Or.inr ⟨hf, rfl⟩⟩
  obtain ⟨el, ee, ep⟩ : l' = l ∧ e' = e ∧ p' = p := by
    rcases HFU.out with ⟨a1, a2, a3⟩ | ⟨a1, a2⟩ <;> rcases hfu' with ⟨b1, b2, b3⟩ | ⟨b1, b2⟩
    · exact ⟨(Except.ok.inj (a1.symm.trans b1)).symm, by rw [a2, b2], by rw [a3, b3]⟩
    · cases a1.symm.trans b1
    · cases a1.symm.trans b1
    · have := Except.error.inj (a1.symm.trans b1)
      simp only [Prod.mk.injEq] at this
      exact ⟨by rw [a2, b2], this.1.symm, this.2.symm⟩
  subst el ee ep
  have f0 : w2.cell? ⟨w1.heap.size, 0, none⟩ = some (.int .i64 e') := (hB2.cell (p := ⟨w1.heap.size, 0, none⟩) (by simp)).trans (by simp)
  have f1 : w2.cell? ⟨w1.heap.size, 1, none⟩ = some (.int .i64 p') := (hB2.cell (p := ⟨w1.heap.size, 1, none⟩) (by simp)).trans (by simp)
  have hlt1 : w1.heap.size < w2.heap.size := World.block_lt_of_cell? w2 _ f0
  have hB4 := hB3.alloc hB3.size (.cells #[.int .i64 e', .int .i64 p'] 25)
  have hBa := (Below.refl _ w2).alloc (Nat.le_refl _) (.cells #[.int .i64 e', .int .i64 p'] 25)
  have hh3 := hh2.below hBa
  have hh3' := hh'.below hBa
  have hT3 := hT2.below hBa
  clear hr hfu' hh hh1 hh2 hh' hB hB1 hB2 hT2
  go_wp2_with fail
  refine (begun_any _ hT3).mono ?_
  rintro r w3 ⟨rfl, hB5⟩
  have g0 : w3.cell? ⟨w1.heap.size, 0, none⟩ = some (.int .i64 e') := (hB5.cell (p := ⟨w1.heap.size, 0, none⟩) (by simp; omega)).trans (by rw [World.cell?_alloc_past _ _ _ hlt1]; exact f0)
  have g1 : w3.cell? ⟨w1.heap.size, 1, none⟩ = some (.int .i64 p') := (hB5.cell (p := ⟨w1.heap.size, 1, none⟩) (by simp; omega)).trans (by rw [World.cell?_alloc_past _ _ _ hlt1]; exact f1)
  have g2 : w3.cell? ⟨w2.heap.size, 0, none⟩ = some (.int .i64 e') := (hB5.cell (p := ⟨w2.heap.size, 0, none⟩) (by simp)).trans (by simp)
  have g3 : w3.cell? ⟨w2.heap.size, 1, none⟩ = some (.int .i64 p') := (hB5.cell (p := ⟨w2.heap.size, 1, none⟩) (by simp)).trans (by simp)
  have hh4 := hh3.below hB5
  have hh4' := hh3'.below hB5
  have hB6 := hB4.trans (hB5.mono (by have := hB4.size; simp at this ⊢; omega))
  clear f0 f1 hh3 hh3' hT3 hB4 hBa hB5
  go_wp2_with fail
  refine (same_any _ v v' l' hh4 hh4' (by omega)).mono ?_
  rintro r w4 ⟨rfl, n, rfl⟩
  go_wp2_with fail
  go_ret
  exact ⟨rfl, below_drewN hB6 _⟩
end Go.Proofs.YtkpklkhkhhlifaaDoor
