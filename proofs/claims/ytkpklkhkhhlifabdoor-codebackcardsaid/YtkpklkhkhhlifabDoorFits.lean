/- The contract of fits. -/
import Derived.Test.YtkpklkhkhhlifabDoorBuild
namespace Go.Proofs.YtkpklkhkhhlifabDoor
open Go.RowKit

def lowOf (k : Nat) : Int := if k = 1 then -32768 else 0
def highOf (k : Nat) : Int := if k = 1 then 32767 else if k = 2 then 65535 else if k = 3 then 255 else if k = 4 then 255 else 0
def secondOf (k : Nat) : Int := if k = 4 then 255 else 0
/-- What an operation's numbers may be, by what stands behind it. -/
def fitsIn (k : Nat) (a b : Int) : Prop := lowOf k ≤ a ∧ a ≤ highOf k ∧ 0 ≤ b ∧ b ≤ secondOf k

/-- The second table, in memory. -/
structure Rooms (w : World) : Prop where
  low : ∀ k, k < 5 → w.cell? ⟨1, k * 4 + 1, none⟩ = some (.int .i64 (lowOf k))
  high : ∀ k, k < 5 → w.cell? ⟨1, k * 4 + 2, none⟩ = some (.int .i64 (highOf k))
  second : ∀ k, k < 5 → w.cell? ⟨1, k * 4 + 3, none⟩ = some (.int .i64 (secondOf k))
theorem Rooms.kept {w w' : World} (h : Rooms w) (hb : w'.heap[1]? = w.heap[1]?) : Rooms w' :=
  ⟨fun k hk => (World.cell?_of_block (a := ⟨1, _, none⟩) hb).trans (h.low k hk), fun k hk => (World.cell?_of_block (a := ⟨1, _, none⟩) hb).trans (h.high k hk), fun k hk => (World.cell?_of_block (a := ⟨1, _, none⟩) hb).trans (h.second k hk)⟩
theorem Tabs.kept {w w' : World} (h : Tabs w) (h0 : w'.heap[0]? = w.heap[0]?) (h1 : w'.heap[1]? = w.heap[1]?) (hs : w.heap.size ≤ w'.heap.size) : Tabs w' :=
  ⟨fun o ho => (World.cell?_of_block (a := ⟨0, o, none⟩) h0).trans (h.behind o ho), fun k hk => (World.cell?_of_block (a := ⟨1, _, none⟩) h1).trans (h.bytes k hk), Nat.lt_of_lt_of_le h.two hs⟩

set_option maxHeartbeats 1000000 in
theorem fits_any (w : World) (x : Op4) (o : Nat) (hT : Tabs w) (hR : Rooms w) (ho : o < 37) (hxo : x.op = o) :
    Calls Tryd.prog 25 #[.agg #[.int .i64 x.loc, .int .i64 x.op, .int .i64 x.a, .int .i64 x.b]] w fun r w' => Below w.heap.size w w' ∧ ((fitsIn (kOf o) x.a x.b ∧ r = .returned (.bool true)) ∨ (¬ fitsIn (kOf o) x.a x.b ∧ r = .returned (.bool false))) := by
  rw [hxo]
  clear hxo
  have h0 := hT.two
  have h00 : 0 < w.heap.size := by omega
  have ht := hT.behind o ho
  have hk5 := kOf_lt o
  have c0 := hT.bytes (kOf o) hk5
  have c1 := hR.low (kOf o) hk5
  have c2 := hR.high (kOf o) hk5
  have c3 := hR.second (kOf o) hk5
  obtain ⟨loc, op, a, b⟩ := x
  show Calls Tryd.prog 25 #[.agg #[.int .i64 loc, .int .i64 o, .int .i64 a, .int .i64 b]] w fun r w' => Below w.heap.size w w' ∧ ((fitsIn (kOf o) a b ∧ r = .returned (.bool true)) ∨ (¬ fitsIn (kOf o) a b ∧ r = .returned (.bool false)))
  unfold fitsIn
  generalize lowOf (kOf o) = lo at *
  generalize highOf (kOf o) = hi at *
  generalize secondOf (kOf o) = sc at *
  generalize mOf (kOf o) = m at *
  generalize kOf o = k at *
  have fin : ∀ o1 o2, Below w.heap.size w ((w.alloc o1).alloc o2) := fun o1 o2 => ((Below.refl _ _).alloc (Nat.le_refl _) _).alloc (by simp) _
  by_cases h1 : lo ≤ a
  · by_cases h2 : a ≤ hi
    · by_cases h3 : 0 ≤ b
      · by_cases h4 : b ≤ sc
        · go_enter Tryd.func25, Tryd.ntmps25
          go_wp2
          go_ret
          exact ⟨fin _ _, Or.inl ⟨⟨h1, h2, h3, h4⟩, rfl⟩⟩
        · go_enter Tryd.func25, Tryd.ntmps25
          go_wp2
          go_ret
          refine ⟨fin _ _, ?_⟩
          simp
      · go_enter Tryd.func25, Tryd.ntmps25
        go_wp2
        go_ret
        exact ⟨fin _ _, Or.inr ⟨fun h => by omega, by first | (simp; done) | (simp; omega)⟩⟩
    · go_enter Tryd.func25, Tryd.ntmps25
      go_wp2
      go_ret
      exact ⟨fin _ _, Or.inr ⟨fun h => by omega, by first | (simp; done) | (simp; omega)⟩⟩
  · go_enter Tryd.func25, Tryd.ntmps25
    go_wp2
    go_ret
    exact ⟨fin _ _, Or.inr ⟨fun h => by omega, by first | (simp; done) | (simp; omega)⟩⟩
end Go.Proofs.YtkpklkhkhhlifabDoor
