/- The contracts of the document's own reader. -/
import Derived.Test.YtkpklkhkhhlifaaSame
import Derived.Test.YtkpklkhkhhlifaaRdAll
namespace Go.Proofs.Ytkpklkhkhhlifaa
open Go.RowKit

/-- The document's reader at a block: its text, where it is, and whether something was wrong. -/
structure Sc (w : World) (X : Nat) (s : ByteArray) (p : Nat) (b : Bool) : Prop where
  text : w.cell? ⟨X, 0, none⟩ = some (.string s)
  at_ : w.cell? ⟨X, 1, none⟩ = some (.int .i64 p)
  bad : w.cell? ⟨X, 2, none⟩ = some (.bool b)
  fz1 : w.frozen? ⟨X, 1, none⟩ = false
  fz2 : w.frozen? ⟨X, 2, none⟩ = false
theorem Sc.lt {w : World} {X : Nat} {s : ByteArray} {p : Nat} {b : Bool} (h : Sc w X s p b) : X < w.heap.size := World.block_lt_of_cell? w _ h.text
theorem Sc.kept {w w' : World} {X : Nat} {s : ByteArray} {p : Nat} {b : Bool} (h : Sc w X s p b) (e : w'.heap[X]? = w.heap[X]?) : Sc w' X s p b :=
  ⟨(World.cell?_of_block (a := ⟨X, 0, none⟩) e).trans h.text, (World.cell?_of_block (a := ⟨X, 1, none⟩) e).trans h.at_, (World.cell?_of_block (a := ⟨X, 2, none⟩) e).trans h.bad, (World.frozen?_of_block (a := ⟨X, 1, none⟩) e).trans h.fz1, (World.frozen?_of_block (a := ⟨X, 2, none⟩) e).trans h.fz2⟩
theorem Sc.drewN {w : World} {X : Nat} {s : ByteArray} {p : Nat} {b : Bool} (h : Sc w X s p b) (n : Nat) : Sc (w.drewN n) X s p b := ⟨h.text, h.at_, h.bad, h.fz1, h.fz2⟩
theorem Sc.setAt {w : World} {X : Nat} {s : ByteArray} {p : Nat} {b : Bool} (h : Sc w X s p b) (p' : Nat) (x : Int) (hx : x = (p' : Int)) : Sc (w.setCell ⟨X, 1, none⟩ (.int .i64 x)) X s p' b := by
  subst hx
  exact ⟨(World.cell?_setCell_other w _ _ _ (by simp)).trans h.text, World.cell?_setCell_same w _ _ h.at_, (World.cell?_setCell_other w _ _ _ (by simp)).trans h.bad, by rw [World.frozen?_setCell]; exact h.fz1, by rw [World.frozen?_setCell]; exact h.fz2⟩
theorem Sc.setBad {w : World} {X : Nat} {s : ByteArray} {p : Nat} {b : Bool} (h : Sc w X s p b) (b' : Bool) : Sc (w.setCell ⟨X, 2, none⟩ (.bool b')) X s p b' :=
  ⟨(World.cell?_setCell_other w _ _ _ (by simp)).trans h.text, (World.cell?_setCell_other w _ _ _ (by simp)).trans h.at_, World.cell?_setCell_same w _ _ h.bad, by rw [World.frozen?_setCell]; exact h.fz1, by rw [World.frozen?_setCell]; exact h.fz2⟩

/-- What a reading leaves: where it is then, whether something is wrong by then, and what that tells of the plain reading. -/
structure ScOut {α : Type} (w w' : World) (X : Nat) (s : ByteArray) (b : Bool) (res : Option (α × Nat)) (x : α) (p' : Nat) (b' : Bool) : Prop where
  grown : w.grownBy w' (some X)
  sc : Sc w' X s p' b'
  le : p' ≤ s.size
  good : b' = false → b = false ∧ res = some (x, p')
  wrong : b' = true → b = true ∨ res = none

set_option maxHeartbeats 1000000 in
theorem count_s (w : World) (X : Nat) (s : ByteArray) (p : Nat) (b : Bool) (h : Sc w X s p b) (hp : p ≤ s.size) (hs : s.size ≤ 20000) :
    Calls Try.prog 33 #[.pointer (some ⟨X, 0, none⟩)] w fun r w' => ∃ (n p' : Nat) (b' : Bool), r = .returned (.int .i64 n) ∧ n ≤ 255 ∧ ScOut w w' X s b (pCount s p) n p' b' := by
  have hX := h.lt
  have H := mkHid h
  obtain ⟨h1, h2, h3, h4, h5⟩ := h
  by_cases hc : p < s.size
  · have hc' : ¬ (s.size : Int) ≤ p := by omega
    have hb0 : (0 : Int) ≤ p := by omega
    have hb1 : (p : Int) < s.size := by omega
    have HC := mkHid hc
    have HN : Hid (pCount s p = some (bt s p, p + 1)) := by show pCount s p = _; rw [pCount, if_pos hc]
    have eb : (s[p].toNat) = bt s p := (bt_eq s p hc).symm
    have hw := byte_w s[p]
    go_enter Try.func33, Try.ntmps33
    go_wp2_with fail
    go_quiet (fail)
    go_wp2_with fail
    go_quiet (fail)
    go_wp2_with fail
    go_ret
    have hbl := bt_lt s p
    refine ⟨bt s p, p + 1, b, ?_, by omega, ?_, ?_, by have := HC.out; omega, fun hb => ⟨hb, HN.out⟩, fun hb => Or.inl hb⟩
    · simp
      exact hw.trans (congrArg _ eb)
    · exact grown_drewN (grown_set (grown_drewN (World.grownBy.refl _ _) _) _ _ (Or.inl rfl)) _
    · exact ((H.out.drewN _).setAt (p + 1) _ (by omega)).drewN _
  · have hc' : (s.size : Int) ≤ p := by omega
    have HN : Hid (pCount s p = none) := by show pCount s p = _; rw [pCount, if_neg hc]
    go_enter Try.func33, Try.ntmps33
    go_wp2_with fail
    go_quiet (fail)
    go_wp2_with fail
    go_ret
    exact ⟨0, p, true, rfl, by omega, grown_set (grown_drewN (World.grownBy.refl _ _) _) _ _ (Or.inl rfl), (H.out.drewN _).setBad true, hp, (fun hb => by cases hb), fun _ => Or.inr HN.out⟩

set_option maxHeartbeats 1000000 in
theorem bytes_s (w : World) (X : Nat) (s : ByteArray) (p n : Nat) (b : Bool) (h : Sc w X s p b) (hp : p ≤ s.size) (hs : s.size ≤ 20000) (hn : n ≤ 100000) :
    Calls Try.prog 36 #[.pointer (some ⟨X, 0, none⟩), .int .i64 n] w fun r w' => ∃ (t : ByteArray) (p' : Nat) (b' : Bool), r = .returned (.string t) ∧ t.size ≤ maxLen ∧ ScOut w w' X s b (pBytes s n p) t p' b' := by
  have hX := h.lt
  have H := mkHid h
  obtain ⟨h1, h2, h3, h4, h5⟩ := h
  cases b
  · by_cases hc : p + n ≤ s.size
    · have hc' : decide ((s.size : Int) - p < n) = false := by simp; omega
      have hb0 : (0 : Int) ≤ p := by omega
      have hb1 : (p : Int) ≤ p + n := by omega
      have hb2 : (p : Int) + n ≤ s.size := by omega
      have HC := mkHid hc
      have HN : Hid (pBytes s n p = some (s.extract p (p + n), p + n)) := by show pBytes s n p = _; rw [pBytes, if_pos hc]
      clear hc
      go_enter Try.func36, Try.ntmps36
      go_wp2_with fail
      go_quiet (fail)
      go_wp2_with fail
      go_quiet (fail)
      go_wp2_with fail
      go_ret
      refine ⟨_, p + n, false, rfl, ?_, ?_, ?_, HC.out, fun hb => ⟨hb, ?_⟩, fun hb => Or.inl hb⟩
      · have := HC.out
        simp [maxLen]
        omega
      · exact grown_drewN (grown_set (grown_drewN (World.grownBy.refl _ _) _) _ _ (Or.inl rfl)) _
      · exact ((H.out.drewN _).setAt (p + n) _ (by omega)).drewN _
      · rw [HN.out]
        try rfl
    · have hc' : decide ((s.size : Int) - p < n) = true := by simp; omega
      have HN : Hid (pBytes s n p = none) := by show pBytes s n p = _; rw [pBytes, if_neg hc]
      clear hc
      go_enter Try.func36, Try.ntmps36
      go_wp2_with fail
      go_quiet (fail)
      go_wp2_with fail
      go_ret
      exact ⟨_, p, true, rfl, by decide, grown_set (grown_drewN (World.grownBy.refl _ _) _) _ _ (Or.inl rfl), (H.out.drewN _).setBad true, hp, (fun hb => by cases hb), fun _ => Or.inr HN.out⟩
  · go_enter Try.func36, Try.ntmps36
    go_wp2_with fail
    go_quiet (fail)
    go_wp2_with fail
    go_ret
    exact ⟨_, p, true, rfl, by decide, grown_set (grown_drewN (World.grownBy.refl _ _) _) _ _ (Or.inl rfl), (H.out.drewN _).setBad true, hp, (fun hb => by cases hb), fun _ => Or.inl rfl⟩
end Go.Proofs.Ytkpklkhkhhlifaa
