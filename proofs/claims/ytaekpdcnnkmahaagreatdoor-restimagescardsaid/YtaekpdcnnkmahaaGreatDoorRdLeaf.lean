/- The contracts of the reader's own methods. -/
import Derived.Test.YtaekpdcnnkmahaaGreatDoorJCatchLAsk
import Derived.Test.YtaekpdcnnkmahaaGreatDoorDies
import Derived.Shelf.Pu.Clone
namespace Go.Proofs.YtaekpdcnnkmahaaGreatDoor
set_option maxRecDepth 100000
open Go.RowKit

/-- A reader at block b: its text and where it is. -/
structure Rd (w : World) (b : Nat) (s : ByteArray) (p : Nat) : Prop where
  text : w.cell? ⟨b, 0, none⟩ = some (.string s)
  at_ : w.cell? ⟨b, 1, none⟩ = some (.int .i64 p)
  fz : w.frozen? ⟨b, 1, none⟩ = false

theorem Rd.lt {w : World} {b : Nat} {s : ByteArray} {p : Nat} (h : Rd w b s p) : b < w.heap.size := World.block_lt_of_cell? w _ h.text
theorem Rd.alloc {w : World} {b : Nat} {s : ByteArray} {p : Nat} (h : Rd w b s p) (o : Obj) : Rd (w.alloc o) b s p :=
  ⟨(World.cell?_alloc_past (w := w) o b 0 h.lt).trans h.text, (World.cell?_alloc_past (w := w) o b 1 h.lt).trans h.at_, (World.frozen?_alloc_past (w := w) o b 1 h.lt).trans h.fz⟩
theorem Rd.drewN {w : World} {b : Nat} {s : ByteArray} {p : Nat} (h : Rd w b s p) (n : Nat) : Rd (w.drewN n) b s p := ⟨h.text, h.at_, h.fz⟩
theorem Rd.setOther {w : World} {b : Nat} {s : ByteArray} {p : Nat} (h : Rd w b s p) (a : Addr) (u : Value) (ha : a.block ≠ b) : Rd (w.setCell a u) b s p :=
  ⟨(World.cell?_setCell_other w _ _ _ (by intro e; exact ha (by rw [e]))).trans h.text, (World.cell?_setCell_other w _ _ _ (by intro e; exact ha (by rw [e]))).trans h.at_, by rw [World.frozen?_setCell]; exact h.fz⟩
theorem Rd.setAt {w : World} {b : Nat} {s : ByteArray} {p : Nat} (h : Rd w b s p) (p' : Nat) : Rd (w.setCell ⟨b, 1, none⟩ (.int .i64 p')) b s p' :=
  ⟨(World.cell?_setCell_other w _ _ _ (by simp)).trans h.text, World.cell?_setCell_same w _ _ h.at_, by rw [World.frozen?_setCell]; exact h.fz⟩

theorem Rd.setAt' {w : World} {b : Nat} {s : ByteArray} {p : Nat} (h : Rd w b s p) (p' : Nat) (x : Int) (hx : x = (p' : Int)) : Rd (w.setCell ⟨b, 1, none⟩ (.int .i64 x)) b s p' := by
  subst hx
  exact h.setAt p'

theorem left_any (w : World) (b : Nat) (s : ByteArray) (p : Nat) (h : Rd w b s p) (hp : p ≤ s.size) (hs : s.size ≤ maxLen) :
    Calls Tryz.prog 78 #[.pointer (some ⟨b, 0, none⟩)] w fun e w' => e = .returned (.int .i64 ((s.size : Int) - p)) ∧ ∃ n, w' = w.drewN n := by
  obtain ⟨h1, h2, h3⟩ := h
  unfold maxLen at hs
  go_enter Tryz.func78, Tryz.ntmps78
  go_wp2
  go_quiet (fail)
  go_wp2
  go_ret
  exact ⟨rfl, _, rfl⟩

theorem demandAt_yes (w : World) (b : Bool) (e p : Int) (hb : b = true) : Calls Tryz.prog 110 #[.bool b, .int .i64 e, .int .i64 p] w fun r w' => r = .returned (.tuple #[]) ∧ w' = w := by
  refine (demandAt_any w b e p).mono ?_
  rintro r w' ⟨rfl, ⟨h, rfl⟩ | ⟨h, rfl⟩⟩
  · rw [hb] at h
    cases h
  · exact ⟨rfl, rfl⟩
theorem demandAt_no (w : World) (b : Bool) (e p : Int) (hb : b = false) : Calls Tryz.prog 110 #[.bool b, .int .i64 e, .int .i64 p] w fun r w' => r = .panicked [wrongV e p] ∧ w' = w := by
  refine (demandAt_any w b e p).mono ?_
  rintro r w' ⟨rfl, ⟨h, rfl⟩ | ⟨h, rfl⟩⟩
  · exact ⟨rfl, rfl⟩
  · rw [hb] at h
    cases h
theorem Rd.grown {w w' : World} {b : Nat} {s : ByteArray} {p : Nat} {row : Option Nat} (h : Rd w b s p) (hg : w.grownBy w' row) (hne : some b ≠ row) : Rd w' b s p :=
  ⟨hg.cell h.text hne, hg.cell h.at_ hne, (World.frozen?_of_block (hg.block b h.lt hne)).trans h.fz⟩

/-- What takes: a text, or it gives up. -/
def TakeOut (w w' : World) (b : Nat) (s : ByteArray) (p n : Nat) (r : Ending) : Prop :=
  w.grownBy w' (some b) ∧ ((¬ p + n ≤ s.size ∧ r = .panicked [wrongV 1 p]) ∨ (p + n ≤ s.size ∧ r = .returned (.string (s.extract p (p + n))) ∧ Rd w' b s (p + n)))

set_option maxHeartbeats 1000000 in
theorem take_r (w : World) (b : Nat) (s : ByteArray) (p n : Nat) (h : Rd w b s p) (hp : p ≤ s.size) (hs : s.size ≤ maxLen) (hn : n ≤ 100000) :
    Calls Tryz.prog 152 #[.pointer (some ⟨b, 0, none⟩), .int .i64 n] w fun r w' => TakeOut w w' b s p n r := by
  have h' := h
  have hbw := h.lt
  obtain ⟨h1, h2, h3⟩ := h
  have hs' := hs
  unfold maxLen at hs'
  by_cases hc : p + n ≤ s.size
  · have hn' : (n : Int) ≤ (s.size : Int) - p := by omega
    have hb0 : (0 : Int) ≤ p := by omega
    have hb1 : (p : Int) ≤ p + n := by omega
    have hb2 : (p : Int) + n ≤ s.size := by omega
    have HC := mkHid hc
    clear hc
    go_enter Tryz.func152, Tryz.ntmps152
    go_wp2_with fail
    go_quiet (first | (go_at_call 78; exact Calls.quiet_of (left_any _ b s p (h'.drewN _) hp hs)) | (go_at_call 110; exact Calls.quiet_of_same (demandAt_yes _ _ _ _ (by first | rfl | (simp; omega)))))
    go_wp2
    go_quiet (fail)
    go_wp2
    go_ret
    refine ⟨?_, Or.inr ⟨HC.out, rfl, ?_⟩⟩
    · exact grown_drewN (grown_set (grown_drewN (World.grownBy.refl _ _) _) _ _ (Or.inl rfl)) _
    · exact ((h'.drewN _).setAt' (p + n) _ (by omega)).drewN _
  · have hn' : ¬ (n : Int) ≤ (s.size : Int) - p := by omega
    have HC := mkHid hc
    clear hc
    go_enter Tryz.func152, Tryz.ntmps152
    go_wp2_with fail
    refine wp_region_dies_lit (fun chain w' => chain = [wrongV 1 p] ∧ w.grownBy w' (some b)) (by kernel_rfl) (by kernel_rfl) rfl (by simp only [List.dropLast]; rfl) ?_ ?_
    · rintro chain a' w' hd ⟨rfl, hg⟩
      exact ⟨hd, hg, Or.inl ⟨HC.out, rfl⟩⟩
    · repeat (go_big_quiet_step ((go_at_call 78; exact Calls.quiet_of (left_any _ b s p (h'.drewN _) hp hs))))
      refine wpQuiet_nil ?_
      refine ⟨rfl, ?_⟩
      rintro w' ⟨n, rfl⟩
      go_simp
      refine ⟨rfl, (demandAt_no _ _ _ _ (by first | rfl | (simp; omega))).mono ?_⟩
      rintro e w' ⟨rfl, rfl⟩
      exact ⟨_, rfl, rfl, grown_drewN (World.grownBy.refl _ _) _⟩
theorem newReader_any (w : World) (s : ByteArray) :
    Calls Tryz.prog 74 #[.string s] w fun r w' => r = .returned (.agg #[.string s, .int .i64 0]) ∧ w' = w.alloc (.cells #[.string s, .int .i64 0] 131) := by
  go_enter Tryz.func74, Tryz.ntmps74
  go_wp2
  exact bodyPost_ret (v := .agg #[.string s, .int .i64 0]) (by simp [results, Tryz.results74, go_sem]) rfl ⟨rfl, rfl⟩
end Go.Proofs.YtaekpdcnnkmahaaGreatDoor
