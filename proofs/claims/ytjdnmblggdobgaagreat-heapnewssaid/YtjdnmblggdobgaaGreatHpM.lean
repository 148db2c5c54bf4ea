/- Heaps in memory, and what only reads them. -/
import Derived.Test.YtjdnmblggdobgaaGreatHpD
import Derived.Test.YtjdnmblggdobgaaGreatCatch
import Derived.Test.YtjdnmblggdobgaaGreatGrow
import Derived.Deep.RegionHeld3
namespace Go.Proofs.YtjdnmblggdobgaaGreat
open Go.RowKit Go.Maps

/-- A heap, and the classes of its things, in a block's first cells. -/
structure Gd (B : Nat) (w : World) (c : Nat) (vW vO kC kS kF kN kT : Value) (h : HeapD) (d : LinkD) : Prop where
  lt : c < w.heap.size
  le : B ≤ w.heap.size
  c0 : w.cell? ⟨c, 0, none⟩ = some vW
  c1 : w.cell? ⟨c, 1, none⟩ = some (.int .i64 h.young)
  c2 : w.cell? ⟨c, 2, none⟩ = some (.int .i64 h.old)
  c3 : w.cell? ⟨c, 3, none⟩ = some (.int .i64 h.ytop)
  c4 : w.cell? ⟨c, 4, none⟩ = some (.int .i64 h.otop)
  c5 : w.cell? ⟨c, 5, none⟩ = some vO
  c6 : w.cell? ⟨c, 6, none⟩ = some (.int .i64 h.next)
  c7 : w.cell? ⟨c, 7, none⟩ = some kC
  c8 : w.cell? ⟨c, 8, none⟩ = some kS
  c9 : w.cell? ⟨c, 9, none⟩ = some kF
  c10 : w.cell? ⟨c, 10, none⟩ = some kN
  c11 : w.cell? ⟨c, 11, none⟩ = some kT
  sW : SL 1 RI (· < B) w vW h.words
  sO : SL 1 RI (· < B) w vO h.noted
  lk : RLk (· < B) w kC kS kF kN kT d
theorem Gd.below {B : Nat} {w w' : World} {c : Nat} {vW vO kC kS kF kN kT : Value} {h : HeapD} {d : LinkD} (g : Gd B w c vW vO kC kS kF kN kT h d) (hb : Below w.heap.size w w') : Gd B w' c vW vO kC kS kF kN kT h d :=
  have up : ∀ j v, w.cell? ⟨c, j, none⟩ = some v → w'.cell? ⟨c, j, none⟩ = some v := fun j _ e => (hb.cell (p := ⟨c, j, none⟩) g.lt).trans e
  have hk := Kp.below (hb.mono g.le)
  ⟨Nat.lt_of_lt_of_le g.lt hb.size, Nat.le_trans g.le hb.size, up _ _ g.c0, up _ _ g.c1, up _ _ g.c2, up _ _ g.c3, up _ _ g.c4, up _ _ g.c5, up _ _ g.c6, up _ _ g.c7, up _ _ g.c8, up _ _ g.c9, up _ _ g.c10, up _ _ g.c11, g.sW.keptI hk, g.sO.keptI hk, g.lk.kept hk⟩

def partB (n : Int) : Bool := decide (3 ≤ n) && decide (n ≤ 2000)
set_option maxHeartbeats 1000000 in
theorem isPart_any (w : World) (n : Int) : Calls Tryz.prog 48 #[.int .i64 n] w fun r w' => r = .returned (.bool (partB n)) ∧ w' = w := by
  by_cases h1 : 3 ≤ n
  · by_cases h2 : n ≤ 2000
    · have HR : Hid (partB n = true) := by show partB n = true; simp [partB, h1, h2]
      go_enter Tryz.func48, Tryz.ntmps48
      go_wp2_with fail
      go_ret
      exact ⟨by rw [HR.out]; rfl, rfl⟩
    · have HR : Hid (partB n = false) := by show partB n = false; simp [partB, h2]
      go_enter Tryz.func48, Tryz.ntmps48
      go_wp2_with fail
      go_ret
      exact ⟨by rw [HR.out]; rfl, rfl⟩
  · have HR : Hid (partB n = false) := by show partB n = false; simp [partB, h1]
    go_enter Tryz.func48, Tryz.ntmps48
    go_wp2_with fail
    go_ret
    exact ⟨by rw [HR.out]; rfl, rfl⟩

set_option maxHeartbeats 1000000 in
theorem isTag_any (w : World) (B c : Nat) (vW vO kC kS kF kN kT : Value) (h : HeapD) (d : LinkD) (g : Gd B w c vW vO kC kS kF kN kT h d) (tag : Int) (hn : d.classes.length ≤ 1000) :
    Calls Tryz.prog 98 #[.pointer (some ⟨c, 0, none⟩), .int .i64 tag] w fun r w' => r = .returned (.bool (isTagB d.classes.length tag)) ∧ w' = w := by
  have hl := g.lt
  have c7 := g.c7
  obtain ⟨aC, cC, rfl, -, hm, -⟩ := g.lk.C
  unfold maxLen at hm
  clear g
  by_cases h1 : 1 ≤ tag
  · by_cases h2 : tag < 3 + d.classes.length
    · have HR : Hid (isTagB d.classes.length tag = true) := by show isTagB _ _ = true; simp [isTagB, h1, h2]
      go_enter Tryz.func98, Tryz.ntmps98
      go_wp2_with fail
      go_ret
      exact ⟨by rw [HR.out]; rfl, rfl⟩
    · have HR : Hid (isTagB d.classes.length tag = false) := by show isTagB _ _ = false; simp [isTagB, h2]
      go_enter Tryz.func98, Tryz.ntmps98
      go_wp2_with fail
      go_ret
      exact ⟨by rw [HR.out]; rfl, rfl⟩
  · have HR : Hid (isTagB d.classes.length tag = false) := by show isTagB _ _ = false; simp [isTagB, h1]
    go_enter Tryz.func98, Tryz.ntmps98
    go_wp2_with fail
    go_ret
    exact ⟨by rw [HR.out]; rfl, rfl⟩

set_option maxHeartbeats 1000000 in
theorem mayHave_any (w : World) (B c : Nat) (vW vO kC kS kF kN kT : Value) (h : HeapD) (d : LinkD) (g : Gd B w c vW vO kC kS kF kN kT h d) (tag len : Int) (ht : tag < 3 + d.fields.length) :
    Calls Tryz.prog 99 #[.pointer (some ⟨c, 0, none⟩), .int .i64 tag, .int .i64 len] w fun r w' => r = .returned (.bool (mayHaveB d.fields tag len)) ∧ w' = w := by
  have hl := g.lt
  have c9 := g.c9
  have HF := mkHid g.lk.F
  obtain ⟨aF, cF, rfl, -, hm, -⟩ := g.lk.F
  unfold maxLen at hm
  clear g
  by_cases h1 : 3 ≤ tag
  · obtain ⟨k, hk⟩ : ∃ k : Nat, tag = 3 + k := ⟨(tag - 3).toNat, by omega⟩
    subst hk
    have hkl : k < d.fields.length := by omega
    obtain ⟨bF, oF, aV, cV, rfl, hbF, e1, sV⟩ := HF.out.atSl k hkl
    have hfa : fieldsAt d.fields (3 + k) = d.fields[k] := by
      unfold fieldsAt
      rw [show ((3 + (k : Int)) - 3).toNat = k by omega]
      simp [hkl]
    have HM : Hid (mayHaveB d.fields (3 + k) len = decide (len = d.fields[k].length)) := by show mayHaveB _ _ _ = _; rw [mayHaveB, if_pos h1, hfa]
    have q1 : (0 : Int) ≤ k := by omega
    have q2 : (k : Int) < d.fields.length := by omega
    have q3 : 3 + (k : Int) - 3 = k := by omega
    have hmv : d.fields[k].length ≤ 9223372036854775807 := by obtain ⟨_, _, -, -, h, -⟩ := sV; unfold maxLen at h; omega
    clear sV hfa HF
    generalize d.fields[k].length = fl at *
    by_cases h2 : len = fl
    · have h3 : (len == (fl : Int)) = true := beq_iff_eq.2 h2
      have HR : Hid (mayHaveB d.fields (3 + k) len = true) := HM.out.trans (decide_eq_true h2)
      go_enter Tryz.func99, Tryz.ntmps99
      go_wp2_with fail
      go_ret
      exact ⟨by rw [HR.out]; simp, rfl⟩
    · have h3 : (len == (fl : Int)) = false := beq_eq_false_iff_ne.2 h2
      have HR : Hid (mayHaveB d.fields (3 + k) len = false) := HM.out.trans (decide_eq_false h2)
      go_enter Tryz.func99, Tryz.ntmps99
      go_wp2_with fail
      go_ret
      exact ⟨by rw [HR.out]; simp, rfl⟩
  · have HM : Hid (mayHaveB d.fields tag len = (decide (0 ≤ len) && decide (len ≤ 500))) := by show mayHaveB _ _ _ = _; rw [mayHaveB, if_neg h1]
    by_cases h2 : 0 ≤ len
    · by_cases h3 : len ≤ 500
      · have HR : Hid (mayHaveB d.fields tag len = true) := HM.out.trans (by simp [h2, h3])
        go_enter Tryz.func99, Tryz.ntmps99
        go_wp2_with fail
        go_ret
        exact ⟨by rw [HR.out]; rfl, rfl⟩
      · have HR : Hid (mayHaveB d.fields tag len = false) := HM.out.trans (by simp [h3])
        go_enter Tryz.func99, Tryz.ntmps99
        go_wp2_with fail
        go_ret
        exact ⟨by rw [HR.out]; rfl, rfl⟩
    · have HR : Hid (mayHaveB d.fields tag len = false) := HM.out.trans (by simp [h2])
      go_enter Tryz.func99, Tryz.ntmps99
      go_wp2_with fail
      go_ret
      exact ⟨by rw [HR.out]; rfl, rfl⟩

theorem isOld_any (w : World) (B c : Nat) (vW vO kC kS kF kN kT : Value) (h : HeapD) (d : LinkD) (g : Gd B w c vW vO kC kS kF kN kT h d) (loc : Int) :
    Calls Tryz.prog 177 #[.pointer (some ⟨c, 0, none⟩), .int .i64 loc] w fun r w' => r = .returned (.bool (decide (h.young < loc))) ∧ w' = w := by
  have hl := g.lt
  have c1 := g.c1
  clear g
  go_enter Tryz.func177, Tryz.ntmps177
  go_wp2_with fail
  go_ret
  exact ⟨rfl, rfl⟩

def youngB (h : HeapD) (loc : Int) : Bool := decide (0 < loc) && decide (loc ≤ h.young)
set_option maxHeartbeats 1000000 in
theorem isYoung_any (w : World) (B c : Nat) (vW vO kC kS kF kN kT : Value) (h : HeapD) (d : LinkD) (g : Gd B w c vW vO kC kS kF kN kT h d) (loc : Int) :
    Calls Tryz.prog 153 #[.pointer (some ⟨c, 0, none⟩), .int .i64 loc] w fun r w' => r = .returned (.bool (youngB h loc)) ∧ w' = w := by
  have hl := g.lt
  have c1 := g.c1
  clear g
  by_cases h1 : 0 < loc
  · have HR : Hid (youngB h loc = decide (loc ≤ h.young)) := by show youngB h loc = _; simp [youngB, h1]
    go_enter Tryz.func153, Tryz.ntmps153
    go_wp2_with fail
    go_ret
    exact ⟨by rw [HR.out]; rfl, rfl⟩
  · have HR : Hid (youngB h loc = false) := by show youngB h loc = _; simp [youngB, h1]
    go_enter Tryz.func153, Tryz.ntmps153
    go_wp2_with fail
    go_ret
    exact ⟨by rw [HR.out]; rfl, rfl⟩

def thV (t : ThD) : Value := .agg #[.int .i64 t.loc, .int .i64 t.tag, .int .i64 t.len, .int .i64 t.hash]
/-- Numbers that are small: no sum of a few goes round. -/
def small (n : Int) : Prop := -1000000000 ≤ n ∧ n ≤ 1000000000
set_option maxHeartbeats 1000000 in
theorem word_any (w : World) (t : ThD) (n : Int) (h1 : small t.loc) (h2 : small n) :
    Calls Tryz.prog 68 #[thV t, .int .i64 n] w fun r w' => r = .returned (.int .i64 (t.loc + 3 + n)) ∧ Below w.heap.size w w' := by
  unfold small at h1 h2
  obtain ⟨h1, h1'⟩ := h1
  obtain ⟨h2, h2'⟩ := h2
  unfold thV
  go_enter Tryz.func68, Tryz.ntmps68
  go_wp2_with fail
  go_ret
  exact ⟨rfl, (Below.refl _ _).alloc (Nat.le_refl _) _⟩
set_option maxHeartbeats 1000000 in
theorem end_any (w : World) (t : ThD) (h1 : small t.loc) (h2 : small t.len) :
    Calls Tryz.prog 72 #[thV t] w fun r w' => r = .returned (.int .i64 t.fin) ∧ Below w.heap.size w w' := by
  have HW := mkHid (fun W => word_any W t t.len h1 h2)
  have HF : Hid (t.fin = t.loc + 3 + t.len) := rfl
  unfold thV at *
  go_enter Tryz.func72, Tryz.ntmps72
  go_wp2_with fail
  refine (HW.out _).mono ?_
  rintro r w2 ⟨rfl, hb⟩
  have HB := mkHid (((Below.refl w.heap.size w).alloc (Nat.le_refl _) (.cells #[.int .i64 t.loc, .int .i64 t.tag, .int .i64 t.len, .int .i64 t.hash] 101)).trans (hb.mono (by simp)))
  clear hb HW
  go_wp2_with fail
  go_ret
  exact ⟨by rw [HF.out]; rfl, HB.out⟩
end Go.Proofs.YtjdnmblggdobgaaGreat
