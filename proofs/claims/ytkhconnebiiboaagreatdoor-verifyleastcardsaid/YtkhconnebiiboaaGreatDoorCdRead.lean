/- The contract of the generic function that reads all operations. -/
import Derived.Test.YtkhconnebiiboaaGreatDoorCdInsNo
import Derived.Test.YtkhconnebiiboaaGreatDoorCdScan
import Derived.Deep.LoopGhost
namespace Go.Proofs.YtkhconnebiiboaaGreatDoor.Cd
set_option maxRecDepth 100000
open Go.RowKit

/-- The tables, in memory. -/
structure Tabs (w : World) : Prop where
  behind : ∀ o, o < 37 → w.cell? ⟨6, o, none⟩ = some (.int .i64 (kOf o))
  bytes : ∀ k, k < 5 → w.cell? ⟨5, k * 4, none⟩ = some (.int .i64 (mOf k))
  two : 6 < w.heap.size
theorem Tabs.drewN {w : World} (h : Tabs w) (n : Nat) : Tabs (w.drewN n) := ⟨h.behind, h.bytes, h.two⟩
theorem Tabs.grown {w w' : World} {b : Nat} (h : Tabs w) (hg : w.grownBy w' (some b)) (hb : 6 < b) : Tabs w' :=
  ⟨fun o ho => hg.cell (h.behind o ho) (by simp; omega), fun k hk => hg.cell (h.bytes k hk) (by simp; omega), Nat.lt_of_lt_of_le h.two hg.size⟩

/-- One operation, read or given up. -/
theorem ins_any (w : World) (b : Nat) (s : ByteArray) (p : Nat) (h : Rd w b s p) (hT : Tabs w) (hs : s.size ≤ maxLen) (hp : p < s.size) (hb : 6 < b) :
    Calls Tryz.prog 171 #[.pointer (some ⟨b, 0, none⟩)] w fun r w' => w.grownBy w' (some b) ∧
      ((37 ≤ bt s p ∧ r = .panicked [wrongV 7 p]) ∨ (¬ 37 ≤ bt s p ∧ s.size < nextAt s p ∧ r = .panicked [wrongV 1 p]) ∨
       (¬ 37 ≤ bt s p ∧ ¬ s.size < nextAt s p ∧ r = .returned (.agg #[.int .i64 (oneAt s p).loc, .int .i64 (oneAt s p).op, .int .i64 (oneAt s p).a, .int .i64 (oneAt s p).b]) ∧ Rd w' b s (nextAt s p))) := by
  by_cases h1 : 37 ≤ bt s p
  · refine (ins_kind w b s p h hs hp (bt s p) (by omega) rfl).mono ?_
    rintro r w' ⟨rfl, hg⟩
    exact ⟨hg, Or.inl ⟨h1, rfl⟩⟩
  · by_cases h2 : s.size < nextAt s p
    · refine (ins_short w b s p h hs hp (bt s p) (kOf (bt s p)) (by omega) rfl (kOf_lt _) (hT.behind _ (by omega)) (hT.bytes _ (kOf_lt _)) hb (by unfold nextAt at h2; omega)).mono ?_
      rintro r w' ⟨rfl, hg⟩
      exact ⟨hg, Or.inr (Or.inl ⟨h1, h2, rfl⟩)⟩
    · refine (ins_ok w b s p h hs hp (bt s p) (kOf (bt s p)) (by omega) rfl (kOf_lt _) (hT.behind _ (by omega)) (hT.bytes _ (kOf_lt _)) hb (by unfold nextAt at h2; omega)).mono ?_
      rintro r w' ⟨rfl, hg, hr⟩
      exact ⟨hg, Or.inr (Or.inr ⟨h1, h2, rfl, hr⟩)⟩

theorem grown_trans {w w1 w2 : World} {b : Nat} (h : w.grownBy w1 (some b)) (k : w1.grownBy w2 (some b)) : w.grownBy w2 (some b) :=
  ⟨k.os.trans h.os, k.tape.trans h.tape, k.output.trans h.output, Nat.le_trans h.size k.size, fun i hi hne => (k.block i (Nat.lt_of_lt_of_le hi h.size) hne).trans (h.block i hi hne)⟩
theorem grown_drewN_left {w w' : World} {b n : Nat} (h : (w.drewN n).grownBy w' (some b)) : w.grownBy w' (some b) := ⟨h.os, h.tape, h.output, h.size, h.block⟩
/-- What was made anew has been grown too: a row of the call's own. -/
theorem grown_own {w w1 w2 : World} {b : Nat} {row : Option Nat} (h : w.grownBy w1 (some b)) (k : w1.grownBy w2 row) (hr : ∀ i, row = some i → w.heap.size ≤ i) : w.grownBy w2 (some b) :=
  ⟨k.os.trans h.os, k.tape.trans h.tape, k.output.trans h.output, Nat.le_trans h.size k.size, fun i hi hne => (k.block i (Nat.lt_of_lt_of_le hi h.size) (fun e => by have := hr i e.symm; omega)).trans (h.block i hi hne)⟩
theorem Rd.grown {w w' : World} {b : Nat} {s : ByteArray} {p : Nat} {row : Option Nat} (h : Rd w b s p) (hg : w.grownBy w' row) (hne : some b ≠ row) : Rd w' b s p :=
  ⟨hg.cell h.text hne, hg.cell h.at_ hne, (World.frozen?_of_block (hg.block b h.lt hne)).trans h.fz⟩

theorem own_drewN {w : World} {B e size n : Nat} {v : Value} {xs : List Value} (h : w.ownsRow B e size v n xs) (q : Nat) : (w.drewN q).ownsRow B e size v n xs := h
theorem own_ne {w : World} {B e size n b : Nat} {v : Value} {xs : List Value} (h : w.ownsRow B e size v n xs) (hb : b < B) : v.ownBlock = none ∨ v.ownBlock ≠ some b := by
  right
  intro e
  have := (h.lt b e).1
  omega

theorem Tryz.info42 : (Tryz.prog.info? 139).map (fun i => (i.zero, i.size, i.bytes)) = some (some (.agg #[.int .i64 0, .int .i64 0, .int .i64 0, .int .i64 0]), 4, 32) := by kernel_rfl

set_option maxHeartbeats 400000 in
theorem readAll_any (w : World) (b : Nat) (s : ByteArray) (h : Rd w b s 0) (hT : Tabs w) (hs : s.size ≤ 200) (hb : 6 < b) :
    Calls Tryz.prog 170 #[.pointer (some ⟨b, 0, none⟩), .func (.func 171) #[.pointer (some ⟨b, 0, none⟩)] #[]] w fun r w' => w.grownBy w' (some b) ∧
      ((∃ l v, scan s s.size 0 [] = .ok l ∧ l.length ≤ s.size ∧ r = .returned v ∧ w'.ownsRow w.heap.size 139 4 v l.length (cellsOf l)) ∨ (∃ e p, scan s s.size 0 [] = .error (e, p) ∧ r = .panicked [wrongV e p])) := by
  have hs' : s.size ≤ maxLen := by unfold maxLen; omega
  obtain ⟨i0, hi, hz0, hz1, hz2⟩ := info_parts Tryz.info42
  go_enter Tryz.func170, Tryz.ntmps170
  go_wp2_with fail
  go_loopg [5] s.size (fun g v wr => ∃ (p f : Nat) (acc : List Op4), g = s.size - p ∧ p ≤ s.size ∧ acc.length ≤ p ∧ s.size - p ≤ f ∧ scan s f p acc = scan s s.size 0 [] ∧ wr.ownsRow w.heap.size 139 4 v acc.length (cellsOf acc) ∧ Rd wr b s p ∧ w.grownBy wr (some b))
  case atStart => exact ⟨0, s.size, [], rfl, Nat.zero_le _, Nat.le_refl _, Nat.le_refl _, rfl, World.ownsRow_nil _ _ _ _, h, World.grownBy.refl _ _⟩
  case round =>
    obtain ⟨p, f, acc, hg, hp, hacc, hf, hsc, hown, hrd, hgr⟩ := hrel
    have HG : Hid (gk = s.size - p) := hg
    have HS : Hid (scan s f p acc = scan s s.size 0 []) := hsc
    clear hg hsc
    have hbw := Nat.lt_of_lt_of_le h.lt hgr.size
    by_cases hlt : p < s.size
    · go_wp2_with fail
      refine (left_any _ b s p hrd hp hs').mono ?_
      rintro e w1 ⟨rfl, n1, rfl⟩
      have hpos : (0 : Int) < (s.size : Int) - p := by omega
      go_wp2_with fail
      refine (ins_any _ b s p (hrd.drewN _) ((hT.grown hgr hb).drewN _) hs' hlt hb).mono ?_
      rintro e w2 ⟨hg2, hw2⟩
      rcases hw2 with ⟨h1, rfl⟩ | ⟨h1, h2, rfl⟩ | ⟨h1, h2, rfl, hr2⟩
      · refine ⟨rfl, ?_, Or.inr ⟨_, _, HS.out.symm.trans (scan_kind s f p acc hlt hf h1), rfl⟩⟩
        exact grown_trans hgr (grown_drewN_left hg2)
      · refine ⟨rfl, ?_, Or.inr ⟨_, _, HS.out.symm.trans (scan_short s f p acc hlt hf h1 h2), rfl⟩⟩
        exact grown_trans hgr (grown_drewN_left hg2)
      · obtain ⟨f', hf', hs2⟩ := scan_step s f p acc hlt hf h1 h2
        have HS' : Hid (scan s f' (nextAt s p) (acc ++ [oneAt s p]) = scan s s.size 0 []) := hs2.symm.trans HS.out
        clear hs2 HS
        have hown2 : w2.ownsRow w.heap.size 139 4 u5 acc.length (cellsOf acc) := (own_drewN hown n1).kept hg2 (own_ne hown h.lt)
        have hgr2 := grown_trans hgr (grown_drewN_left hg2)
        clear hown hgr hg2 hrd
        generalize hx : oneAt s p = x at *
        have HX : Hid (oneAt s p = x) := hx
        clear hx
        go_wp2_with (at_builtin; refine wpList_append_own _ rfl _ _ 105 rfl w.heap.size 139 i0 (.agg #[.int .i64 0, .int .i64 0, .int .i64 0, .int .i64 0]) 4 32 Tryz.underlying105 hi hz0 hz1 hz2 rfl (by decide) _ _ _ rfl (hown2.alloc _) ⟨w2.heap.size, 0, none⟩ 1 1 x.cells rfl rfl ?c1 ?c2 ?c3 ?c4 ?c5 ?_)
        case c1 =>
          intro j u hj
          match j, hj with
          | 0, hj => simp [Op4.cells] at hj; subst hj; simp [Addr.add]
          | 1, hj => simp [Op4.cells] at hj; subst hj; simp [Addr.add]
          | 2, hj => simp [Op4.cells] at hj; subst hj; simp [Addr.add]
          | 3, hj => simp [Op4.cells] at hj; subst hj; simp [Addr.add]
          | n + 4, hj => simp [Op4.cells] at hj
        case c2 => intro u hu; simp [Op4.cells] at hu; rcases hu with rfl | rfl | rfl | rfl <;> rfl
        case c3 => unfold maxLen; omega
        case c4 => omega
        case c5 => have := hgr2.size; simp; omega
        intro v' w3 hown3 hg3 _
        have hr3 : Rd w3 b s (nextAt s p) := (hr2.alloc _).grown hg3 (by intro e; have := (hown2.lt b e.symm).1; have := h.lt; omega)
        have hgr3 : w.grownBy w3 (some b) := grown_own (grown_alloc hgr2 _) hg3 (fun i e => (hown2.lt i e).1)
        have HO : Hid (w3.ownsRow w.heap.size 139 4 v' (acc.length + 1) (cellsOf acc ++ x.cells)) := hown3
        have hnx : p < nextAt s p := by unfold nextAt; omega
        clear hown3 hown2 hg3 hgr2 hr2
        go_wp2
        go_roundg (s.size - nextAt s p)
        case measure => have := HG.out; omega
        case rel => exact ⟨nextAt s p, f', acc ++ [x], rfl, by omega, by simp; omega, hf', HX.out ▸ HS'.out, by rw [cellsOf_snoc, List.length_append]; exact HO.out, hr3, hgr3⟩
    · have hpe : p = s.size := by omega
      go_wp2_with fail
      refine (left_any _ b s p hrd hp hs').mono ?_
      rintro e w1 ⟨rfl, n1, rfl⟩
      have hpos : ¬ (0 : Int) < (s.size : Int) - p := by omega
      go_wp2_with fail
      go_ret
      refine ⟨grown_drewN hgr _, Or.inl ⟨acc, u5, HS.out.symm.trans (scan_end s f p acc hlt), by omega, rfl, hown⟩⟩
end Go.Proofs.YtkhconnebiiboaaGreatDoor.Cd
