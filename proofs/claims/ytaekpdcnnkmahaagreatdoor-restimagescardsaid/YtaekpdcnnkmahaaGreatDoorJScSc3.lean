/- The contracts of the document's own reader. -/
import Derived.Test.YtaekpdcnnkmahaaGreatDoorSame
import Derived.Test.YtaekpdcnnkmahaaGreatDoorJRdTextRdAll
namespace Go.Proofs.YtaekpdcnnkmahaaGreatDoor
set_option maxRecDepth 100000
open Go.RowKit

/-- The document's reader at a block: its text, where it is, and whether something was wrong. -/
structure Sc (w : World) (X : Nat) (s : ByteArray) (p : Nat) (b : Bool) : Prop where
  text : w.cell? ⟨X, 0, none⟩ = some (.string s)
  at_ : w.cell? ⟨X, 1, none⟩ = some (.int .i64 p)
  bad : w.cell? ⟨X, 2, none⟩ = some (.bool b)
  fz1 : w.frozen? ⟨X, 1, none⟩ = false
  fz2 : w.frozen? ⟨X, 2, none⟩ = false
theorem Sc.lt {w : World} {X : Nat} {s : ByteArray} {p : Nat} {b : Bool} (h : Sc w X s p b) : X < w.heap.size := World.block_lt_of_cell? w _ h.text
theorem Sc.kept {w w' : World} {X : Nat} {s : ByteArray} {p : Nat} {b : Bool} (h : Sc w X s p b) (e : w'.heap[X]? = w.heap[X]?) : Sc w' X s p b :=
  ⟨(World.cell?_of_block (a := ⟨X, 0, none⟩) e).trans h.text, (World.cell?_of_block (a := ⟨X, 1, none⟩) e).trans h.at_, (World.cell?_of_block (a := ⟨X, 2, none⟩) e).trans h.bad, (World.frozen?_of_block (a := ⟨X, 1, none⟩) e).trans h.fz1, (World.frozen?_of_block (a := ⟨X, 2, none⟩) e).trans h.fz2⟩
theorem Sc.drewN {w : World} {X : Nat} {s : ByteArray} {p : Nat} {b : Bool} (h : Sc w X s p b) (n : Nat) : Sc (w.drewN n) X s p b := ⟨h.text, h.at_, h.bad, h.fz1, h.fz2⟩
theorem Sc.setAt {w : World} {X : Nat} {s : ByteArray} {p : Nat} {b : Bool} (h : Sc w X s p b) (p' : Nat) (x : Int) (hx : x = (p' : Int)) : Sc (w.setCell ⟨X, 1, none⟩ (.int .i64 x)) X s p' b := by
  subst hx
  exact ⟨(World.cell?_setCell_other w _ _ _ (by simp)).trans h.text, World.cell?_setCell_same w _ _ h.at_, (World.cell?_setCell_other w _ _ _ (by simp)).trans h.bad, by rw [World.frozen?_setCell]; exact h.fz1, by rw [World.frozen?_setCell]; exact h.fz2⟩
theorem Sc.setBad {w : World} {X : Nat} {s : ByteArray} {p : Nat} {b : Bool} (h : Sc w X s p b) (b' : Bool) : Sc (w.setCell ⟨X, 2, none⟩ (.bool b')) X s p b' :=
  ⟨(World.cell?_setCell_other w _ _ _ (by simp)).trans h.text, (World.cell?_setCell_other w _ _ _ (by simp)).trans h.at_, World.cell?_setCell_same w _ _ h.bad, by rw [World.frozen?_setCell]; exact h.fz1, by rw [World.frozen?_setCell]; exact h.fz2⟩

/-- What a reading leaves: where it is then, whether something is wrong by then, and what that tells of the plain reading. -/
structure ScOut {α : Type} (w w' : World) (X : Nat) (s : ByteArray) (b : Bool) (res : Option (α × Nat)) (x : α) (p' : Nat) (b' : Bool) : Prop where
  grown : w.grownBy w' (some X)
  sc : Sc w' X s p' b'
  le : p' ≤ s.size
  good : b' = false → b = false ∧ res = some (x, p')
  wrong : b' = true → b = true ∨ res = none

set_option maxHeartbeats 1000000 in
theorem count_s (w : World) (X : Nat) (s : ByteArray) (p : Nat) (b : Bool) (h : Sc w X s p b) (hp : p ≤ s.size) (hs : s.size ≤ 20000) :
    Calls Tryz.prog 26 #[.pointer (some ⟨X, 0, none⟩)] w fun r w' => ∃ (n p' : Nat) (b' : Bool), r = .returned (.int .i64 n) ∧ n ≤ 255 ∧ ScOut w w' X s b (pCount s p) n p' b' := by
  have hX := h.lt
  have H := mkHid h
  obtain ⟨h1, h2, h3, h4, h5⟩ := h
  by_cases hc : p < s.size
  · have hc' : ¬ (s.size : Int) ≤ p := by omega
    have hb0 : (0 : Int) ≤ p := by omega
    have hb1 : (p : Int) < s.size := by omega
    have HC := mkHid hc
    have HN : Hid (pCount s p = some (bt s p, p + 1)) := by show pCount s p = _; rw [pCount, if_pos hc]
    have eb : (s[p].toNat) = bt s p := (bt_eq s p hc).symm
    have hw := byte_w s[p]
    go_enter Tryz.func26, Tryz.ntmps26
    go_wp2_with fail
    go_quiet (fail)
    go_wp2_with fail
    go_quiet (fail)
    go_wp2_with fail
    go_ret
    have hbl := bt_lt s p
    refine ⟨bt s p, p + 1, b, ?_, by omega, ?_, ?_, by have := HC.out; omega, fun hb => ⟨hb, HN.out⟩, fun hb => Or.inl hb⟩
    · simp
      exact hw.trans (congrArg _ eb)
    · exact grown_drewN (grown_set (grown_drewN (World.grownBy.refl _ _) _) _ _ (Or.inl rfl)) _
    · exact ((H.out.drewN _).setAt (p + 1) _ (by omega)).drewN _
  · have hc' : (s.size : Int) ≤ p := by omega
    have HN : Hid (pCount s p = none) := by show pCount s p = _; rw [pCount, if_neg hc]
    go_enter Tryz.func26, Tryz.ntmps26
    go_wp2_with fail
    go_quiet (fail)
    go_wp2_with fail
    go_ret
    exact ⟨0, p, true, rfl, by omega, grown_set (grown_drewN (World.grownBy.refl _ _) _) _ _ (Or.inl rfl), (H.out.drewN _).setBad true, hp, (fun hb => by cases hb), fun _ => Or.inr HN.out⟩

set_option maxHeartbeats 1000000 in
theorem bytes_s (w : World) (X : Nat) (s : ByteArray) (p n : Nat) (b : Bool) (h : Sc w X s p b) (hp : p ≤ s.size) (hs : s.size ≤ 20000) (hn : n ≤ 100000) :
    Calls Tryz.prog 29 #[.pointer (some ⟨X, 0, none⟩), .int .i64 n] w fun r w' => ∃ (t : ByteArray) (p' : Nat) (b' : Bool), r = .returned (.string t) ∧ t.size ≤ maxLen ∧ ScOut w w' X s b (pBytes s n p) t p' b' := by
  have hX := h.lt
  have H := mkHid h
  obtain ⟨h1, h2, h3, h4, h5⟩ := h
  cases b
  · by_cases hc : p + n ≤ s.size
    · have hc' : decide ((s.size : Int) - p < n) = false := by simp; omega
      have hb0 : (0 : Int) ≤ p := by omega
      have hb1 : (p : Int) ≤ p + n := by omega
      have hb2 : (p : Int) + n ≤ s.size := by omega
      have HC := mkHid hc
      have HN : Hid (pBytes s n p = some (s.extract p (p + n), p + n)) := by show pBytes s n p = _; rw [pBytes, if_pos hc]
      clear hc
      go_enter Tryz.func29, Tryz.ntmps29
      go_wp2_with fail
      go_quiet (fail)
      go_wp2_with fail
      go_quiet (fail)
      go_wp2_with fail
      go_ret
      refine ⟨_, p + n, false, rfl, ?_, ?_, ?_, HC.out, fun hb => ⟨hb, ?_⟩, fun hb => Or.inl hb⟩
      · have := HC.out
        simp [maxLen]
        omega
      · exact grown_drewN (grown_set (grown_drewN (World.grownBy.refl _ _) _) _ _ (Or.inl rfl)) _
      · exact ((H.out.drewN _).setAt (p + n) _ (by omega)).drewN _
      · rw [HN.out]
        try rfl
    · have hc' : decide ((s.size : Int) - p < n) = true := by simp; omega
      have HN : Hid (pBytes s n p = none) := by show pBytes s n p = _; rw [pBytes, if_neg hc]
      clear hc
      go_enter Tryz.func29, Tryz.ntmps29
      go_wp2_with fail
      go_quiet (fail)
      go_wp2_with fail
      go_ret
      exact ⟨_, p, true, rfl, by decide, grown_set (grown_drewN (World.grownBy.refl _ _) _) _ _ (Or.inl rfl), (H.out.drewN _).setBad true, hp, (fun hb => by cases hb), fun _ => Or.inr HN.out⟩
  · go_enter Tryz.func29, Tryz.ntmps29
    go_wp2_with fail
    go_quiet (fail)
    go_wp2_with fail
    go_ret
    exact ⟨_, p, true, rfl, by decide, grown_set (grown_drewN (World.grownBy.refl _ _) _) _ _ (Or.inl rfl), (H.out.drewN _).setBad true, hp, (fun hb => by cases hb), fun _ => Or.inl rfl⟩
end Go.Proofs.YtaekpdcnnkmahaaGreatDoor
/- The contracts of the document's own reader: numbers, texts and kinds. -/
namespace Go.Proofs.YtaekpdcnnkmahaaGreatDoor
set_option maxRecDepth 100000
open Go.RowKit

/-- One reading behind another one: what is left of the plain reading. -/
theorem res_step {α γ : Type} {P : Option γ} {Q : Option (α × Nat)} {K : α × Nat → Option γ} {b b' : Bool} {x : α × Nat} (G : b = false → P = Q.bind K) (B : b = true → P = none) (h1 : b' = false → b = false ∧ Q = some x) (h2 : b' = true → b = true ∨ Q = none) :
    (b' = false → P = K x) ∧ (b' = true → P = none) := by
  refine ⟨fun h => ?_, fun h => ?_⟩
  · obtain ⟨h3, h4⟩ := h1 h
    rw [G h3, h4]
    rfl
  · rcases h2 h with h3 | h3
    · exact B h3
    · cases b
      · rw [G rfl, h3]
        rfl
      · exact B rfl
/-- Two readings, one behind the other, as one. -/
theorem ScOut.two {α β : Type} {w w1 w2 : World} {X : Nat} {s : ByteArray} {b b1 b2 : Bool} {Q : Option (α × Nat)} {K : α × Nat → Option (β × Nat)} {x : α} {p1 : Nat} {y : β} {p2 : Nat} (h : ScOut w w1 X s b Q x p1 b1) (k : ScOut w1 w2 X s b1 (K (x, p1)) y p2 b2) : ScOut w w2 X s b (Q.bind K) y p2 b2 := by
  refine ⟨grown_trans h.grown k.grown, k.sc, k.le, fun hb => ?_, fun hb => ?_⟩
  · obtain ⟨h1, h2⟩ := k.good hb
    obtain ⟨h3, h4⟩ := h.good h1
    exact ⟨h3, by rw [h4]; exact h2⟩
  · rcases k.wrong hb with h1 | h1
    · rcases h.wrong h1 with h2 | h2
      · exact Or.inl h2
      · exact Or.inr (by rw [h2]; rfl)
    · cases hb1 : b1
      · obtain ⟨_, h4⟩ := h.good hb1
        exact Or.inr (by rw [h4]; exact h1)
      · rcases h.wrong hb1 with h2 | h2
        · exact Or.inl h2
        · exact Or.inr (by rw [h2]; rfl)
theorem ScOut.map {α β : Type} {w w' : World} {X : Nat} {s : ByteArray} {b b' : Bool} {Q : Option (α × Nat)} {x : α} {p' : Nat} {R : Option (β × Nat)} {y : β} (h : ScOut w w' X s b Q x p' b') (h1 : Q = some (x, p') → R = some (y, p')) (h2 : Q = none → R = none) : ScOut w w' X s b R y p' b' :=
  ⟨h.grown, h.sc, h.le, fun hb => ⟨(h.good hb).1, h1 (h.good hb).2⟩, fun hb => (h.wrong hb).elim Or.inl fun e => Or.inr (h2 e)⟩

theorem two_plain (s : ByteArray) (p : Nat) : pNumber s p = (pCount s p).bind fun x => (pCount s x.2).bind fun y => some (256 * x.1 + y.1, y.2) := by
  unfold pNumber pCount
  by_cases h1 : p < s.size
  · by_cases h2 : p + 1 < s.size
    · rw [if_pos (by omega), if_pos h1]
      simp only [Option.bind_some]
      rw [if_pos h2]
      rfl
    · rw [if_neg (by omega), if_pos h1]
      simp only [Option.bind_some]
      rw [if_neg h2]
      rfl
  · rw [if_neg (by omega), if_neg h1]
    rfl

theorem two_s (w : World) (X : Nat) (s : ByteArray) (p : Nat) (b : Bool) (h : Sc w X s p b) (hp : p ≤ s.size) (hs : s.size ≤ 20000) :
    Calls Tryz.prog 30 #[.pointer (some ⟨X, 0, none⟩)] w fun r w' => ∃ (n p' : Nat) (b' : Bool), r = .returned (.int .i64 n) ∧ n ≤ 65535 ∧ ScOut w w' X s b (pNumber s p) n p' b' := by
  go_enter Tryz.func30, Tryz.ntmps30
  go_wp2_with fail
  refine (count_s _ X s p b h hp hs).mono ?_
  rintro r w1 ⟨n1, p1, b1, rfl, hn1, ho1⟩
  go_wp2_with fail
  refine (count_s _ X s p1 b1 ho1.sc ho1.le hs).mono ?_
  rintro r w2 ⟨n2, p2, b2, rfl, hn2, ho2⟩
  have HO : Hid (ScOut w w2 X s b (pNumber s p) (256 * n1 + n2) p2 b2) := by
    show ScOut _ _ _ _ _ _ _ _ _
    rw [two_plain]
    exact ho1.two (K := fun x => (pCount s x.2).bind fun y => some (256 * x.1 + y.1, y.2)) (ho2.map (fun e => by simp only [e, Option.bind_some]) (fun e => by simp only [e, Option.bind_none]))
  clear ho1 ho2
  go_wp2_with fail
  go_ret
  exact ⟨256 * n1 + n2, p2, b2, by simp, by omega, HO.out⟩

theorem text_s (w : World) (X : Nat) (s : ByteArray) (p : Nat) (b : Bool) (h : Sc w X s p b) (hp : p ≤ s.size) (hs : s.size ≤ 20000) :
    Calls Tryz.prog 27 #[.pointer (some ⟨X, 0, none⟩)] w fun r w' => ∃ (t : ByteArray) (p' : Nat) (b' : Bool), r = .returned (.string t) ∧ t.size ≤ maxLen ∧ ScOut w w' X s b (pText s p) t p' b' := by
  go_enter Tryz.func27, Tryz.ntmps27
  go_wp2_with fail
  refine (count_s _ X s p b h hp hs).mono ?_
  rintro r w1 ⟨n1, p1, b1, rfl, hn1, ho1⟩
  go_wp2_with fail
  refine (bytes_s _ X s p1 n1 b1 ho1.sc ho1.le hs (by omega)).mono ?_
  rintro r w2 ⟨t, p2, b2, rfl, ht, ho2⟩
  have HO : Hid (ScOut w w2 X s b (pText s p) t p2 b2) := ho1.two (K := fun x => pBytes s x.1 x.2) ho2
  clear ho1 ho2
  go_wp2_with fail
  go_ret
  exact ⟨t, p2, b2, rfl, ht, HO.out⟩
end Go.Proofs.YtaekpdcnnkmahaaGreatDoor
/- The contract of the document's own reader on kinds. -/
namespace Go.Proofs.YtaekpdcnnkmahaaGreatDoor
set_option maxRecDepth 100000
open Go.RowKit

theorem Sc.setOther {w : World} {X : Nat} {s : ByteArray} {p : Nat} {b : Bool} (h : Sc w X s p b) (a : Addr) (v : Value) (ha : X ≠ a.block) : Sc (w.setCell a v) X s p b := h.kept (Below.heap_setCell _ _ _ _ ha)
theorem Sc.alloc {w : World} {X : Nat} {s : ByteArray} {p : Nat} {b : Bool} (h : Sc w X s p b) (o : Obj) : Sc (w.alloc o) X s p b := h.kept (Below.heap_alloc _ _ _ h.lt)
theorem ScOut.from {α : Type} {w W w' : World} {X : Nat} {s : ByteArray} {b b' : Bool} {Q : Option (α × Nat)} {x : α} {p' : Nat} (h : ScOut W w' X s b Q x p' b') (hg : w.grownBy W (some X)) : ScOut w w' X s b Q x p' b' := ⟨grown_trans hg h.grown, h.sc, h.le, h.good, h.wrong⟩
theorem ScOut.on {α : Type} {w W w' : World} {X : Nat} {s : ByteArray} {b b' : Bool} {Q : Option (α × Nat)} {x : α} {p' : Nat} (h : ScOut w W X s b Q x p' b') (hg : w.grownBy w' (some X)) (hs : Sc w' X s p' b') : ScOut w w' X s b Q x p' b' := ⟨hg, hs, h.le, h.good, h.wrong⟩

theorem cell_ofR {W : World} {X t : Nat} {c : Array Value} (h : W.heap[X]? = some (.cells c t (0, 0))) (j : Nat) {x : Value} (hx : c[j]? = some x) : W.cell? ⟨X, j, none⟩ = some x := by
  simp [World.cell?, h, hx]
theorem blk_ltR {W : World} {X : Nat} {o : Obj} (h : W.heap[X]? = some o) : X < W.heap.size := (Array.getElem?_eq_some_iff.1 h).1
theorem set2_world (w1 : World) (N : Nat) (a c : Value) (o : Obj) {x y : Value} (n0 : w1.cell? ⟨N, 0, none⟩ = some x) (n1 : w1.cell? ⟨N, 1, none⟩ = some y) :
    w1.grownBy (((w1.setCell ⟨N, 0, none⟩ a).setCell ⟨N, 1, none⟩ c).alloc o) (some N) ∧ (((w1.setCell ⟨N, 0, none⟩ a).setCell ⟨N, 1, none⟩ c).alloc o).cell? ⟨N, 0, none⟩ = some a ∧
    (((w1.setCell ⟨N, 0, none⟩ a).setCell ⟨N, 1, none⟩ c).alloc o).cell? ⟨N, 1, none⟩ = some c := by
  have hlt : N < w1.heap.size := World.block_lt_of_cell? w1 _ n0
  refine ⟨?_, ?_, ?_⟩
  · refine grown_alloc ?_ _
    refine grown_set ?_ _ _ (Or.inl rfl)
    refine grown_set ?_ _ _ (Or.inl rfl)
    exact World.grownBy.refl _ _
  · rw [World.cell?_alloc_past _ _ _ (by simpa [World.setCell] using hlt), World.cell?_setCell_other _ _ _ _ (by simp), World.cell?_setCell_same _ _ _ n0]
  · rw [World.cell?_alloc_past _ _ _ (by simpa [World.setCell] using hlt)]
    exact World.cell?_setCell_same _ _ _ ((World.cell?_setCell_other _ _ _ _ (by simp)).trans n1)

set_option maxHeartbeats 2000000 in
theorem kind_s (w : World) (X : Nat) (s : ByteArray) (p : Nat) (b : Bool) (h : Sc w X s p b) (hp : p ≤ s.size) (hs : s.size ≤ 20000) :
    Calls Tryz.prog 28 #[.pointer (some ⟨X, 0, none⟩)] w fun r w' => ∃ (k : KindD) (p' : Nat) (b' : Bool), r = .returned (.agg #[.int .i64 k.kind, .string k.cls]) ∧ k.cls.size ≤ maxLen ∧ ScOut w w' X s b (pKind s p) k p' b' := by
  have hX := h.lt
  go_enter Tryz.func28, Tryz.ntmps28
  go_wp2_with fail
  have hg0 : w.grownBy (w.alloc (.cells #[.int .i64 0, .string ⟨#[]⟩] 51)) (some X) := grown_alloc (World.grownBy.refl _ _) _
  refine (count_s _ X s p b (h.alloc _) hp hs).mono ?_
  rintro r w1 ⟨n, p1, b1, rfl, hn, ho1⟩
  have eR : w1.heap[w.heap.size]? = some (.cells #[.int .i64 0, .string ⟨#[]⟩] 51 (0, 0)) := (ho1.grown.block w.heap.size (by simp) (by simp; omega)).trans (by show (w.heap.push _)[w.heap.size]? = _; exact Array.getElem?_push_size)
  have HER := mkHid eR
  have rl := blk_ltR eR
  have r0 := cell_ofR eR 0 (x := .int .i64 0) rfl
  have r1 := cell_ofR eR 1 (x := .string ⟨#[]⟩) rfl
  have f0 : w1.frozen? ⟨w.heap.size, 0, none⟩ = false := by simp [World.frozen?, eR]
  have f1 : w1.frozen? ⟨w.heap.size, 1, none⟩ = false := by simp [World.frozen?, eR]
  have HO1 := mkHid (ho1.from hg0)
  clear ho1 hg0 eR
  cases hc : hasCls (n : Int)
  · have b3 : ((n : Int) == 3) = false := by simp [hasCls] at hc; simp; omega
    have b4 : ((n : Int) == 4) = false := by simp [hasCls] at hc; simp; omega
    have HK := mkHid (HO1.out.two (K := fun x : Nat × Nat => if hasCls x.1 = true then (pText s x.2).bind fun y => some ((⟨x.1, y.1⟩ : KindD), y.2) else some (⟨x.1, ByteArray.empty⟩, x.2)) (y := ⟨n, ByteArray.empty⟩) (w2 := w1) (p2 := p1) (b2 := b1) ⟨World.grownBy.refl _ _, HO1.out.sc, HO1.out.le, fun hb => ⟨hb, by dsimp only; rw [if_neg (by rw [hc]; decide)]⟩, fun hb => Or.inl hb⟩)
    clear hc
    go_wp2_with fail
    obtain ⟨hgf, q0, q1⟩ := set2_world w1 w.heap.size (.int .i64 n) (.string ⟨#[]⟩) (.cells #[.int .i64 n, .string ⟨#[]⟩] 51) r0 r1
    have hscf : Sc (((w1.setCell ⟨w.heap.size, 0, none⟩ (.int .i64 n)).setCell ⟨w.heap.size, 1, none⟩ (.string ⟨#[]⟩)).alloc (.cells #[.int .i64 n, .string ⟨#[]⟩] 51)) X s p1 b1 := ((HK.out.sc.setOther _ _ (by simp; omega)).setOther _ _ (by simp; omega)).alloc _
    have hgw : w.grownBy (((w1.setCell ⟨w.heap.size, 0, none⟩ (.int .i64 n)).setCell ⟨w.heap.size, 1, none⟩ (.string ⟨#[]⟩)).alloc (.cells #[.int .i64 n, .string ⟨#[]⟩] 51)) (some X) := grown_alloc (grown_set (grown_set HK.out.grown _ _ (Or.inr (Nat.le_refl _))) _ _ (Or.inr (Nat.le_refl _))) _
    generalize ((w1.setCell ⟨w.heap.size, 0, none⟩ (.int .i64 n)).setCell ⟨w.heap.size, 1, none⟩ (.string ⟨#[]⟩)).alloc (.cells #[.int .i64 n, .string ⟨#[]⟩] 51) = W9 at *
    exact bodyPost_ret (v := .agg #[.int .i64 n, .string ⟨#[]⟩]) (by simp [results, Tryz.results28, go_sem, q0, q1]) rfl ⟨⟨n, ByteArray.empty⟩, p1, b1, rfl, Nat.zero_le _, HK.out.on hgw hscf⟩
  · have h34 : ((n : Int) == 3) = true ∨ (((n : Int) == 3) = false ∧ ((n : Int) == 4) = true) := by
      have h : (n : Int) = 3 ∨ (n : Int) = 4 := by simpa [hasCls] using hc
      rcases h with h | h
      · exact Or.inl (by rw [h]; rfl)
      · exact Or.inr ⟨by rw [h]; rfl, by rw [h]; rfl⟩
    have HC := mkHid hc
    clear hc
    rcases h34 with b3 | ⟨b3, b4⟩
    all_goals
      go_wp2_with fail
      refine (text_s _ X s p1 b1 (HO1.out.sc.alloc _) HO1.out.le hs).mono ?_
      rintro r w2 ⟨t, p2, b2, rfl, ht, ho2⟩
      have hga : w1.grownBy (w1.alloc (.cells #[.int .i64 n, .string ⟨#[]⟩] 51)) (some X) := grown_alloc (World.grownBy.refl _ _) _
      have ho3 := ho2.from hga
      have HK := mkHid (HO1.out.two (K := fun x : Nat × Nat => if hasCls x.1 = true then (pText s x.2).bind fun y => some ((⟨x.1, y.1⟩ : KindD), y.2) else some (⟨x.1, ByteArray.empty⟩, x.2)) (y := ⟨n, t⟩) (ho3.map (fun e => by dsimp only; rw [if_pos HC.out, e]; rfl) (fun e => by dsimp only; rw [if_pos HC.out, e]; rfl)))
      have eL : w2.heap[w1.heap.size]? = some (.cells #[.int .i64 n, .string ⟨#[]⟩] 51 (0, 0)) := (ho2.grown.block w1.heap.size (by simp) (by have := HO1.out.sc.lt; simp; omega)).trans (by show (w1.heap.push _)[w1.heap.size]? = _; exact Array.getElem?_push_size)
      have eR2 : w2.heap[w.heap.size]? = some (.cells #[.int .i64 0, .string ⟨#[]⟩] 51 (0, 0)) := (ho3.grown.block w.heap.size rl (by simp; omega)).trans HER.out
      have ll := blk_ltR eL
      have hx0 := HO1.out.sc.lt
      have l0 := cell_ofR eL 0 (x := .int .i64 n) rfl
      have l1 := cell_ofR eL 1 (x := .string ⟨#[]⟩) rfl
      have g1 : w2.frozen? ⟨w1.heap.size, 1, none⟩ = false := by simp [World.frozen?, eL]
      have s0 := cell_ofR eR2 0 (x := .int .i64 0) rfl
      have s1 := cell_ofR eR2 1 (x := .string ⟨#[]⟩) rfl
      have u0 : w2.frozen? ⟨w.heap.size, 0, none⟩ = false := by simp [World.frozen?, eR2]
      have u1 : w2.frozen? ⟨w.heap.size, 1, none⟩ = false := by simp [World.frozen?, eR2]
      have rl2 := blk_ltR eR2
      have hne : w.heap.size ≠ w1.heap.size := by omega
      have hne' : w1.heap.size ≠ w.heap.size := by omega
      clear ho2 ho3 hga eL eR2
      go_wp2_with fail
      have hF : (((w2.setCell ⟨w1.heap.size, 1, none⟩ (.string t)).setCell ⟨w.heap.size, 0, none⟩ (.int .i64 n)).setCell ⟨w.heap.size, 1, none⟩ (.string t)).cell? ⟨w.heap.size, 0, none⟩ = some (.int .i64 n) ∧ (((w2.setCell ⟨w1.heap.size, 1, none⟩ (.string t)).setCell ⟨w.heap.size, 0, none⟩ (.int .i64 n)).setCell ⟨w.heap.size, 1, none⟩ (.string t)).cell? ⟨w.heap.size, 1, none⟩ = some (.string t) := by
        refine ⟨?_, ?_⟩
        · rw [World.cell?_setCell_other _ _ _ _ (by simp)]
          exact World.cell?_setCell_same _ _ _ ((World.cell?_setCell_other _ _ _ _ (by simp)).trans s0)
        · exact World.cell?_setCell_same _ _ _ ((World.cell?_setCell_other _ _ _ _ (by simp)).trans ((World.cell?_setCell_other _ _ _ _ (by simp)).trans s1))
      obtain ⟨q0, q1⟩ := hF
      have hscf : Sc (((w2.setCell ⟨w1.heap.size, 1, none⟩ (.string t)).setCell ⟨w.heap.size, 0, none⟩ (.int .i64 n)).setCell ⟨w.heap.size, 1, none⟩ (.string t)) X s p2 b2 := ((HK.out.sc.setOther _ _ (by simp; omega)).setOther _ _ (by simp; omega)).setOther _ _ (by simp; omega)
      have hgw : w.grownBy (((w2.setCell ⟨w1.heap.size, 1, none⟩ (.string t)).setCell ⟨w.heap.size, 0, none⟩ (.int .i64 n)).setCell ⟨w.heap.size, 1, none⟩ (.string t)) (some X) := grown_set (grown_set (grown_set HK.out.grown _ _ (Or.inr (by simp; omega))) _ _ (Or.inr (Nat.le_refl _))) _ _ (Or.inr (Nat.le_refl _))
      generalize ((w2.setCell ⟨w1.heap.size, 1, none⟩ (.string t)).setCell ⟨w.heap.size, 0, none⟩ (.int .i64 n)).setCell ⟨w.heap.size, 1, none⟩ (.string t) = W9 at *
      exact bodyPost_ret (v := .agg #[.int .i64 n, .string t]) (by simp [results, Tryz.results28, go_sem, q0, q1]) rfl ⟨⟨n, t⟩, p2, b2, rfl, ht, HK.out.on hgw hscf⟩
end Go.Proofs.YtaekpdcnnkmahaaGreatDoor
