/- The contracts of the reader's methods on kinds, fields and handlers. -/
import Derived.Test.YtkpklkhkhhlifaaLoc
namespace Go.Proofs.Ytkpklkhkhhlifaa
open Go.RowKit

set_option maxHeartbeats 1000000 in
theorem kind_r (w : World) (b : Nat) (s : ByteArray) (p : Nat) (h : Rd w b s p) (hp : p ≤ s.size) (hs : s.size ≤ 20000) :
    Calls Try.prog 84 #[.pointer (some ⟨b, 0, none⟩)] w fun r w' => RdOut w w' b s (pKind s p) (fun x r => r = .returned (.agg #[.int .i64 x.kind, .string x.cls])) r := by
  have hb := h.lt
  go_enter Try.func84, Try.ntmps84
  go_wp2_with fail
  have L0 : Loc w ((w.alloc (.cells #[.int .i64 0, .string ⟨#[]⟩] 51)).alloc (.cells #[.int .i64 0, .string ⟨#[]⟩] 51)) b 51 #[.int .i64 0, .string ⟨#[]⟩] #[.int .i64 0, .string ⟨#[]⟩] := Loc.start _ _
  have hr0 : Rd ((w.alloc (.cells #[.int .i64 0, .string ⟨#[]⟩] 51)).alloc (.cells #[.int .i64 0, .string ⟨#[]⟩] 51)) b s p := (h.alloc _).alloc _
  generalize (w.alloc (.cells #[.int .i64 0, .string ⟨#[]⟩] 51)).alloc (.cells #[.int .i64 0, .string ⟨#[]⟩] 51) = W0 at *
  refine (count_r _ b s p hr0 hp (by unfold maxLen; omega)).mono ?_
  rintro r w1 ⟨hg, ⟨hn, q, rfl⟩ | ⟨x1, p1, hn, rfl, hr, hp1⟩⟩
  · exact ⟨rfl, grown_trans L0.grown hg, Or.inl ⟨by simp only [pKind, hn, Option.bind_none], q, rfl⟩⟩
  have HN1 := mkHid hn
  have L0b := L0.call hg hb
  have hlt := L0b.lt
  have y0 := L0b.cell 0 (x := .int .i64 0) rfl
  have z0 := L0b.frozen 0
  clear hn hg hr0 L0
  go_wp2_with fail
  have L1 : Loc w (w1.setCell ⟨w.heap.size + 1, 0, none⟩ (.int .i64 x1)) b 51 #[.int .i64 0, .string ⟨#[]⟩] #[.int .i64 x1, .string ⟨#[]⟩] := (L0b.set 0 (.int .i64 x1))
  have hr1 := (hr.locSet hb (w.heap.size + 1) 0 (by omega) (.int .i64 x1))
  generalize (w1.setCell ⟨w.heap.size + 1, 0, none⟩ (.int .i64 x1)) = W1 at *
  clear y0 z0 L0b hr hlt
  refine (hasClass_any _ _).mono ?_
  rintro r w2 ⟨rfl, rfl⟩
  cases hc : hasCls (x1 : Int)
  · have HC := mkHid hc
    clear hc
    have hlt := L1.lt
    have y0 := L1.cell 0 (x := .int .i64 x1) rfl
    have y1 := L1.cell 1 (x := .string ⟨#[]⟩) rfl
    have u0 := L1.cellR 0 (x := .int .i64 0) rfl
    have z0 := L1.frozenR 0
    have u1 := L1.cellR 1 (x := .string ⟨#[]⟩) rfl
    have z1 := L1.frozenR 1
    have HG : Hid (w.grownBy ((w2.setCell ⟨w.heap.size, 0, none⟩ (.int .i64 x1)).setCell ⟨w.heap.size, 1, none⟩ (.string ⟨#[]⟩)) (some b)) := (grown_set (grown_set L1.grown ⟨w.heap.size, 0, none⟩ (.int .i64 x1) (Or.inr (Nat.le_refl _))) ⟨w.heap.size, 1, none⟩ (.string ⟨#[]⟩) (Or.inr (Nat.le_refl _)))
    have HR : Hid (Rd ((w2.setCell ⟨w.heap.size, 0, none⟩ (.int .i64 x1)).setCell ⟨w.heap.size, 1, none⟩ (.string ⟨#[]⟩)) b s p1) := ((hr1.locSet hb w.heap.size 0 (Nat.le_refl _) (.int .i64 x1)).locSet hb w.heap.size 1 (Nat.le_refl _) (.string ⟨#[]⟩))
    have HF : Hid (((w2.setCell ⟨w.heap.size, 0, none⟩ (.int .i64 x1)).setCell ⟨w.heap.size, 1, none⟩ (.string ⟨#[]⟩)).heap[w.heap.size]? = some (.cells #[.int .i64 x1, .string ⟨#[]⟩] 51 (0, 0))) := (heap_set_own (heap_set_own L1.res (j := 0) (.int .i64 x1)) (j := 1) (.string ⟨#[]⟩))
    have HX := mkHid (show pKind s p = some (⟨x1, ByteArray.empty⟩, p1) by rw [pKind, HN1.out]; simp only [Option.bind_some]; rw [if_neg (by rw [HC.out]; decide)])
    clear L1 hr1
    go_wp2_with fail
    generalize ((w2.setCell ⟨w.heap.size, 0, none⟩ (.int .i64 x1)).setCell ⟨w.heap.size, 1, none⟩ (.string ⟨#[]⟩)) = W9 at *
    have q0 : W9.cell? ⟨w.heap.size, 0, none⟩ = some (.int .i64 x1) := by simp [World.cell?, HF.out]
    have q1 : W9.cell? ⟨w.heap.size, 1, none⟩ = some (.string ⟨#[]⟩) := by simp [World.cell?, HF.out]
    exact bodyPost_ret (v := .agg #[.int .i64 x1, .string ⟨#[]⟩]) (by simp [results, Try.results84, go_sem, q0, q1]) rfl ⟨HG.out, Or.inr ⟨⟨x1, ByteArray.empty⟩, p1, HX.out, rfl, HR.out, hp1⟩⟩
  · have HC := mkHid hc
    clear hc
    have hlt := L1.lt
    go_wp2_with fail
    clear hlt
    refine (text_r _ b s p1 hr1 hp1 hs).mono ?_
    rintro r w1 ⟨hg, ⟨hn, q, rfl⟩ | ⟨x2, p2, hn, rfl, hr, hp2⟩⟩
    · exact ⟨rfl, grown_trans L1.grown hg, Or.inl ⟨by rw [pKind, HN1.out]; simp only [Option.bind_some]; rw [if_pos HC.out, hn]; rfl, q, rfl⟩⟩
    have HN2 := mkHid hn
    have L1b := L1.call hg hb
    clear hn hg hr1 L1
    have hlt := L1b.lt
    have y0 := L1b.cell 0 (x := .int .i64 x1) rfl
    have y1 := L1b.cell 1 (x := .string ⟨#[]⟩) rfl
    have f1 := L1b.frozen 1
    have u0 := L1b.cellR 0 (x := .int .i64 0) rfl
    have z0 := L1b.frozenR 0
    have u1 := L1b.cellR 1 (x := .string ⟨#[]⟩) rfl
    have z1 := L1b.frozenR 1
    have HG : Hid (w.grownBy (((w1.setCell ⟨w.heap.size + 1, 1, none⟩ (.string x2)).setCell ⟨w.heap.size, 0, none⟩ (.int .i64 x1)).setCell ⟨w.heap.size, 1, none⟩ (.string x2)) (some b)) := (grown_set (grown_set (L1b.set 1 (.string x2)).grown ⟨w.heap.size, 0, none⟩ (.int .i64 x1) (Or.inr (Nat.le_refl _))) ⟨w.heap.size, 1, none⟩ (.string x2) (Or.inr (Nat.le_refl _)))
    have HR : Hid (Rd (((w1.setCell ⟨w.heap.size + 1, 1, none⟩ (.string x2)).setCell ⟨w.heap.size, 0, none⟩ (.int .i64 x1)).setCell ⟨w.heap.size, 1, none⟩ (.string x2)) b s p2) := (((hr.locSet hb (w.heap.size + 1) 1 (by omega) (.string x2)).locSet hb w.heap.size 0 (Nat.le_refl _) (.int .i64 x1)).locSet hb w.heap.size 1 (Nat.le_refl _) (.string x2))
    have HF : Hid ((((w1.setCell ⟨w.heap.size + 1, 1, none⟩ (.string x2)).setCell ⟨w.heap.size, 0, none⟩ (.int .i64 x1)).setCell ⟨w.heap.size, 1, none⟩ (.string x2)).heap[w.heap.size]? = some (.cells #[.int .i64 x1, .string x2] 51 (0, 0))) := (heap_set_own (heap_set_own (L1b.set 1 (.string x2)).res (j := 0) (.int .i64 x1)) (j := 1) (.string x2))
    have HX := mkHid (show pKind s p = some (⟨x1, x2⟩, p2) by rw [pKind, HN1.out]; simp only [Option.bind_some]; rw [if_pos HC.out, HN2.out]; rfl)
    clear L1b hr
    go_wp2_with fail
    generalize (((w1.setCell ⟨w.heap.size + 1, 1, none⟩ (.string x2)).setCell ⟨w.heap.size, 0, none⟩ (.int .i64 x1)).setCell ⟨w.heap.size, 1, none⟩ (.string x2)) = W9 at *
    have q0 : W9.cell? ⟨w.heap.size, 0, none⟩ = some (.int .i64 x1) := by simp [World.cell?, HF.out]
    have q1 : W9.cell? ⟨w.heap.size, 1, none⟩ = some (.string x2) := by simp [World.cell?, HF.out]
    exact bodyPost_ret (v := .agg #[.int .i64 x1, .string x2]) (by simp [results, Try.results84, go_sem, q0, q1]) rfl ⟨HG.out, Or.inr ⟨⟨x1, x2⟩, p2, HX.out, rfl, HR.out, hp2⟩⟩

set_option maxHeartbeats 2000000 in
theorem handler_r (w : World) (b : Nat) (s : ByteArray) (p : Nat) (h : Rd w b s p) (hp : p ≤ s.size) (hs : s.size ≤ 20000) :
    Calls Try.prog 89 #[.pointer (some ⟨b, 0, none⟩)] w fun r w' => RdOut w w' b s (pHand s p) (fun x r => r = .returned (.agg #[.int .i64 x.frm, .int .i64 x.upto, .int .i64 x.loc, .string x.cls])) r := by
  have hb := h.lt
  go_enter Try.func89, Try.ntmps89
  go_wp2_with fail
  have L0 : Loc w ((w.alloc (.cells #[.int .i64 0, .int .i64 0, .int .i64 0, .string ⟨#[]⟩] 64)).alloc (.cells #[.int .i64 0, .int .i64 0, .int .i64 0, .string ⟨#[]⟩] 64)) b 64 #[.int .i64 0, .int .i64 0, .int .i64 0, .string ⟨#[]⟩] #[.int .i64 0, .int .i64 0, .int .i64 0, .string ⟨#[]⟩] := Loc.start _ _
  have hr0 : Rd ((w.alloc (.cells #[.int .i64 0, .int .i64 0, .int .i64 0, .string ⟨#[]⟩] 64)).alloc (.cells #[.int .i64 0, .int .i64 0, .int .i64 0, .string ⟨#[]⟩] 64)) b s p := (h.alloc _).alloc _
  generalize (w.alloc (.cells #[.int .i64 0, .int .i64 0, .int .i64 0, .string ⟨#[]⟩] 64)).alloc (.cells #[.int .i64 0, .int .i64 0, .int .i64 0, .string ⟨#[]⟩] 64) = W0 at *
  refine (number_r _ b s p hr0 hp (by unfold maxLen; omega)).mono ?_
  rintro r w1 ⟨hg, ⟨hn, q, rfl⟩ | ⟨x1, p1, hn, rfl, hr, hp1⟩⟩
  · exact ⟨rfl, grown_trans L0.grown hg, Or.inl ⟨by simp only [pHand, hn, Option.bind_none], q, rfl⟩⟩
  have HN1 := mkHid hn
  have L0b := L0.call hg hb
  have hlt := L0b.lt
  have y0 := L0b.cell 0 (x := .int .i64 0) rfl
  have z0 := L0b.frozen 0
  clear hn hg hr0 L0
  go_wp2_with fail
  have L1 : Loc w (w1.setCell ⟨w.heap.size + 1, 0, none⟩ (.int .i64 x1)) b 64 #[.int .i64 0, .int .i64 0, .int .i64 0, .string ⟨#[]⟩] #[.int .i64 x1, .int .i64 0, .int .i64 0, .string ⟨#[]⟩] := (L0b.set 0 (.int .i64 x1))
  have hr1 := (hr.locSet hb (w.heap.size + 1) 0 (by omega) (.int .i64 x1))
  generalize (w1.setCell ⟨w.heap.size + 1, 0, none⟩ (.int .i64 x1)) = W1 at *
  clear y0 z0 L0b hr hlt
  refine (number_r _ b s p1 hr1 hp1 (by unfold maxLen; omega)).mono ?_
  rintro r w1 ⟨hg, ⟨hn, q, rfl⟩ | ⟨x2, p2, hn, rfl, hr, hp2⟩⟩
  · exact ⟨rfl, grown_trans L1.grown hg, Or.inl ⟨by simp only [pHand, HN1.out, hn, Option.bind_some, Option.bind_none], q, rfl⟩⟩
  have HN2 := mkHid hn
  have L1b := L1.call hg hb
  have hlt := L1b.lt
  have y1 := L1b.cell 1 (x := .int .i64 0) rfl
  have z1 := L1b.frozen 1
  clear hn hg hr1 L1
  go_wp2_with fail
  have L2 : Loc w (w1.setCell ⟨w.heap.size + 1, 1, none⟩ (.int .i64 x2)) b 64 #[.int .i64 0, .int .i64 0, .int .i64 0, .string ⟨#[]⟩] #[.int .i64 x1, .int .i64 x2, .int .i64 0, .string ⟨#[]⟩] := (L1b.set 1 (.int .i64 x2))
  have hr2 := (hr.locSet hb (w.heap.size + 1) 1 (by omega) (.int .i64 x2))
  generalize (w1.setCell ⟨w.heap.size + 1, 1, none⟩ (.int .i64 x2)) = W2 at *
  clear y1 z1 L1b hr hlt
  refine (number_r _ b s p2 hr2 hp2 (by unfold maxLen; omega)).mono ?_
  rintro r w1 ⟨hg, ⟨hn, q, rfl⟩ | ⟨x3, p3, hn, rfl, hr, hp3⟩⟩
  · exact ⟨rfl, grown_trans L2.grown hg, Or.inl ⟨by simp only [pHand, HN1.out, HN2.out, hn, Option.bind_some, Option.bind_none], q, rfl⟩⟩
  have HN3 := mkHid hn
  have L2b := L2.call hg hb
  have hlt := L2b.lt
  have y2 := L2b.cell 2 (x := .int .i64 0) rfl
  have z2 := L2b.frozen 2
  clear hn hg hr2 L2
  go_wp2_with fail
  have L3 : Loc w (w1.setCell ⟨w.heap.size + 1, 2, none⟩ (.int .i64 x3)) b 64 #[.int .i64 0, .int .i64 0, .int .i64 0, .string ⟨#[]⟩] #[.int .i64 x1, .int .i64 x2, .int .i64 x3, .string ⟨#[]⟩] := (L2b.set 2 (.int .i64 x3))
  have hr3 := (hr.locSet hb (w.heap.size + 1) 2 (by omega) (.int .i64 x3))
  generalize (w1.setCell ⟨w.heap.size + 1, 2, none⟩ (.int .i64 x3)) = W3 at *
  clear y2 z2 L2b hr hlt
  refine (text_r _ b s p3 hr3 hp3 hs).mono ?_
  rintro r w1 ⟨hg, ⟨hn, q, rfl⟩ | ⟨x4, p4, hn, rfl, hr, hp4⟩⟩
  · exact ⟨rfl, grown_trans L3.grown hg, Or.inl ⟨by simp only [pHand, HN1.out, HN2.out, HN3.out, hn, Option.bind_some, Option.bind_none], q, rfl⟩⟩
  have HN4 := mkHid hn
  have L3b := L3.call hg hb
  clear hn hg hr3 L3
  have hlt := L3b.lt
  have y0 := L3b.cell 0 (x := .int .i64 x1) rfl
  have y1 := L3b.cell 1 (x := .int .i64 x2) rfl
  have y2 := L3b.cell 2 (x := .int .i64 x3) rfl
  have y3 := L3b.cell 3 (x := .string ⟨#[]⟩) rfl
  have f3 := L3b.frozen 3
  have u0 := L3b.cellR 0 (x := .int .i64 0) rfl
  have z0 := L3b.frozenR 0
  have u1 := L3b.cellR 1 (x := .int .i64 0) rfl
  have z1 := L3b.frozenR 1
  have u2 := L3b.cellR 2 (x := .int .i64 0) rfl
  have z2 := L3b.frozenR 2
  have u3 := L3b.cellR 3 (x := .string ⟨#[]⟩) rfl
  have z3 := L3b.frozenR 3
  have HG : Hid (w.grownBy (((((w1.setCell ⟨w.heap.size + 1, 3, none⟩ (.string x4)).setCell ⟨w.heap.size, 0, none⟩ (.int .i64 x1)).setCell ⟨w.heap.size, 1, none⟩ (.int .i64 x2)).setCell ⟨w.heap.size, 2, none⟩ (.int .i64 x3)).setCell ⟨w.heap.size, 3, none⟩ (.string x4)) (some b)) := (grown_set (grown_set (grown_set (grown_set (L3b.set 3 (.string x4)).grown ⟨w.heap.size, 0, none⟩ (.int .i64 x1) (Or.inr (Nat.le_refl _))) ⟨w.heap.size, 1, none⟩ (.int .i64 x2) (Or.inr (Nat.le_refl _))) ⟨w.heap.size, 2, none⟩ (.int .i64 x3) (Or.inr (Nat.le_refl _))) ⟨w.heap.size, 3, none⟩ (.string x4) (Or.inr (Nat.le_refl _)))
  have HR : Hid (Rd (((((w1.setCell ⟨w.heap.size + 1, 3, none⟩ (.string x4)).setCell ⟨w.heap.size, 0, none⟩ (.int .i64 x1)).setCell ⟨w.heap.size, 1, none⟩ (.int .i64 x2)).setCell ⟨w.heap.size, 2, none⟩ (.int .i64 x3)).setCell ⟨w.heap.size, 3, none⟩ (.string x4)) b s p4) := (((((hr.locSet hb (w.heap.size + 1) 3 (by omega) (.string x4)).locSet hb w.heap.size 0 (Nat.le_refl _) (.int .i64 x1)).locSet hb w.heap.size 1 (Nat.le_refl _) (.int .i64 x2)).locSet hb w.heap.size 2 (Nat.le_refl _) (.int .i64 x3)).locSet hb w.heap.size 3 (Nat.le_refl _) (.string x4))
  have HF : Hid ((((((w1.setCell ⟨w.heap.size + 1, 3, none⟩ (.string x4)).setCell ⟨w.heap.size, 0, none⟩ (.int .i64 x1)).setCell ⟨w.heap.size, 1, none⟩ (.int .i64 x2)).setCell ⟨w.heap.size, 2, none⟩ (.int .i64 x3)).setCell ⟨w.heap.size, 3, none⟩ (.string x4)).heap[w.heap.size]? = some (.cells #[.int .i64 x1, .int .i64 x2, .int .i64 x3, .string x4] 64 (0, 0))) := (heap_set_own (heap_set_own (heap_set_own (heap_set_own (L3b.set 3 (.string x4)).res (j := 0) (.int .i64 x1)) (j := 1) (.int .i64 x2)) (j := 2) (.int .i64 x3)) (j := 3) (.string x4))
  have HX := mkHid (show pHand s p = some (⟨x1, x2, x3, x4⟩, p4) by simp only [pHand, HN1.out, HN2.out, HN3.out, HN4.out, Option.bind_some])
  clear L3b hr
  go_wp2_with fail
  generalize (((((w1.setCell ⟨w.heap.size + 1, 3, none⟩ (.string x4)).setCell ⟨w.heap.size, 0, none⟩ (.int .i64 x1)).setCell ⟨w.heap.size, 1, none⟩ (.int .i64 x2)).setCell ⟨w.heap.size, 2, none⟩ (.int .i64 x3)).setCell ⟨w.heap.size, 3, none⟩ (.string x4)) = W9 at *
  have q0 : W9.cell? ⟨w.heap.size, 0, none⟩ = some (.int .i64 x1) := by simp [World.cell?, HF.out]
  have q1 : W9.cell? ⟨w.heap.size, 1, none⟩ = some (.int .i64 x2) := by simp [World.cell?, HF.out]
  have q2 : W9.cell? ⟨w.heap.size, 2, none⟩ = some (.int .i64 x3) := by simp [World.cell?, HF.out]
  have q3 : W9.cell? ⟨w.heap.size, 3, none⟩ = some (.string x4) := by simp [World.cell?, HF.out]
  exact bodyPost_ret (v := .agg #[.int .i64 x1, .int .i64 x2, .int .i64 x3, .string x4]) (by simp [results, Try.results89, go_sem, q0, q1, q2, q3]) rfl ⟨HG.out, Or.inr ⟨⟨x1, x2, x3, x4⟩, p4, HX.out, rfl, HR.out, hp4⟩⟩

set_option maxHeartbeats 2000000 in
theorem field_r (w : World) (b : Nat) (s : ByteArray) (p : Nat) (h : Rd w b s p) (hp : p ≤ s.size) (hs : s.size ≤ 20000) :
    Calls Try.prog 72 #[.pointer (some ⟨b, 0, none⟩)] w fun r w' => RdOut w w' b s (pField s p) (fun x r => r = .returned (.agg #[.string x.name, .int .i64 x.kind.kind, .string x.kind.cls])) r := by
  have hb := h.lt
  go_enter Try.func72, Try.ntmps72
  go_wp2_with fail
  have L0 : Loc w ((w.alloc (.cells #[.string ⟨#[]⟩, .int .i64 0, .string ⟨#[]⟩] 53)).alloc (.cells #[.string ⟨#[]⟩, .int .i64 0, .string ⟨#[]⟩] 53)) b 53 #[.string ⟨#[]⟩, .int .i64 0, .string ⟨#[]⟩] #[.string ⟨#[]⟩, .int .i64 0, .string ⟨#[]⟩] := Loc.start _ _
  have hr0 : Rd ((w.alloc (.cells #[.string ⟨#[]⟩, .int .i64 0, .string ⟨#[]⟩] 53)).alloc (.cells #[.string ⟨#[]⟩, .int .i64 0, .string ⟨#[]⟩] 53)) b s p := (h.alloc _).alloc _
  generalize (w.alloc (.cells #[.string ⟨#[]⟩, .int .i64 0, .string ⟨#[]⟩] 53)).alloc (.cells #[.string ⟨#[]⟩, .int .i64 0, .string ⟨#[]⟩] 53) = W0 at *
  refine (text_r _ b s p hr0 hp hs).mono ?_
  rintro r w1 ⟨hg, ⟨hn, q, rfl⟩ | ⟨x1, p1, hn, rfl, hr, hp1⟩⟩
  · exact ⟨rfl, grown_trans L0.grown hg, Or.inl ⟨by simp only [pField, hn, Option.bind_none], q, rfl⟩⟩
  have HN1 := mkHid hn
  have L0b := L0.call hg hb
  have hlt := L0b.lt
  have y0 := L0b.cell 0 (x := .string ⟨#[]⟩) rfl
  have z0 := L0b.frozen 0
  clear hn hg hr0 L0
  go_wp2_with fail
  have L1 : Loc w (w1.setCell ⟨w.heap.size + 1, 0, none⟩ (.string x1)) b 53 #[.string ⟨#[]⟩, .int .i64 0, .string ⟨#[]⟩] #[.string x1, .int .i64 0, .string ⟨#[]⟩] := (L0b.set 0 (.string x1))
  have hr1 := (hr.locSet hb (w.heap.size + 1) 0 (by omega) (.string x1))
  generalize (w1.setCell ⟨w.heap.size + 1, 0, none⟩ (.string x1)) = W1 at *
  clear y0 z0 L0b hr hlt
  refine (kind_r _ b s p1 hr1 hp1 hs).mono ?_
  rintro r w1 ⟨hg, ⟨hn, q, rfl⟩ | ⟨x2, p2, hn, rfl, hr, hp2⟩⟩
  · exact ⟨rfl, grown_trans L1.grown hg, Or.inl ⟨by simp only [pField, HN1.out, hn, Option.bind_some, Option.bind_none], q, rfl⟩⟩
  have HN2 := mkHid hn
  have L1b := L1.call hg hb
  clear hn hg hr1 L1
  have hlt := L1b.lt
  have y0 := L1b.cell 0 (x := .string x1) rfl
  have y1 := L1b.cell 1 (x := .int .i64 0) rfl
  have y2 := L1b.cell 2 (x := .string ⟨#[]⟩) rfl
  have f1 := L1b.frozen 1
  have f2 := L1b.frozen 2
  have u0 := L1b.cellR 0 (x := .string ⟨#[]⟩) rfl
  have z0 := L1b.frozenR 0
  have u1 := L1b.cellR 1 (x := .int .i64 0) rfl
  have z1 := L1b.frozenR 1
  have u2 := L1b.cellR 2 (x := .string ⟨#[]⟩) rfl
  have z2 := L1b.frozenR 2
  have HG : Hid (w.grownBy (((((w1.setCell ⟨w.heap.size + 1, 1, none⟩ (.int .i64 x2.kind)).setCell ⟨w.heap.size + 1, 2, none⟩ (.string x2.cls)).setCell ⟨w.heap.size, 0, none⟩ (.string x1)).setCell ⟨w.heap.size, 1, none⟩ (.int .i64 x2.kind)).setCell ⟨w.heap.size, 2, none⟩ (.string x2.cls)) (some b)) := (grown_set (grown_set (grown_set ((L1b.set 1 (.int .i64 x2.kind)).set 2 (.string x2.cls)).grown ⟨w.heap.size, 0, none⟩ (.string x1) (Or.inr (Nat.le_refl _))) ⟨w.heap.size, 1, none⟩ (.int .i64 x2.kind) (Or.inr (Nat.le_refl _))) ⟨w.heap.size, 2, none⟩ (.string x2.cls) (Or.inr (Nat.le_refl _)))
  have HR : Hid (Rd (((((w1.setCell ⟨w.heap.size + 1, 1, none⟩ (.int .i64 x2.kind)).setCell ⟨w.heap.size + 1, 2, none⟩ (.string x2.cls)).setCell ⟨w.heap.size, 0, none⟩ (.string x1)).setCell ⟨w.heap.size, 1, none⟩ (.int .i64 x2.kind)).setCell ⟨w.heap.size, 2, none⟩ (.string x2.cls)) b s p2) := (((((hr.locSet hb (w.heap.size + 1) 1 (by omega) (.int .i64 x2.kind)).locSet hb (w.heap.size + 1) 2 (by omega) (.string x2.cls)).locSet hb w.heap.size 0 (Nat.le_refl _) (.string x1)).locSet hb w.heap.size 1 (Nat.le_refl _) (.int .i64 x2.kind)).locSet hb w.heap.size 2 (Nat.le_refl _) (.string x2.cls))
  have HF : Hid ((((((w1.setCell ⟨w.heap.size + 1, 1, none⟩ (.int .i64 x2.kind)).setCell ⟨w.heap.size + 1, 2, none⟩ (.string x2.cls)).setCell ⟨w.heap.size, 0, none⟩ (.string x1)).setCell ⟨w.heap.size, 1, none⟩ (.int .i64 x2.kind)).setCell ⟨w.heap.size, 2, none⟩ (.string x2.cls)).heap[w.heap.size]? = some (.cells #[.string x1, .int .i64 x2.kind, .string x2.cls] 53 (0, 0))) := (heap_set_own (heap_set_own (heap_set_own ((L1b.set 1 (.int .i64 x2.kind)).set 2 (.string x2.cls)).res (j := 0) (.string x1)) (j := 1) (.int .i64 x2.kind)) (j := 2) (.string x2.cls))
  have HX := mkHid (show pField s p = some (⟨x1, x2⟩, p2) by simp only [pField, HN1.out, HN2.out, Option.bind_some])
  clear L1b hr
  go_wp2_with fail
  generalize (((((w1.setCell ⟨w.heap.size + 1, 1, none⟩ (.int .i64 x2.kind)).setCell ⟨w.heap.size + 1, 2, none⟩ (.string x2.cls)).setCell ⟨w.heap.size, 0, none⟩ (.string x1)).setCell ⟨w.heap.size, 1, none⟩ (.int .i64 x2.kind)).setCell ⟨w.heap.size, 2, none⟩ (.string x2.cls)) = W9 at *
  have q0 : W9.cell? ⟨w.heap.size, 0, none⟩ = some (.string x1) := by simp [World.cell?, HF.out]
  have q1 : W9.cell? ⟨w.heap.size, 1, none⟩ = some (.int .i64 x2.kind) := by simp [World.cell?, HF.out]
  have q2 : W9.cell? ⟨w.heap.size, 2, none⟩ = some (.string x2.cls) := by simp [World.cell?, HF.out]
  exact bodyPost_ret (v := .agg #[.string x1, .int .i64 x2.kind, .string x2.cls]) (by simp [results, Try.results72, go_sem, q0, q1, q2]) rfl ⟨HG.out, Or.inr ⟨⟨x1, x2⟩, p2, HX.out, rfl, HR.out, hp2⟩⟩

theorem flag_r (w : World) (b : Nat) (s : ByteArray) (p : Nat) (h : Rd w b s p) (hp : p ≤ s.size) (hs : s.size ≤ 20000) :
    Calls Try.prog 85 #[.pointer (some ⟨b, 0, none⟩)] w fun r w' => RdOut w w' b s (pFlag s p) (fun x r => r = .returned (.bool x)) r := by
  go_enter Try.func85, Try.ntmps85
  go_wp2_with fail
  refine (count_r _ b s p h hp (by unfold maxLen; omega)).mono ?_
  rintro r w1 ⟨hg, ⟨hn, q, rfl⟩ | ⟨n, p1, hn, rfl, hr, hp1⟩⟩
  · exact ⟨rfl, hg, Or.inl ⟨by rw [pFlag, hn]; rfl, q, rfl⟩⟩
  by_cases h1 : n ≤ 1
  · have h1' : (n : Int) ≤ 1 := by omega
    have HX := mkHid (show pFlag s p = some (decide (n = 1), p1) by rw [pFlag, hn]; simp only [Option.bind_some]; rw [if_pos h1])
    have HG := mkHid hg
    have HR := mkHid hr
    clear hn h1 hg hr
    go_wp2_with fail
    refine (demand_any _ _ _).mono ?_
    rintro r w2 ⟨rfl, ⟨hb, rfl⟩ | ⟨hb, rfl⟩⟩
    · exact absurd hb (by simp)
    clear hb
    go_wp2
    go_ret
    refine ⟨HG.out, Or.inr ⟨_, p1, HX.out, ?_, HR.out, hp1⟩⟩
    show Ending.returned (.bool ((n : Int) == 1)) = .returned (.bool (decide (n = 1)))
    congr 2
    rw [Bool.eq_iff_iff]
    simp
    omega
  · have h1' : ¬ (n : Int) ≤ 1 := by omega
    have HX := mkHid (show pFlag s p = none by rw [pFlag, hn]; simp only [Option.bind_some]; rw [if_neg h1])
    have HG := mkHid hg
    clear hn h1 hg hr
    go_wp2_with fail
    refine (demand_any _ _ _).mono ?_
    rintro r w2 ⟨rfl, ⟨hb, rfl⟩ | ⟨hb, rfl⟩⟩
    · exact ⟨rfl, HG.out, Or.inl ⟨HX.out, 0, rfl⟩⟩
    · exact absurd hb (by first | (simp; done) | (simp; omega))
end Go.Proofs.Ytkpklkhkhhlifaa
