/- The contracts of the reader's methods on numbers and texts. -/
import Derived.Test.YtaekpdcnnkmahaaGreatDoorRdLeaf
import Derived.Test.YtaekpdcnnkmahaaGreatDoorLSet
namespace Go.Proofs.YtaekpdcnnkmahaaGreatDoor
set_option maxRecDepth 100000
open Go.RowKit

/-- The numbers of what strings.Clone calls, in this program. -/
def renC : Shelf.Ren := ⟨fun k => if k = 25 then 214 else k, fun k => if k = 37 then 111 else if k = 47 then 235 else k, fun k => k⟩
theorem laysC : LaysPu.n25 Tryz.prog renC where
  mixed := by kernel_rfl
  f25 := by kernel_rfl
  t0 := by kernel_rfl
  a0 := fun _ => by kernel_rfl
  z0 := fun _ => by kernel_rfl
  v0 := fun _ => by kernel_rfl
  i0 := by kernel_rfl
  t3 := by kernel_rfl
  a3 := fun _ => by kernel_rfl
  z3 := fun _ => by kernel_rfl
  v3 := fun _ => by kernel_rfl
  i3 := by kernel_rfl
  t4 := by kernel_rfl
  a4 := fun _ => by kernel_rfl
  z4 := fun _ => by kernel_rfl
  v4 := fun _ => by kernel_rfl
  i4 := by kernel_rfl
  t5 := by kernel_rfl
  a5 := fun _ => by kernel_rfl
  z5 := fun _ => by kernel_rfl
  v5 := fun _ => by kernel_rfl
  i5 := by kernel_rfl
  t9 := by kernel_rfl
  a9 := fun _ => by kernel_rfl
  z9 := fun _ => by kernel_rfl
  v9 := fun _ => by kernel_rfl
  i9 := by kernel_rfl
  t37 := by kernel_rfl
  a37 := fun _ => by kernel_rfl
  z37 := fun _ => by kernel_rfl
  v37 := fun _ => by kernel_rfl
  i37 := by kernel_rfl
  t47 := by kernel_rfl
  a47 := fun _ => by kernel_rfl
  z47 := fun _ => by kernel_rfl
  v47 := fun _ => by kernel_rfl
  i47 := by kernel_rfl

theorem cloneIn_any (s : ByteArray) (w : World) (hlim : s.size ≤ 281474976710656) : Calls Tryz.prog 214 #[.string s] w fun e w' => e = .returned (.string s) ∧ Below w.heap.size w w' := AnyPu.stringslite_Clone laysC s w hlim
theorem clone_any (s : ByteArray) (w : World) (hlim : s.size ≤ 281474976710656) : Calls Tryz.prog 192 #[.string s] w fun e w' => e = .returned (.string s) ∧ Below w.heap.size w w' := by
  go_enter Tryz.func192, Tryz.ntmps192
  go_wp2_with fail
  refine (cloneIn_any s _ hlim).mono ?_
  rintro r w1 ⟨rfl, hB⟩
  go_wp2
  go_ret
  exact ⟨rfl, hB⟩

/-- What a reading ends with: it gives up, or hands back what was read. -/
def RdOut {α : Type} (w w' : World) (b : Nat) (s : ByteArray) (res : Option (α × Nat)) (E : α → Ending → Prop) (r : Ending) : Prop :=
  w.grownBy w' (some b) ∧ ((res = none ∧ ∃ q, r = .panicked [wrongV 1 q]) ∨ ∃ x p', res = some (x, p') ∧ E x r ∧ Rd w' b s p' ∧ p' ≤ s.size)
theorem grown_below {w w1 w2 : World} {b : Nat} (h : w.grownBy w1 (some b)) (k : Below w1.heap.size w1 w2) : w.grownBy w2 (some b) :=
  ⟨k.os.trans h.os, k.tape.trans h.tape, k.output.trans h.output, Nat.le_trans h.size k.size, fun i hi hne => (k.block i (Nat.lt_of_lt_of_le hi h.size)).trans (h.block i hi hne)⟩
theorem Rd.below {w w' : World} {b : Nat} {s : ByteArray} {p : Nat} (h : Rd w b s p) (k : Below w.heap.size w w') : Rd w' b s p :=
  ⟨(k.cell (p := ⟨b, 0, none⟩) h.lt).trans h.text, (k.cell (p := ⟨b, 1, none⟩) h.lt).trans h.at_, (k.frozen (p := ⟨b, 1, none⟩) h.lt).trans h.fz⟩

theorem count_r (w : World) (b : Nat) (s : ByteArray) (p : Nat) (h : Rd w b s p) (hp : p ≤ s.size) (hs : s.size ≤ maxLen) :
    Calls Tryz.prog 104 #[.pointer (some ⟨b, 0, none⟩)] w fun r w' => RdOut w w' b s (pCount s p) (fun n r => r = .returned (.int .i64 (n : Nat))) r := by
  go_enter Tryz.func104, Tryz.ntmps104
  go_wp2_with fail
  refine (take_r _ b s p 1 h hp hs (by omega)).mono ?_
  rintro r w' ⟨hg, ⟨hn, rfl⟩ | ⟨hn, rfl, hr⟩⟩
  · exact ⟨rfl, hg, Or.inl ⟨by rw [pCount, if_neg (by omega)], _, rfl⟩⟩
  have hz : (s.extract p (p + 1)).size = 1 := by simp; omega
  have HN := mkHid hn
  have HG := mkHid hg
  have HR := mkHid hr
  clear hn hg hr
  go_wp2
  go_ret
  refine ⟨HG.out, Or.inr ⟨bt s p, p + 1, by rw [pCount, if_pos (by have := HN.out; omega)], ?_, HR.out, HN.out⟩⟩
  have e := ext_get s p 1 0 (by omega) (by have := HN.out; omega)
  show Ending.returned (.int .i64 (wrap64 ((s.extract p (p + 1))[0].toNat : Int))) = _
  rw [e, byte_w, bt_eq s p (by have := HN.out; omega)]
  rfl

theorem number_r (w : World) (b : Nat) (s : ByteArray) (p : Nat) (h : Rd w b s p) (hp : p ≤ s.size) (hs : s.size ≤ maxLen) :
    Calls Tryz.prog 113 #[.pointer (some ⟨b, 0, none⟩)] w fun r w' => RdOut w w' b s (pNumber s p) (fun n r => r = .returned (.int .i64 (n : Nat))) r := by
  go_enter Tryz.func113, Tryz.ntmps113
  go_wp2_with fail
  refine (take_r _ b s p 2 h hp hs (by omega)).mono ?_
  rintro r w' ⟨hg, ⟨hn, rfl⟩ | ⟨hn, rfl, hr⟩⟩
  · exact ⟨rfl, hg, Or.inl ⟨by rw [pNumber, if_neg (by omega)], _, rfl⟩⟩
  have hz : (s.extract p (p + 2)).size = 2 := by simp; omega
  have HN := mkHid hn
  have HG := mkHid hg
  have HR := mkHid hr
  clear hn hg hr
  go_wp2
  go_quiet (fail)
  go_wp2
  go_ret
  refine ⟨grown_drewN HG.out _, Or.inr ⟨256 * bt s p + bt s (p + 1), p + 2, by rw [pNumber, if_pos HN.out], ?_, HR.out.drewN _, HN.out⟩⟩
  have h2 := HN.out
  have e0 := ext_get s p 2 0 (by omega) (by omega)
  have e1 := ext_get s p 2 1 (by omega) (by omega)
  show Ending.returned (.int .i64 (bits BinOp.or IntKind.i64 (wrap64 (wrap64 ((s.extract p (p + 2))[0].toNat : Int) * 256)) (wrap64 ((s.extract p (p + 2))[1].toNat : Int)))) = _
  rw [e0, e1, byte_w, byte_w, byte_w8, or_i64 _ _ (UInt8.toNat_lt _) (UInt8.toNat_lt _), bt_eq s p (by omega), bt_eq s (p + 1) (by omega)]
  simp

theorem bytes_r (w : World) (b : Nat) (s : ByteArray) (p n : Nat) (h : Rd w b s p) (hp : p ≤ s.size) (hs : s.size ≤ 20000) (hn : n ≤ 100000) :
    Calls Tryz.prog 153 #[.pointer (some ⟨b, 0, none⟩), .int .i64 n] w fun r w' => RdOut w w' b s (pBytes s n p) (fun t r => r = .returned (.string t)) r := by
  go_enter Tryz.func153, Tryz.ntmps153
  go_wp2_with fail
  refine (take_r _ b s p n h hp (by unfold maxLen; omega) hn).mono ?_
  rintro r w' ⟨hg, ⟨hn, rfl⟩ | ⟨hn, rfl, hr⟩⟩
  · exact ⟨rfl, hg, Or.inl ⟨by rw [pBytes, if_neg hn], _, rfl⟩⟩
  go_wp2_with fail
  refine (clone_any _ _ (by simp; omega)).mono ?_
  rintro r w2 ⟨rfl, hB⟩
  have HG := mkHid (grown_below hg hB)
  have HR := mkHid (hr.below hB)
  clear hg hr hB
  go_wp2
  go_ret
  exact ⟨HG.out, Or.inr ⟨_, p + n, by rw [pBytes, if_pos hn], rfl, HR.out, hn⟩⟩

theorem text_r (w : World) (b : Nat) (s : ByteArray) (p : Nat) (h : Rd w b s p) (hp : p ≤ s.size) (hs : s.size ≤ 20000) :
    Calls Tryz.prog 105 #[.pointer (some ⟨b, 0, none⟩)] w fun r w' => RdOut w w' b s (pText s p) (fun t r => r = .returned (.string t)) r := by
  go_enter Tryz.func105, Tryz.ntmps105
  go_wp2_with fail
  refine (count_r _ b s p h hp (by unfold maxLen; omega)).mono ?_
  rintro r w1 ⟨hg, ⟨hn, q, rfl⟩ | ⟨n, p1, hn, rfl, hr, hp1⟩⟩
  · exact ⟨rfl, hg, Or.inl ⟨by rw [pText, hn]; rfl, q, rfl⟩⟩
  have hn256 : n ≤ 100000 := by
    unfold pCount at hn
    split at hn
    · cases hn
      have := bt_lt s p
      omega
    · cases hn
  go_wp2_with fail
  refine (bytes_r _ b s p1 n hr hp1 hs hn256).mono ?_
  rintro r w2 ⟨hg2, ⟨hn2, q, rfl⟩ | ⟨t, p2, hn2, rfl, hr2, hp2⟩⟩
  · exact ⟨rfl, grown_trans hg hg2, Or.inl ⟨by rw [pText, hn]; exact hn2, q, rfl⟩⟩
  have HX := mkHid (show pText s p = some (t, p2) by rw [pText, hn]; exact hn2)
  have HG := mkHid (grown_trans hg hg2)
  have HR := mkHid hr2
  clear hn hn2 hg hg2 hr hr2
  go_wp2
  go_ret
  exact ⟨HG.out, Or.inr ⟨t, p2, HX.out, rfl, HR.out, hp2⟩⟩
end Go.Proofs.YtaekpdcnnkmahaaGreatDoor
/- The contracts of the reader's methods on kinds, fields and handlers. -/
namespace Go.Proofs.YtaekpdcnnkmahaaGreatDoor
set_option maxRecDepth 100000
open Go.RowKit

/-- The state in the middle of a reader's method: what it hands back and its own variable, each in a block of its own. -/
structure Loc (w W : World) (b t : Nat) (rs cs : Array Value) : Prop where
  grown : w.grownBy W (some b)
  res : W.heap[w.heap.size]? = some (.cells rs t (0, 0))
  own : W.heap[w.heap.size + 1]? = some (.cells cs t (0, 0))
theorem Loc.lt {w W : World} {b t : Nat} {rs cs : Array Value} (h : Loc w W b t rs cs) : w.heap.size + 1 < W.heap.size := (Array.getElem?_eq_some_iff.1 h.own).1
theorem Loc.start {w : World} {b t : Nat} (rs cs : Array Value) : Loc w ((w.alloc (.cells rs t)).alloc (.cells cs t)) b t rs cs := by
  refine ⟨grown_alloc (grown_alloc (World.grownBy.refl _ _) _) _, ?_, ?_⟩
  · show ((w.heap.push _).push _)[w.heap.size]? = _
    rw [Array.getElem?_push, if_neg (by simp)]
    exact Array.getElem?_push_size
  · show ((w.heap.push _).push _)[w.heap.size + 1]? = _
    rw [Array.getElem?_push, if_pos (by simp)]
theorem Loc.call {w W W' : World} {b t : Nat} {rs cs : Array Value} (h : Loc w W b t rs cs) (hg : W.grownBy W' (some b)) (hb : b < w.heap.size) : Loc w W' b t rs cs :=
  have hl := h.lt
  ⟨grown_trans h.grown hg, (hg.block _ (by omega) (by simp; omega)).trans h.res, (hg.block _ hl (by simp; omega)).trans h.own⟩
theorem Loc.cell {w W : World} {b t : Nat} {rs cs : Array Value} (h : Loc w W b t rs cs) (j : Nat) {x : Value} (hx : cs[j]? = some x) : W.cell? ⟨w.heap.size + 1, j, none⟩ = some x := by
  simp [World.cell?, h.own, hx]
theorem Loc.frozen {w W : World} {b t : Nat} {rs cs : Array Value} (h : Loc w W b t rs cs) (j : Nat) : W.frozen? ⟨w.heap.size + 1, j, none⟩ = false := by
  simp [World.frozen?, h.own]
theorem Loc.cellR {w W : World} {b t : Nat} {rs cs : Array Value} (h : Loc w W b t rs cs) (j : Nat) {x : Value} (hx : rs[j]? = some x) : W.cell? ⟨w.heap.size, j, none⟩ = some x := by
  simp [World.cell?, h.res, hx]
theorem Loc.frozenR {w W : World} {b t : Nat} {rs cs : Array Value} (h : Loc w W b t rs cs) (j : Nat) : W.frozen? ⟨w.heap.size, j, none⟩ = false := by
  simp [World.frozen?, h.res]
theorem heap_set_own {W : World} {k j t : Nat} {cs : Array Value} {fr : Nat × Nat} (h : W.heap[k]? = some (.cells cs t fr)) (v : Value) : (W.setCell ⟨k, j, none⟩ v).heap[k]? = some (.cells (cs.setIfInBounds j v) t fr) := by
  simp [World.setCell, Array.getElem?_modify, h]
theorem Loc.set {w W : World} {b t : Nat} {rs cs : Array Value} (h : Loc w W b t rs cs) (j : Nat) (v : Value) : Loc w (W.setCell ⟨w.heap.size + 1, j, none⟩ v) b t rs (cs.setIfInBounds j v) :=
  ⟨grown_set h.grown _ _ (Or.inr (by simp)), (Below.heap_setCell _ _ _ _ (by simp)).trans h.res, heap_set_own h.own v⟩
theorem Rd.locSet {w W : World} {b : Nat} {s : ByteArray} {p : Nat} (h : Rd W b s p) (hb : b < w.heap.size) (k j : Nat) (hk : w.heap.size ≤ k) (v : Value) : Rd (W.setCell ⟨k, j, none⟩ v) b s p := h.setOther _ _ (by show k ≠ b; omega)
end Go.Proofs.YtaekpdcnnkmahaaGreatDoor
/- The contracts of the reader's methods on kinds, fields and handlers. -/
namespace Go.Proofs.YtaekpdcnnkmahaaGreatDoor
set_option maxRecDepth 100000
open Go.RowKit

set_option maxHeartbeats 1000000 in
theorem kind_r (w : World) (b : Nat) (s : ByteArray) (p : Nat) (h : Rd w b s p) (hp : p ≤ s.size) (hs : s.size ≤ 20000) :
    Calls Tryz.prog 154 #[.pointer (some ⟨b, 0, none⟩)] w fun r w' => RdOut w w' b s (pKind s p) (fun x r => r = .returned (.agg #[.int .i64 x.kind, .string x.cls])) r := by
  have hb := h.lt
  go_enter Tryz.func154, Tryz.ntmps154
  go_wp2_with fail
  have L0 : Loc w ((w.alloc (.cells #[.int .i64 0, .string ⟨#[]⟩] 51)).alloc (.cells #[.int .i64 0, .string ⟨#[]⟩] 51)) b 51 #[.int .i64 0, .string ⟨#[]⟩] #[.int .i64 0, .string ⟨#[]⟩] := Loc.start _ _
  have hr0 : Rd ((w.alloc (.cells #[.int .i64 0, .string ⟨#[]⟩] 51)).alloc (.cells #[.int .i64 0, .string ⟨#[]⟩] 51)) b s p := (h.alloc _).alloc _
  generalize (w.alloc (.cells #[.int .i64 0, .string ⟨#[]⟩] 51)).alloc (.cells #[.int .i64 0, .string ⟨#[]⟩] 51) = W0 at *
  refine (count_r _ b s p hr0 hp (by unfold maxLen; omega)).mono ?_
  rintro r w1 ⟨hg, ⟨hn, q, rfl⟩ | ⟨x1, p1, hn, rfl, hr, hp1⟩⟩
  · exact ⟨rfl, grown_trans L0.grown hg, Or.inl ⟨by simp only [pKind, hn, Option.bind_none], q, rfl⟩⟩
  have HN1 := mkHid hn
  have L0b := L0.call hg hb
  have hlt := L0b.lt
  have y0 := L0b.cell 0 (x := .int .i64 0) rfl
  have z0 := L0b.frozen 0
  clear hn hg hr0 L0
  go_wp2_with fail
  have L1 : Loc w (w1.setCell ⟨w.heap.size + 1, 0, none⟩ (.int .i64 x1)) b 51 #[.int .i64 0, .string ⟨#[]⟩] #[.int .i64 x1, .string ⟨#[]⟩] := (L0b.set 0 (.int .i64 x1))
  have hr1 := (hr.locSet hb (w.heap.size + 1) 0 (by omega) (.int .i64 x1))
  generalize (w1.setCell ⟨w.heap.size + 1, 0, none⟩ (.int .i64 x1)) = W1 at *
  clear y0 z0 L0b hr hlt
  refine (hasClass_any _ _).mono ?_
  rintro r w2 ⟨rfl, rfl⟩
  cases hc : hasCls (x1 : Int)
  · have HC := mkHid hc
    clear hc
    have hlt := L1.lt
    have y0 := L1.cell 0 (x := .int .i64 x1) rfl
    have y1 := L1.cell 1 (x := .string ⟨#[]⟩) rfl
    have u0 := L1.cellR 0 (x := .int .i64 0) rfl
    have z0 := L1.frozenR 0
    have u1 := L1.cellR 1 (x := .string ⟨#[]⟩) rfl
    have z1 := L1.frozenR 1
    have HG : Hid (w.grownBy ((w2.setCell ⟨w.heap.size, 0, none⟩ (.int .i64 x1)).setCell ⟨w.heap.size, 1, none⟩ (.string ⟨#[]⟩)) (some b)) := (grown_set (grown_set L1.grown ⟨w.heap.size, 0, none⟩ (.int .i64 x1) (Or.inr (Nat.le_refl _))) ⟨w.heap.size, 1, none⟩ (.string ⟨#[]⟩) (Or.inr (Nat.le_refl _)))
    have HR : Hid (Rd ((w2.setCell ⟨w.heap.size, 0, none⟩ (.int .i64 x1)).setCell ⟨w.heap.size, 1, none⟩ (.string ⟨#[]⟩)) b s p1) := ((hr1.locSet hb w.heap.size 0 (Nat.le_refl _) (.int .i64 x1)).locSet hb w.heap.size 1 (Nat.le_refl _) (.string ⟨#[]⟩))
    have HF : Hid (((w2.setCell ⟨w.heap.size, 0, none⟩ (.int .i64 x1)).setCell ⟨w.heap.size, 1, none⟩ (.string ⟨#[]⟩)).heap[w.heap.size]? = some (.cells #[.int .i64 x1, .string ⟨#[]⟩] 51 (0, 0))) := (heap_set_own (heap_set_own L1.res (j := 0) (.int .i64 x1)) (j := 1) (.string ⟨#[]⟩))
    have HX := mkHid (show pKind s p = some (⟨x1, ByteArray.empty⟩, p1) by rw [pKind, HN1.out]; simp only [Option.bind_some]; rw [if_neg (by rw [HC.out]; decide)])
    clear L1 hr1
    go_wp2_with fail
    generalize ((w2.setCell ⟨w.heap.size, 0, none⟩ (.int .i64 x1)).setCell ⟨w.heap.size, 1, none⟩ (.string ⟨#[]⟩)) = W9 at *
    have q0 : W9.cell? ⟨w.heap.size, 0, none⟩ = some (.int .i64 x1) := by simp [World.cell?, HF.out]
    have q1 : W9.cell? ⟨w.heap.size, 1, none⟩ = some (.string ⟨#[]⟩) := by simp [World.cell?, HF.out]
    exact bodyPost_ret (v := .agg #[.int .i64 x1, .string ⟨#[]⟩]) (by simp [results, Tryz.results154, go_sem, q0, q1]) rfl ⟨HG.out, Or.inr ⟨⟨x1, ByteArray.empty⟩, p1, HX.out, rfl, HR.out, hp1⟩⟩
  · have HC := mkHid hc
    clear hc
    have hlt := L1.lt
    go_wp2_with fail
    clear hlt
    refine (text_r _ b s p1 hr1 hp1 hs).mono ?_
    rintro r w1 ⟨hg, ⟨hn, q, rfl⟩ | ⟨x2, p2, hn, rfl, hr, hp2⟩⟩
    · exact ⟨rfl, grown_trans L1.grown hg, Or.inl ⟨by rw [pKind, HN1.out]; simp only [Option.bind_some]; rw [if_pos HC.out, hn]; rfl, q, rfl⟩⟩
    have HN2 := mkHid hn
    have L1b := L1.call hg hb
    clear hn hg hr1 L1
    have hlt := L1b.lt
    have y0 := L1b.cell 0 (x := .int .i64 x1) rfl
    have y1 := L1b.cell 1 (x := .string ⟨#[]⟩) rfl
    have f1 := L1b.frozen 1
    have u0 := L1b.cellR 0 (x := .int .i64 0) rfl
    have z0 := L1b.frozenR 0
    have u1 := L1b.cellR 1 (x := .string ⟨#[]⟩) rfl
    have z1 := L1b.frozenR 1
    have HG : Hid (w.grownBy (((w1.setCell ⟨w.heap.size + 1, 1, none⟩ (.string x2)).setCell ⟨w.heap.size, 0, none⟩ (.int .i64 x1)).setCell ⟨w.heap.size, 1, none⟩ (.string x2)) (some b)) := (grown_set (grown_set (L1b.set 1 (.string x2)).grown ⟨w.heap.size, 0, none⟩ (.int .i64 x1) (Or.inr (Nat.le_refl _))) ⟨w.heap.size, 1, none⟩ (.string x2) (Or.inr (Nat.le_refl _)))
    have HR : Hid (Rd (((w1.setCell ⟨w.heap.size + 1, 1, none⟩ (.string x2)).setCell ⟨w.heap.size, 0, none⟩ (.int .i64 x1)).setCell ⟨w.heap.size, 1, none⟩ (.string x2)) b s p2) := (((hr.locSet hb (w.heap.size + 1) 1 (by omega) (.string x2)).locSet hb w.heap.size 0 (Nat.le_refl _) (.int .i64 x1)).locSet hb w.heap.size 1 (Nat.le_refl _) (.string x2))
    have HF : Hid ((((w1.setCell ⟨w.heap.size + 1, 1, none⟩ (.string x2)).setCell ⟨w.heap.size, 0, none⟩ (.int .i64 x1)).setCell ⟨w.heap.size, 1, none⟩ (.string x2)).heap[w.heap.size]? = some (.cells #[.int .i64 x1, .string x2] 51 (0, 0))) := (heap_set_own (heap_set_own (L1b.set 1 (.string x2)).res (j := 0) (.int .i64 x1)) (j := 1) (.string x2))
    have HX := mkHid (show pKind s p = some (⟨x1, x2⟩, p2) by rw [pKind, HN1.out]; simp only [Option.bind_some]; rw [if_pos HC.out, HN2.out]; rfl)
    clear L1b hr
    go_wp2_with fail
    generalize (((w1.setCell ⟨w.heap.size + 1, 1, none⟩ (.string x2)).setCell ⟨w.heap.size, 0, none⟩ (.int .i64 x1)).setCell ⟨w.heap.size, 1, none⟩ (.string x2)) = W9 at *
    have q0 : W9.cell? ⟨w.heap.size, 0, none⟩ = some (.int .i64 x1) := by simp [World.cell?, HF.out]
    have q1 : W9.cell? ⟨w.heap.size, 1, none⟩ = some (.string x2) := by simp [World.cell?, HF.out]
    exact bodyPost_ret (v := .agg #[.int .i64 x1, .string x2]) (by simp [results, Tryz.results154, go_sem, q0, q1]) rfl ⟨HG.out, Or.inr ⟨⟨x1, x2⟩, p2, HX.out, rfl, HR.out, hp2⟩⟩

set_option maxHeartbeats 2000000 in
theorem handler_r (w : World) (b : Nat) (s : ByteArray) (p : Nat) (h : Rd w b s p) (hp : p ≤ s.size) (hs : s.size ≤ 20000) :
    Calls Tryz.prog 158 #[.pointer (some ⟨b, 0, none⟩)] w fun r w' => RdOut w w' b s (pHand s p) (fun x r => r = .returned (.agg #[.int .i64 x.frm, .int .i64 x.upto, .int .i64 x.loc, .string x.cls])) r := by
  have hb := h.lt
  go_enter Tryz.func158, Tryz.ntmps158
  go_wp2_with fail
  have L0 : Loc w ((w.alloc (.cells #[.int .i64 0, .int .i64 0, .int .i64 0, .string ⟨#[]⟩] 79)).alloc (.cells #[.int .i64 0, .int .i64 0, .int .i64 0, .string ⟨#[]⟩] 79)) b 79 #[.int .i64 0, .int .i64 0, .int .i64 0, .string ⟨#[]⟩] #[.int .i64 0, .int .i64 0, .int .i64 0, .string ⟨#[]⟩] := Loc.start _ _
  have hr0 : Rd ((w.alloc (.cells #[.int .i64 0, .int .i64 0, .int .i64 0, .string ⟨#[]⟩] 79)).alloc (.cells #[.int .i64 0, .int .i64 0, .int .i64 0, .string ⟨#[]⟩] 79)) b s p := (h.alloc _).alloc _
  generalize (w.alloc (.cells #[.int .i64 0, .int .i64 0, .int .i64 0, .string ⟨#[]⟩] 79)).alloc (.cells #[.int .i64 0, .int .i64 0, .int .i64 0, .string ⟨#[]⟩] 79) = W0 at *
  refine (number_r _ b s p hr0 hp (by unfold maxLen; omega)).mono ?_
  rintro r w1 ⟨hg, ⟨hn, q, rfl⟩ | ⟨x1, p1, hn, rfl, hr, hp1⟩⟩
  · exact ⟨rfl, grown_trans L0.grown hg, Or.inl ⟨by simp only [pHand, hn, Option.bind_none], q, rfl⟩⟩
  have HN1 := mkHid hn
  have L0b := L0.call hg hb
  have hlt := L0b.lt
  have y0 := L0b.cell 0 (x := .int .i64 0) rfl
  have z0 := L0b.frozen 0
  clear hn hg hr0 L0
  go_wp2_with fail
  have L1 : Loc w (w1.setCell ⟨w.heap.size + 1, 0, none⟩ (.int .i64 x1)) b 79 #[.int .i64 0, .int .i64 0, .int .i64 0, .string ⟨#[]⟩] #[.int .i64 x1, .int .i64 0, .int .i64 0, .string ⟨#[]⟩] := (L0b.set 0 (.int .i64 x1))
  have hr1 := (hr.locSet hb (w.heap.size + 1) 0 (by omega) (.int .i64 x1))
  generalize (w1.setCell ⟨w.heap.size + 1, 0, none⟩ (.int .i64 x1)) = W1 at *
  clear y0 z0 L0b hr hlt
  refine (number_r _ b s p1 hr1 hp1 (by unfold maxLen; omega)).mono ?_
  rintro r w1 ⟨hg, ⟨hn, q, rfl⟩ | ⟨x2, p2, hn, rfl, hr, hp2⟩⟩
  · exact ⟨rfl, grown_trans L1.grown hg, Or.inl ⟨by simp only [pHand, HN1.out, hn, Option.bind_some, Option.bind_none], q, rfl⟩⟩
  have HN2 := mkHid hn
  have L1b := L1.call hg hb
  have hlt := L1b.lt
  have y1 := L1b.cell 1 (x := .int .i64 0) rfl
  have z1 := L1b.frozen 1
  clear hn hg hr1 L1
  go_wp2_with fail
  have L2 : Loc w (w1.setCell ⟨w.heap.size + 1, 1, none⟩ (.int .i64 x2)) b 79 #[.int .i64 0, .int .i64 0, .int .i64 0, .string ⟨#[]⟩] #[.int .i64 x1, .int .i64 x2, .int .i64 0, .string ⟨#[]⟩] := (L1b.set 1 (.int .i64 x2))
  have hr2 := (hr.locSet hb (w.heap.size + 1) 1 (by omega) (.int .i64 x2))
  generalize (w1.setCell ⟨w.heap.size + 1, 1, none⟩ (.int .i64 x2)) = W2 at *
  clear y1 z1 L1b hr hlt
  refine (number_r _ b s p2 hr2 hp2 (by unfold maxLen; omega)).mono ?_
  rintro r w1 ⟨hg, ⟨hn, q, rfl⟩ | ⟨x3, p3, hn, rfl, hr, hp3⟩⟩
  · exact ⟨rfl, grown_trans L2.grown hg, Or.inl ⟨by simp only [pHand, HN1.out, HN2.out, hn, Option.bind_some, Option.bind_none], q, rfl⟩⟩
  have HN3 := mkHid hn
  have L2b := L2.call hg hb
  have hlt := L2b.lt
  have y2 := L2b.cell 2 (x := .int .i64 0) rfl
  have z2 := L2b.frozen 2
  clear hn hg hr2 L2
  go_wp2_with fail
  have L3 : Loc w (w1.setCell ⟨w.heap.size + 1, 2, none⟩ (.int .i64 x3)) b 79 #[.int .i64 0, .int .i64 0, .int .i64 0, .string ⟨#[]⟩] #[.int .i64 x1, .int .i64 x2, .int .i64 x3, .string ⟨#[]⟩] := (L2b.set 2 (.int .i64 x3))
  have hr3 := (hr.locSet hb (w.heap.size + 1) 2 (by omega) (.int .i64 x3))
  generalize (w1.setCell ⟨w.heap.size + 1, 2, none⟩ (.int .i64 x3)) = W3 at *
  clear y2 z2 L2b hr hlt
  refine (text_r _ b s p3 hr3 hp3 hs).mono ?_
  rintro r w1 ⟨hg, ⟨hn, q, rfl⟩ | ⟨x4, p4, hn, rfl, hr, hp4⟩⟩
  · exact ⟨rfl, grown_trans L3.grown hg, Or.inl ⟨by simp only [pHand, HN1.out, HN2.out, HN3.out, hn, Option.bind_some, Option.bind_none], q, rfl⟩⟩
  have HN4 := mkHid hn
  have L3b := L3.call hg hb
  clear hn hg hr3 L3
  have hlt := L3b.lt
  have y0 := L3b.cell 0 (x := .int .i64 x1) rfl
  have y1 := L3b.cell 1 (x := .int .i64 x2) rfl
  have y2 := L3b.cell 2 (x := .int .i64 x3) rfl
  have y3 := L3b.cell 3 (x := .string ⟨#[]⟩) rfl
  have f3 := L3b.frozen 3
  have u0 := L3b.cellR 0 (x := .int .i64 0) rfl
  have z0 := L3b.frozenR 0
  have u1 := L3b.cellR 1 (x := .int .i64 0) rfl
  have z1 := L3b.frozenR 1
  have u2 := L3b.cellR 2 (x := .int .i64 0) rfl
  have z2 := L3b.frozenR 2
  have u3 := L3b.cellR 3 (x := .string ⟨#[]⟩) rfl
  have z3 := L3b.frozenR 3
  have HG : Hid (w.grownBy (((((w1.setCell ⟨w.heap.size + 1, 3, none⟩ (.string x4)).setCell ⟨w.heap.size, 0, none⟩ (.int .i64 x1)).setCell ⟨w.heap.size, 1, none⟩ (.int .i64 x2)).setCell ⟨w.heap.size, 2, none⟩ (.int .i64 x3)).setCell ⟨w.heap.size, 3, none⟩ (.string x4)) (some b)) := (grown_set (grown_set (grown_set (grown_set (L3b.set 3 (.string x4)).grown ⟨w.heap.size, 0, none⟩ (.int .i64 x1) (Or.inr (Nat.le_refl _))) ⟨w.heap.size, 1, none⟩ (.int .i64 x2) (Or.inr (Nat.le_refl _))) ⟨w.heap.size, 2, none⟩ (.int .i64 x3) (Or.inr (Nat.le_refl _))) ⟨w.heap.size, 3, none⟩ (.string x4) (Or.inr (Nat.le_refl _)))
  have HR : Hid (Rd (((((w1.setCell ⟨w.heap.size + 1, 3, none⟩ (.string x4)).setCell ⟨w.heap.size, 0, none⟩ (.int .i64 x1)).setCell ⟨w.heap.size, 1, none⟩ (.int .i64 x2)).setCell ⟨w.heap.size, 2, none⟩ (.int .i64 x3)).setCell ⟨w.heap.size, 3, none⟩ (.string x4)) b s p4) := (((((hr.locSet hb (w.heap.size + 1) 3 (by omega) (.string x4)).locSet hb w.heap.size 0 (Nat.le_refl _) (.int .i64 x1)).locSet hb w.heap.size 1 (Nat.le_refl _) (.int .i64 x2)).locSet hb w.heap.size 2 (Nat.le_refl _) (.int .i64 x3)).locSet hb w.heap.size 3 (Nat.le_refl _) (.string x4))
  have HF : Hid ((((((w1.setCell ⟨w.heap.size + 1, 3, none⟩ (.string x4)).setCell ⟨w.heap.size, 0, none⟩ (.int .i64 x1)).setCell ⟨w.heap.size, 1, none⟩ (.int .i64 x2)).setCell ⟨w.heap.size, 2, none⟩ (.int .i64 x3)).setCell ⟨w.heap.size, 3, none⟩ (.string x4)).heap[w.heap.size]? = some (.cells #[.int .i64 x1, .int .i64 x2, .int .i64 x3, .string x4] 79 (0, 0))) := (heap_set_own (heap_set_own (heap_set_own (heap_set_own (L3b.set 3 (.string x4)).res (j := 0) (.int .i64 x1)) (j := 1) (.int .i64 x2)) (j := 2) (.int .i64 x3)) (j := 3) (.string x4))
  have HX := mkHid (show pHand s p = some (⟨x1, x2, x3, x4⟩, p4) by simp only [pHand, HN1.out, HN2.out, HN3.out, HN4.out, Option.bind_some])
  clear L3b hr
  go_wp2_with fail
  generalize (((((w1.setCell ⟨w.heap.size + 1, 3, none⟩ (.string x4)).setCell ⟨w.heap.size, 0, none⟩ (.int .i64 x1)).setCell ⟨w.heap.size, 1, none⟩ (.int .i64 x2)).setCell ⟨w.heap.size, 2, none⟩ (.int .i64 x3)).setCell ⟨w.heap.size, 3, none⟩ (.string x4)) = W9 at *
  have q0 : W9.cell? ⟨w.heap.size, 0, none⟩ = some (.int .i64 x1) := by simp [World.cell?, HF.out]
  have q1 : W9.cell? ⟨w.heap.size, 1, none⟩ = some (.int .i64 x2) := by simp [World.cell?, HF.out]
  have q2 : W9.cell? ⟨w.heap.size, 2, none⟩ = some (.int .i64 x3) := by simp [World.cell?, HF.out]
  have q3 : W9.cell? ⟨w.heap.size, 3, none⟩ = some (.string x4) := by simp [World.cell?, HF.out]
  exact bodyPost_ret (v := .agg #[.int .i64 x1, .int .i64 x2, .int .i64 x3, .string x4]) (by simp [results, Tryz.results158, go_sem, q0, q1, q2, q3]) rfl ⟨HG.out, Or.inr ⟨⟨x1, x2, x3, x4⟩, p4, HX.out, rfl, HR.out, hp4⟩⟩

set_option maxHeartbeats 2000000 in
theorem field_r (w : World) (b : Nat) (s : ByteArray) (p : Nat) (h : Rd w b s p) (hp : p ≤ s.size) (hs : s.size ≤ 20000) :
    Calls Tryz.prog 107 #[.pointer (some ⟨b, 0, none⟩)] w fun r w' => RdOut w w' b s (pField s p) (fun x r => r = .returned (.agg #[.string x.name, .int .i64 x.kind.kind, .string x.kind.cls])) r := by
  have hb := h.lt
  go_enter Tryz.func107, Tryz.ntmps107
  go_wp2_with fail
  have L0 : Loc w ((w.alloc (.cells #[.string ⟨#[]⟩, .int .i64 0, .string ⟨#[]⟩] 53)).alloc (.cells #[.string ⟨#[]⟩, .int .i64 0, .string ⟨#[]⟩] 53)) b 53 #[.string ⟨#[]⟩, .int .i64 0, .string ⟨#[]⟩] #[.string ⟨#[]⟩, .int .i64 0, .string ⟨#[]⟩] := Loc.start _ _
  have hr0 : Rd ((w.alloc (.cells #[.string ⟨#[]⟩, .int .i64 0, .string ⟨#[]⟩] 53)).alloc (.cells #[.string ⟨#[]⟩, .int .i64 0, .string ⟨#[]⟩] 53)) b s p := (h.alloc _).alloc _
  generalize (w.alloc (.cells #[.string ⟨#[]⟩, .int .i64 0, .string ⟨#[]⟩] 53)).alloc (.cells #[.string ⟨#[]⟩, .int .i64 0, .string ⟨#[]⟩] 53) = W0 at *
  refine (text_r _ b s p hr0 hp hs).mono ?_
  rintro r w1 ⟨hg, ⟨hn, q, rfl⟩ | ⟨x1, p1, hn, rfl, hr, hp1⟩⟩
  · exact ⟨rfl, grown_trans L0.grown hg, Or.inl ⟨by simp only [pField, hn, Option.bind_none], q, rfl⟩⟩
  have HN1 := mkHid hn
  have L0b := L0.call hg hb
  have hlt := L0b.lt
  have y0 := L0b.cell 0 (x := .string ⟨#[]⟩) rfl
  have z0 := L0b.frozen 0
  clear hn hg hr0 L0
  go_wp2_with fail
  have L1 : Loc w (w1.setCell ⟨w.heap.size + 1, 0, none⟩ (.string x1)) b 53 #[.string ⟨#[]⟩, .int .i64 0, .string ⟨#[]⟩] #[.string x1, .int .i64 0, .string ⟨#[]⟩] := (L0b.set 0 (.string x1))
  have hr1 := (hr.locSet hb (w.heap.size + 1) 0 (by omega) (.string x1))
  generalize (w1.setCell ⟨w.heap.size + 1, 0, none⟩ (.string x1)) = W1 at *
  clear y0 z0 L0b hr hlt
  refine (kind_r _ b s p1 hr1 hp1 hs).mono ?_
  rintro r w1 ⟨hg, ⟨hn, q, rfl⟩ | ⟨x2, p2, hn, rfl, hr, hp2⟩⟩
  · exact ⟨rfl, grown_trans L1.grown hg, Or.inl ⟨by simp only [pField, HN1.out, hn, Option.bind_some, Option.bind_none], q, rfl⟩⟩
  have HN2 := mkHid hn
  have L1b := L1.call hg hb
  clear hn hg hr1 L1
  have hlt := L1b.lt
  have y0 := L1b.cell 0 (x := .string x1) rfl
  have y1 := L1b.cell 1 (x := .int .i64 0) rfl
  have y2 := L1b.cell 2 (x := .string ⟨#[]⟩) rfl
  have f1 := L1b.frozen 1
  have f2 := L1b.frozen 2
  have u0 := L1b.cellR 0 (x := .string ⟨#[]⟩) rfl
  have z0 := L1b.frozenR 0
  have u1 := L1b.cellR 1 (x := .int .i64 0) rfl
  have z1 := L1b.frozenR 1
  have u2 := L1b.cellR 2 (x := .string ⟨#[]⟩) rfl
  have z2 := L1b.frozenR 2
  have HG : Hid (w.grownBy (((((w1.setCell ⟨w.heap.size + 1, 1, none⟩ (.int .i64 x2.kind)).setCell ⟨w.heap.size + 1, 2, none⟩ (.string x2.cls)).setCell ⟨w.heap.size, 0, none⟩ (.string x1)).setCell ⟨w.heap.size, 1, none⟩ (.int .i64 x2.kind)).setCell ⟨w.heap.size, 2, none⟩ (.string x2.cls)) (some b)) := (grown_set (grown_set (grown_set ((L1b.set 1 (.int .i64 x2.kind)).set 2 (.string x2.cls)).grown ⟨w.heap.size, 0, none⟩ (.string x1) (Or.inr (Nat.le_refl _))) ⟨w.heap.size, 1, none⟩ (.int .i64 x2.kind) (Or.inr (Nat.le_refl _))) ⟨w.heap.size, 2, none⟩ (.string x2.cls) (Or.inr (Nat.le_refl _)))
  have HR : Hid (Rd (((((w1.setCell ⟨w.heap.size + 1, 1, none⟩ (.int .i64 x2.kind)).setCell ⟨w.heap.size + 1, 2, none⟩ (.string x2.cls)).setCell ⟨w.heap.size, 0, none⟩ (.string x1)).setCell ⟨w.heap.size, 1, none⟩ (.int .i64 x2.kind)).setCell ⟨w.heap.size, 2, none⟩ (.string x2.cls)) b s p2) := (((((hr.locSet hb (w.heap.size + 1) 1 (by omega) (.int .i64 x2.kind)).locSet hb (w.heap.size + 1) 2 (by omega) (.string x2.cls)).locSet hb w.heap.size 0 (Nat.le_refl _) (.string x1)).locSet hb w.heap.size 1 (Nat.le_refl _) (.int .i64 x2.kind)).locSet hb w.heap.size 2 (Nat.le_refl _) (.string x2.cls))
  have HF : Hid ((((((w1.setCell ⟨w.heap.size + 1, 1, none⟩ (.int .i64 x2.kind)).setCell ⟨w.heap.size + 1, 2, none⟩ (.string x2.cls)).setCell ⟨w.heap.size, 0, none⟩ (.string x1)).setCell ⟨w.heap.size, 1, none⟩ (.int .i64 x2.kind)).setCell ⟨w.heap.size, 2, none⟩ (.string x2.cls)).heap[w.heap.size]? = some (.cells #[.string x1, .int .i64 x2.kind, .string x2.cls] 53 (0, 0))) := (heap_set_own (heap_set_own (heap_set_own ((L1b.set 1 (.int .i64 x2.kind)).set 2 (.string x2.cls)).res (j := 0) (.string x1)) (j := 1) (.int .i64 x2.kind)) (j := 2) (.string x2.cls))
  have HX := mkHid (show pField s p = some (⟨x1, x2⟩, p2) by simp only [pField, HN1.out, HN2.out, Option.bind_some])
  clear L1b hr
  go_wp2_with fail
  generalize (((((w1.setCell ⟨w.heap.size + 1, 1, none⟩ (.int .i64 x2.kind)).setCell ⟨w.heap.size + 1, 2, none⟩ (.string x2.cls)).setCell ⟨w.heap.size, 0, none⟩ (.string x1)).setCell ⟨w.heap.size, 1, none⟩ (.int .i64 x2.kind)).setCell ⟨w.heap.size, 2, none⟩ (.string x2.cls)) = W9 at *
  have q0 : W9.cell? ⟨w.heap.size, 0, none⟩ = some (.string x1) := by simp [World.cell?, HF.out]
  have q1 : W9.cell? ⟨w.heap.size, 1, none⟩ = some (.int .i64 x2.kind) := by simp [World.cell?, HF.out]
  have q2 : W9.cell? ⟨w.heap.size, 2, none⟩ = some (.string x2.cls) := by simp [World.cell?, HF.out]
  exact bodyPost_ret (v := .agg #[.string x1, .int .i64 x2.kind, .string x2.cls]) (by simp [results, Tryz.results107, go_sem, q0, q1, q2]) rfl ⟨HG.out, Or.inr ⟨⟨x1, x2⟩, p2, HX.out, rfl, HR.out, hp2⟩⟩

theorem flag_r (w : World) (b : Nat) (s : ByteArray) (p : Nat) (h : Rd w b s p) (hp : p ≤ s.size) (hs : s.size ≤ 20000) :
    Calls Tryz.prog 155 #[.pointer (some ⟨b, 0, none⟩)] w fun r w' => RdOut w w' b s (pFlag s p) (fun x r => r = .returned (.bool x)) r := by
  go_enter Tryz.func155, Tryz.ntmps155
  go_wp2_with fail
  refine (count_r _ b s p h hp (by unfold maxLen; omega)).mono ?_
  rintro r w1 ⟨hg, ⟨hn, q, rfl⟩ | ⟨n, p1, hn, rfl, hr, hp1⟩⟩
  · exact ⟨rfl, hg, Or.inl ⟨by rw [pFlag, hn]; rfl, q, rfl⟩⟩
  by_cases h1 : n ≤ 1
  · have h1' : (n : Int) ≤ 1 := by omega
    have HX := mkHid (show pFlag s p = some (decide (n = 1), p1) by rw [pFlag, hn]; simp only [Option.bind_some]; rw [if_pos h1])
    have HG := mkHid hg
    have HR := mkHid hr
    clear hn h1 hg hr
    go_wp2_with fail
    refine (demand_any _ _ _).mono ?_
    rintro r w2 ⟨rfl, ⟨hb, rfl⟩ | ⟨hb, rfl⟩⟩
    · exact absurd hb (by simp)
    clear hb
    go_wp2
    go_ret
    refine ⟨HG.out, Or.inr ⟨_, p1, HX.out, ?_, HR.out, hp1⟩⟩
    show Ending.returned (.bool ((n : Int) == 1)) = .returned (.bool (decide (n = 1)))
    congr 2
    rw [Bool.eq_iff_iff]
    simp
    omega
  · have h1' : ¬ (n : Int) ≤ 1 := by omega
    have HX := mkHid (show pFlag s p = none by rw [pFlag, hn]; simp only [Option.bind_some]; rw [if_neg h1])
    have HG := mkHid hg
    clear hn h1 hg hr
    go_wp2_with fail
    refine (demand_any _ _ _).mono ?_
    rintro r w2 ⟨rfl, ⟨hb, rfl⟩ | ⟨hb, rfl⟩⟩
    · exact ⟨rfl, HG.out, Or.inl ⟨HX.out, 0, rfl⟩⟩
    · exact absurd hb (by first | (simp; done) | (simp; omega))
end Go.Proofs.YtaekpdcnnkmahaaGreatDoor
/- (its laws lie in LSet) -/
/- The contracts of what reads lists of kinds, fields and handlers. -/
namespace Go.Proofs.YtaekpdcnnkmahaaGreatDoor
set_option maxRecDepth 100000
open Go.RowKit

theorem pBytes_size {s : ByteArray} {n p q : Nat} {t : ByteArray} (hs : s.size ≤ 20000) (h : pBytes s n p = some (t, q)) : t.size ≤ maxLen := by
  unfold pBytes at h
  split at h
  · cases h
    simp [maxLen]
    omega
  · cases h
theorem pText_size {s : ByteArray} {p q : Nat} {t : ByteArray} (hs : s.size ≤ 20000) (h : pText s p = some (t, q)) : t.size ≤ maxLen := by
  rw [pText, Option.bind_eq_some_iff] at h
  obtain ⟨x, _, h⟩ := h
  exact pBytes_size hs h
theorem pKind_size {s : ByteArray} {p q : Nat} {x : KindD} (hs : s.size ≤ 20000) (h : pKind s p = some (x, q)) : x.cls.size ≤ maxLen := by
  rw [pKind, Option.bind_eq_some_iff] at h
  obtain ⟨y, _, h⟩ := h
  split at h
  · rw [Option.bind_eq_some_iff] at h
    obtain ⟨z, h1, h⟩ := h
    cases h
    exact pText_size hs h1
  · cases h
    simp [maxLen]
theorem pField_size {s : ByteArray} {p q : Nat} {x : FieldD} (hs : s.size ≤ 20000) (h : pField s p = some (x, q)) : x.name.size ≤ maxLen ∧ x.kind.cls.size ≤ maxLen := by
  rw [pField, Option.bind_eq_some_iff] at h
  obtain ⟨y, h1, h⟩ := h
  rw [Option.bind_eq_some_iff] at h
  obtain ⟨z, h2, h⟩ := h
  cases h
  exact ⟨pText_size hs h1, pKind_size hs h2⟩
theorem pHand_size {s : ByteArray} {p q : Nat} {x : HandD} (hs : s.size ≤ 20000) (h : pHand s p = some (x, q)) : x.cls.size ≤ maxLen := by
  rw [pHand, Option.bind_eq_some_iff] at h
  obtain ⟨y, h1, h⟩ := h
  rw [Option.bind_eq_some_iff] at h
  obtain ⟨z, h2, h⟩ := h
  rw [Option.bind_eq_some_iff] at h
  obtain ⟨u, h3, h⟩ := h
  rw [Option.bind_eq_some_iff] at h
  obtain ⟨v, h4, h⟩ := h
  cases h
  exact pText_size hs h4

theorem Tryz.infoKind : (Tryz.prog.info? 51).map (fun i => (i.zero, i.size, i.bytes)) = some (some (.agg #[.int .i64 0, .string ⟨#[]⟩]), 2, 24) := by kernel_rfl
set_option maxHeartbeats 2000000 in
theorem readCountedK (w : World) (b : Nat) (s : ByteArray) (p : Nat) (h : Rd w b s p) (hp : p ≤ s.size) (hs : s.size ≤ 20000) :
    Calls Tryz.prog 156 #[.pointer (some ⟨b, 0, none⟩), .func (.func 154) #[.pointer (some ⟨b, 0, none⟩)] #[]] w fun r w' => RdOut w w' b s (pCounted s (pKind s) p) (fun l r => ∃ v, r = .returned v ∧ SL 2 RK (MT w.heap.size [51] w') w' v l) r := by
  obtain ⟨i0, hi, hz0, hz1, hz2⟩ := info_parts Tryz.infoKind
  have hb := h.lt
  go_enter Tryz.func156, Tryz.ntmps156
  go_wp2_with fail
  refine (count_r _ b s p h hp (by unfold maxLen; omega)).mono ?_
  rintro r w1 ⟨hg, ⟨hn, q, rfl⟩ | ⟨N, p1, hn, rfl, hr, hp1⟩⟩
  · exact ⟨rfl, hg, Or.inl ⟨by rw [pCounted, hn]; rfl, q, rfl⟩⟩
  have hN := pCount_lt hn
  have HPC := mkHid (pCounted_some (f := pKind s) hn)
  clear hn
  go_wp2_with fail
  go_loopw [5, 8] (fun v i wr => ∃ (k : Nat) (zs : List (List Value × KindD)) (p' : Nat), k ≤ N ∧ i = .int .i64 k ∧ zs.length = k ∧ Hid (pMany (pKind s) N p1 = (pMany (pKind s) (N - k) p').bind fun y => some (zs.map (·.2) ++ y.1, y.2)) ∧
    wr.ownsRow w.heap.size 51 2 v zs.length (zs.flatMap (·.1)) ∧ Hid (∀ z ∈ zs, z.1.length = 2 ∧ RK (MT w.heap.size [51] wr) wr z.1 z.2) ∧ Rd wr b s p' ∧ p' ≤ s.size ∧ w.grownBy wr (some b)) (fun _ i _ => N - (intOf i).toNat)
  case atStart => exact ⟨0, [], p1, Nat.zero_le _, rfl, rfl, pMany_start _ _ _, World.ownsRow_nil _ _ _ _, (fun z hz => by cases hz), hr, hp1, hg⟩
  case round =>
    obtain ⟨k, zs, p', hk, rfl, hzl, HPM, hown, HZ, hrd, hp', hgr⟩ := hrel
    have hszr := hgr.size
    by_cases hlt : k < N
    rotate_left
    · have HE : Hid (pMany (pKind s) N p1 = some (zs.map (·.2), p')) := pMany_end (by rw [HPM.out, show N - k = 0 by omega])
      have HOW := mkHid hown
      have ho2 := hown.2
      clear hown
      rcases ho2 with ⟨rfl, hn0⟩ | ⟨g, cap, cur, rfl, hrest⟩
      all_goals
        try clear hrest
        try clear hn0
        go_wp2_with fail
        go_ret
        exact ⟨hgr, Or.inr ⟨_, p', HPC.out.trans HE.out, ⟨_, rfl, own_SL HOW.out HZ.out (by decide) (by unfold maxLen; omega)⟩, hrd, hp'⟩⟩
    obtain ⟨k', hk'⟩ : ∃ k', N - k = k' + 1 := ⟨N - k - 1, by omega⟩
    have HK' := mkHid hk'
    rw [hk'] at HPM
    clear hk'
    go_wp2_with fail
    refine (kind_r _ b s p' hrd hp' hs).mono ?_
    rintro r w2 ⟨hg2, ⟨hx, q, rfl⟩ | ⟨x, p2, hx, rfl, hr2, hp2⟩⟩
    · refine ⟨rfl, grown_trans hgr hg2, Or.inl ⟨?_, q, rfl⟩⟩
      rw [HPC.out]
      exact pMany_fail HPM.out hx
    have HPM2 := mkHid (pMany_step HPM.out hx)
    have HSZ := mkHid (pKind_size hs hx)
    have hown2 : w2.ownsRow w.heap.size 51 2 u5 zs.length (zs.flatMap (·.1)) := hown.kept hg2 (own_ne hown hb)
    have hgr2 := grown_trans hgr hg2
    have hsz2 := hgr2.size
    clear hown hgr hg2 hrd hx HPM
    have HO2 := mkHid hown2
    have HZL := mkHid hzl
    clear hzl
    · go_wp2_with (at_builtin; refine wpList_append_own _ rfl _ _ 73 rfl w.heap.size 51 i0 (.agg #[.int .i64 0, .string ⟨#[]⟩]) 2 24 Tryz.underlying73 hi hz0 hz1 hz2 rfl (by decide) _ _ _ rfl (hown2.alloc _) ⟨w2.heap.size, 0, none⟩ 1 1 [.int .i64 x.kind, .string x.cls] rfl rfl (by intro j u hj; match j, hj with | 0, hj => simp at hj; subst hj; simp [Addr.add] | 1, hj => simp at hj; subst hj; simp [Addr.add] | j + 2, hj => simp at hj) (by intro u hu; simp at hu; rcases hu with rfl | rfl <;> rfl) (by have := HZL.out; unfold maxLen; omega) (by have := HZL.out; omega) (by simp; omega) ?_)
      intro v' w3 hown3 hg3 _
      have hr3 : Rd w3 b s p2 := (hr2.alloc _).grown hg3 (by intro e; have := (HO2.out.lt b e.symm).1; omega)
      have hgr3 : w.grownBy w3 (some b) := grown_own (grown_alloc hgr2 _) hg3 (fun i e => (HO2.out.lt i e).1)
      have HO := mkHid hown3
      clear hown3 hg3 hgr2 hr2
      have ho4 := HO.out.2
      rcases ho4 with ⟨_, hbad⟩ | ⟨g', cap', cur', rfl, hrest⟩
      · omega
      clear hrest
      go_wp2_with fail
      go_roundw
      case rel =>
        refine ⟨k + 1, zs ++ [([.int .i64 x.kind, .string x.cls], x)], p2, by omega, by go_num, by have := HZL.out; simp; omega, ?_, ?_, ?_, hr3, hp2, hgr3⟩
        · have e := HK'.out
          show _ = _
          rw [HPM2.out, show N - (k + 1) = k' by omega, List.map_append]
          rfl
        · rw [List.length_append, snoc_flat]
          exact HO.out
        · show ∀ z ∈ _, _
          intro z hz
          rcases List.mem_append.1 hz with hz | hz
          · exact HZ.out z hz
          · rw [List.mem_singleton] at hz
            subst hz
            exact ⟨rfl, ⟨rfl, HSZ.out⟩⟩
      case measure => simp [intOf]; omega

theorem Tryz.infoField : (Tryz.prog.info? 53).map (fun i => (i.zero, i.size, i.bytes)) = some (some (.agg #[.string ⟨#[]⟩, .int .i64 0, .string ⟨#[]⟩]), 3, 40) := by kernel_rfl
set_option maxHeartbeats 2000000 in
theorem readCountedF (w : World) (b : Nat) (s : ByteArray) (p : Nat) (h : Rd w b s p) (hp : p ≤ s.size) (hs : s.size ≤ 20000) :
    Calls Tryz.prog 106 #[.pointer (some ⟨b, 0, none⟩), .func (.func 107) #[.pointer (some ⟨b, 0, none⟩)] #[]] w fun r w' => RdOut w w' b s (pCounted s (pField s) p) (fun l r => ∃ v, r = .returned v ∧ SL 3 RF (MT w.heap.size [53] w') w' v l) r := by
  obtain ⟨i0, hi, hz0, hz1, hz2⟩ := info_parts Tryz.infoField
  have hb := h.lt
  go_enter Tryz.func106, Tryz.ntmps106
  go_wp2_with fail
  refine (count_r _ b s p h hp (by unfold maxLen; omega)).mono ?_
  rintro r w1 ⟨hg, ⟨hn, q, rfl⟩ | ⟨N, p1, hn, rfl, hr, hp1⟩⟩
  · exact ⟨rfl, hg, Or.inl ⟨by rw [pCounted, hn]; rfl, q, rfl⟩⟩
  have hN := pCount_lt hn
  have HPC := mkHid (pCounted_some (f := pField s) hn)
  clear hn
  go_wp2_with fail
  go_loopw [5, 8] (fun v i wr => ∃ (k : Nat) (zs : List (List Value × FieldD)) (p' : Nat), k ≤ N ∧ i = .int .i64 k ∧ zs.length = k ∧ Hid (pMany (pField s) N p1 = (pMany (pField s) (N - k) p').bind fun y => some (zs.map (·.2) ++ y.1, y.2)) ∧
    wr.ownsRow w.heap.size 53 3 v zs.length (zs.flatMap (·.1)) ∧ Hid (∀ z ∈ zs, z.1.length = 3 ∧ RF (MT w.heap.size [53] wr) wr z.1 z.2) ∧ Rd wr b s p' ∧ p' ≤ s.size ∧ w.grownBy wr (some b)) (fun _ i _ => N - (intOf i).toNat)
  case atStart => exact ⟨0, [], p1, Nat.zero_le _, rfl, rfl, pMany_start _ _ _, World.ownsRow_nil _ _ _ _, (fun z hz => by cases hz), hr, hp1, hg⟩
  case round =>
    obtain ⟨k, zs, p', hk, rfl, hzl, HPM, hown, HZ, hrd, hp', hgr⟩ := hrel
    have hszr := hgr.size
    by_cases hlt : k < N
    rotate_left
    · have HE : Hid (pMany (pField s) N p1 = some (zs.map (·.2), p')) := pMany_end (by rw [HPM.out, show N - k = 0 by omega])
      have HOW := mkHid hown
      have ho2 := hown.2
      clear hown
      rcases ho2 with ⟨rfl, hn0⟩ | ⟨g, cap, cur, rfl, hrest⟩
      all_goals
        try clear hrest
        try clear hn0
        go_wp2_with fail
        go_ret
        exact ⟨hgr, Or.inr ⟨_, p', HPC.out.trans HE.out, ⟨_, rfl, own_SL HOW.out HZ.out (by decide) (by unfold maxLen; omega)⟩, hrd, hp'⟩⟩
    obtain ⟨k', hk'⟩ : ∃ k', N - k = k' + 1 := ⟨N - k - 1, by omega⟩
    have HK' := mkHid hk'
    rw [hk'] at HPM
    clear hk'
    go_wp2_with fail
    refine (field_r _ b s p' hrd hp' hs).mono ?_
    rintro r w2 ⟨hg2, ⟨hx, q, rfl⟩ | ⟨x, p2, hx, rfl, hr2, hp2⟩⟩
    · refine ⟨rfl, grown_trans hgr hg2, Or.inl ⟨?_, q, rfl⟩⟩
      rw [HPC.out]
      exact pMany_fail HPM.out hx
    have HPM2 := mkHid (pMany_step HPM.out hx)
    have HSZ := mkHid (pField_size hs hx)
    have hown2 : w2.ownsRow w.heap.size 53 3 u5 zs.length (zs.flatMap (·.1)) := hown.kept hg2 (own_ne hown hb)
    have hgr2 := grown_trans hgr hg2
    have hsz2 := hgr2.size
    clear hown hgr hg2 hrd hx HPM
    have HO2 := mkHid hown2
    have HZL := mkHid hzl
    clear hzl
    · go_wp2_with (at_builtin; refine wpList_append_own _ rfl _ _ 49 rfl w.heap.size 53 i0 (.agg #[.string ⟨#[]⟩, .int .i64 0, .string ⟨#[]⟩]) 3 40 Tryz.underlying49 hi hz0 hz1 hz2 rfl (by decide) _ _ _ rfl (hown2.alloc _) ⟨w2.heap.size, 0, none⟩ 1 1 [.string x.name, .int .i64 x.kind.kind, .string x.kind.cls] rfl rfl (by intro j u hj; match j, hj with | 0, hj => simp at hj; subst hj; simp [Addr.add] | 1, hj => simp at hj; subst hj; simp [Addr.add] | 2, hj => simp at hj; subst hj; simp [Addr.add] | j + 3, hj => simp at hj) (by intro u hu; simp at hu; rcases hu with rfl | rfl | rfl <;> rfl) (by have := HZL.out; unfold maxLen; omega) (by have := HZL.out; omega) (by simp; omega) ?_)
      intro v' w3 hown3 hg3 _
      have hr3 : Rd w3 b s p2 := (hr2.alloc _).grown hg3 (by intro e; have := (HO2.out.lt b e.symm).1; omega)
      have hgr3 : w.grownBy w3 (some b) := grown_own (grown_alloc hgr2 _) hg3 (fun i e => (HO2.out.lt i e).1)
      have HO := mkHid hown3
      clear hown3 hg3 hgr2 hr2
      have ho4 := HO.out.2
      rcases ho4 with ⟨_, hbad⟩ | ⟨g', cap', cur', rfl, hrest⟩
      · omega
      clear hrest
      go_wp2_with fail
      go_roundw
      case rel =>
        refine ⟨k + 1, zs ++ [([.string x.name, .int .i64 x.kind.kind, .string x.kind.cls], x)], p2, by omega, by go_num, by have := HZL.out; simp; omega, ?_, ?_, ?_, hr3, hp2, hgr3⟩
        · have e := HK'.out
          show _ = _
          rw [HPM2.out, show N - (k + 1) = k' by omega, List.map_append]
          rfl
        · rw [List.length_append, snoc_flat]
          exact HO.out
        · show ∀ z ∈ _, _
          intro z hz
          rcases List.mem_append.1 hz with hz | hz
          · exact HZ.out z hz
          · rw [List.mem_singleton] at hz
            subst hz
            exact ⟨rfl, ⟨rfl, HSZ.out⟩⟩
      case measure => simp [intOf]; omega

theorem Tryz.infoHandler : (Tryz.prog.info? 79).map (fun i => (i.zero, i.size, i.bytes)) = some (some (.agg #[.int .i64 0, .int .i64 0, .int .i64 0, .string ⟨#[]⟩]), 4, 40) := by kernel_rfl
set_option maxHeartbeats 2000000 in
theorem readCountedH (w : World) (b : Nat) (s : ByteArray) (p : Nat) (h : Rd w b s p) (hp : p ≤ s.size) (hs : s.size ≤ 20000) :
    Calls Tryz.prog 157 #[.pointer (some ⟨b, 0, none⟩), .func (.func 158) #[.pointer (some ⟨b, 0, none⟩)] #[]] w fun r w' => RdOut w w' b s (pCounted s (pHand s) p) (fun l r => ∃ v, r = .returned v ∧ SL 4 RH (MT w.heap.size [79] w') w' v l) r := by
  obtain ⟨i0, hi, hz0, hz1, hz2⟩ := info_parts Tryz.infoHandler
  have hb := h.lt
  go_enter Tryz.func157, Tryz.ntmps157
  go_wp2_with fail
  refine (count_r _ b s p h hp (by unfold maxLen; omega)).mono ?_
  rintro r w1 ⟨hg, ⟨hn, q, rfl⟩ | ⟨N, p1, hn, rfl, hr, hp1⟩⟩
  · exact ⟨rfl, hg, Or.inl ⟨by rw [pCounted, hn]; rfl, q, rfl⟩⟩
  have hN := pCount_lt hn
  have HPC := mkHid (pCounted_some (f := pHand s) hn)
  clear hn
  go_wp2_with fail
  go_loopw [5, 8] (fun v i wr => ∃ (k : Nat) (zs : List (List Value × HandD)) (p' : Nat), k ≤ N ∧ i = .int .i64 k ∧ zs.length = k ∧ Hid (pMany (pHand s) N p1 = (pMany (pHand s) (N - k) p').bind fun y => some (zs.map (·.2) ++ y.1, y.2)) ∧
    wr.ownsRow w.heap.size 79 4 v zs.length (zs.flatMap (·.1)) ∧ Hid (∀ z ∈ zs, z.1.length = 4 ∧ RH (MT w.heap.size [79] wr) wr z.1 z.2) ∧ Rd wr b s p' ∧ p' ≤ s.size ∧ w.grownBy wr (some b)) (fun _ i _ => N - (intOf i).toNat)
  case atStart => exact ⟨0, [], p1, Nat.zero_le _, rfl, rfl, pMany_start _ _ _, World.ownsRow_nil _ _ _ _, (fun z hz => by cases hz), hr, hp1, hg⟩
  case round =>
    obtain ⟨k, zs, p', hk, rfl, hzl, HPM, hown, HZ, hrd, hp', hgr⟩ := hrel
    have hszr := hgr.size
    by_cases hlt : k < N
    rotate_left
    · have HE : Hid (pMany (pHand s) N p1 = some (zs.map (·.2), p')) := pMany_end (by rw [HPM.out, show N - k = 0 by omega])
      have HOW := mkHid hown
      have ho2 := hown.2
      clear hown
      rcases ho2 with ⟨rfl, hn0⟩ | ⟨g, cap, cur, rfl, hrest⟩
      all_goals
        try clear hrest
        try clear hn0
        go_wp2_with fail
        go_ret
        exact ⟨hgr, Or.inr ⟨_, p', HPC.out.trans HE.out, ⟨_, rfl, own_SL HOW.out HZ.out (by decide) (by unfold maxLen; omega)⟩, hrd, hp'⟩⟩
    obtain ⟨k', hk'⟩ : ∃ k', N - k = k' + 1 := ⟨N - k - 1, by omega⟩
    have HK' := mkHid hk'
    rw [hk'] at HPM
    clear hk'
    go_wp2_with fail
    refine (handler_r _ b s p' hrd hp' hs).mono ?_
    rintro r w2 ⟨hg2, ⟨hx, q, rfl⟩ | ⟨x, p2, hx, rfl, hr2, hp2⟩⟩
    · refine ⟨rfl, grown_trans hgr hg2, Or.inl ⟨?_, q, rfl⟩⟩
      rw [HPC.out]
      exact pMany_fail HPM.out hx
    have HPM2 := mkHid (pMany_step HPM.out hx)
    have HSZ := mkHid (pHand_size hs hx)
    have hown2 : w2.ownsRow w.heap.size 79 4 u5 zs.length (zs.flatMap (·.1)) := hown.kept hg2 (own_ne hown hb)
    have hgr2 := grown_trans hgr hg2
    have hsz2 := hgr2.size
    clear hown hgr hg2 hrd hx HPM
    have HO2 := mkHid hown2
    have HZL := mkHid hzl
    clear hzl
    · go_wp2_with (at_builtin; refine wpList_append_own _ rfl _ _ 74 rfl w.heap.size 79 i0 (.agg #[.int .i64 0, .int .i64 0, .int .i64 0, .string ⟨#[]⟩]) 4 40 Tryz.underlying74 hi hz0 hz1 hz2 rfl (by decide) _ _ _ rfl (hown2.alloc _) ⟨w2.heap.size, 0, none⟩ 1 1 [.int .i64 x.frm, .int .i64 x.upto, .int .i64 x.loc, .string x.cls] rfl rfl (by intro j u hj; match j, hj with | 0, hj => simp at hj; subst hj; simp [Addr.add] | 1, hj => simp at hj; subst hj; simp [Addr.add] | 2, hj => simp at hj; subst hj; simp [Addr.add] | 3, hj => simp at hj; subst hj; simp [Addr.add] | j + 4, hj => simp at hj) (by intro u hu; simp at hu; rcases hu with rfl | rfl | rfl | rfl <;> rfl) (by have := HZL.out; unfold maxLen; omega) (by have := HZL.out; omega) (by simp; omega) ?_)
      intro v' w3 hown3 hg3 _
      have hr3 : Rd w3 b s p2 := (hr2.alloc _).grown hg3 (by intro e; have := (HO2.out.lt b e.symm).1; omega)
      have hgr3 : w.grownBy w3 (some b) := grown_own (grown_alloc hgr2 _) hg3 (fun i e => (HO2.out.lt i e).1)
      have HO := mkHid hown3
      clear hown3 hg3 hgr2 hr2
      have ho4 := HO.out.2
      rcases ho4 with ⟨_, hbad⟩ | ⟨g', cap', cur', rfl, hrest⟩
      · omega
      clear hrest
      go_wp2_with fail
      go_roundw
      case rel =>
        refine ⟨k + 1, zs ++ [([.int .i64 x.frm, .int .i64 x.upto, .int .i64 x.loc, .string x.cls], x)], p2, by omega, by go_num, by have := HZL.out; simp; omega, ?_, ?_, ?_, hr3, hp2, hgr3⟩
        · have e := HK'.out
          show _ = _
          rw [HPM2.out, show N - (k + 1) = k' by omega, List.map_append]
          rfl
        · rw [List.length_append, snoc_flat]
          exact HO.out
        · show ∀ z ∈ _, _
          intro z hz
          rcases List.mem_append.1 hz with hz | hz
          · exact HZ.out z hz
          · rw [List.mem_singleton] at hz
            subst hz
            exact ⟨rfl, ⟨rfl, HSZ.out⟩⟩
      case measure => simp [intOf]; omega

end Go.Proofs.YtaekpdcnnkmahaaGreatDoor
