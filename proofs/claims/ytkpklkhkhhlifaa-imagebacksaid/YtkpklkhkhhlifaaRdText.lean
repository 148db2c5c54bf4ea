/- The contracts of the reader's methods on numbers and texts. -/
import Derived.Test.YtkpklkhkhhlifaaRdLeaf
namespace Go.Proofs.Ytkpklkhkhhlifaa
open Go.RowKit

/-- The numbers of what strings.Clone calls, in this program. -/
def renC : Shelf.Ren := ⟨fun k => if k = 25 then 91 else k, fun k => if k = 37 then 36 else if k = 47 then 122 else k, fun k => k⟩
theorem laysC : LaysPu.n25 Try.prog renC where
  mixed := by kernel_rfl
  f25 := by kernel_rfl
  t0 := by kernel_rfl
  a0 := fun _ => by kernel_rfl
  z0 := fun _ => by kernel_rfl
  v0 := fun _ => by kernel_rfl
  i0 := by kernel_rfl
  t3 := by kernel_rfl
  a3 := fun _ => by kernel_rfl
  z3 := fun _ => by kernel_rfl
  v3 := fun _ => by kernel_rfl
  i3 := by kernel_rfl
  t4 := by kernel_rfl
  a4 := fun _ => by kernel_rfl
  z4 := fun _ => by kernel_rfl
  v4 := fun _ => by kernel_rfl
  i4 := by kernel_rfl
  t5 := by kernel_rfl
  a5 := fun _ => by kernel_rfl
  z5 := fun _ => by kernel_rfl
  v5 := fun _ => by kernel_rfl
  i5 := by kernel_rfl
  t9 := by kernel_rfl
  a9 := fun _ => by kernel_rfl
  z9 := fun _ => by kernel_rfl
  v9 := fun _ => by kernel_rfl
  i9 := by kernel_rfl
  t37 := by kernel_rfl
  a37 := fun _ => by kernel_rfl
  z37 := fun _ => by kernel_rfl
  v37 := fun _ => by kernel_rfl
  i37 := by kernel_rfl
  t47 := by kernel_rfl
  a47 := fun _ => by kernel_rfl
  z47 := fun _ => by kernel_rfl
  v47 := fun _ => by kernel_rfl
  i47 := by kernel_rfl

theorem cloneIn_any (s : ByteArray) (w : World) (hlim : s.size ≤ 281474976710656) : Calls Try.prog 91 #[.string s] w fun e w' => e = .returned (.string s) ∧ Below w.heap.size w w' := AnyPu.stringslite_Clone laysC s w hlim
theorem clone_any (s : ByteArray) (w : World) (hlim : s.size ≤ 281474976710656) : Calls Try.prog 90 #[.string s] w fun e w' => e = .returned (.string s) ∧ Below w.heap.size w w' := by
  go_enter Try.func90, Try.ntmps90
  go_wp2_with fail
  refine (cloneIn_any s _ hlim).mono ?_
  rintro r w1 ⟨rfl, hB⟩
  go_wp2
  go_ret
  exact ⟨rfl, hB⟩

/-- What a reading ends with: it gives up, or hands back what was read. -/
def RdOut {α : Type} (w w' : World) (b : Nat) (s : ByteArray) (res : Option (α × Nat)) (E : α → Ending → Prop) (r : Ending) : Prop :=
  w.grownBy w' (some b) ∧ ((res = none ∧ ∃ q, r = .panicked [wrongV 1 q]) ∨ ∃ x p', res = some (x, p') ∧ E x r ∧ Rd w' b s p' ∧ p' ≤ s.size)
theorem grown_below {w w1 w2 : World} {b : Nat} (h : w.grownBy w1 (some b)) (k : Below w1.heap.size w1 w2) : w.grownBy w2 (some b) :=
  ⟨k.os.trans h.os, k.tape.trans h.tape, k.output.trans h.output, Nat.le_trans h.size k.size, fun i hi hne => (k.block i (Nat.lt_of_lt_of_le hi h.size)).trans (h.block i hi hne)⟩
theorem Rd.below {w w' : World} {b : Nat} {s : ByteArray} {p : Nat} (h : Rd w b s p) (k : Below w.heap.size w w') : Rd w' b s p :=
  ⟨(k.cell (p := ⟨b, 0, none⟩) h.lt).trans h.text, (k.cell (p := ⟨b, 1, none⟩) h.lt).trans h.at_, (k.frozen (p := ⟨b, 1, none⟩) h.lt).trans h.fz⟩

theorem count_r (w : World) (b : Nat) (s : ByteArray) (p : Nat) (h : Rd w b s p) (hp : p ≤ s.size) (hs : s.size ≤ maxLen) :
    Calls Try.prog 69 #[.pointer (some ⟨b, 0, none⟩)] w fun r w' => RdOut w w' b s (pCount s p) (fun n r => r = .returned (.int .i64 (n : Nat))) r := by
  go_enter Try.func69, Try.ntmps69
  go_wp2_with fail
  refine (take_r _ b s p 1 h hp hs (by omega)).mono ?_
  rintro r w' ⟨hg, ⟨hn, rfl⟩ | ⟨hn, rfl, hr⟩⟩
  · exact ⟨rfl, hg, Or.inl ⟨by rw [pCount, if_neg (by omega)], _, rfl⟩⟩
  have hz : (s.extract p (p + 1)).size = 1 := by simp; omega
  have HN := mkHid hn
  have HG := mkHid hg
  have HR := mkHid hr
  clear hn hg hr
  go_wp2
  go_ret
  refine ⟨HG.out, Or.inr ⟨bt s p, p + 1, by rw [pCount, if_pos (by have := HN.out; omega)], ?_, HR.out, HN.out⟩⟩
  have e := ext_get s p 1 0 (by omega) (by have := HN.out; omega)
  show Ending.returned (.int .i64 (wrap64 ((s.extract p (p + 1))[0].toNat : Int))) = _
  rw [e, byte_w, bt_eq s p (by have := HN.out; omega)]
  rfl

theorem number_r (w : World) (b : Nat) (s : ByteArray) (p : Nat) (h : Rd w b s p) (hp : p ≤ s.size) (hs : s.size ≤ maxLen) :
    Calls Try.prog 87 #[.pointer (some ⟨b, 0, none⟩)] w fun r w' => RdOut w w' b s (pNumber s p) (fun n r => r = .returned (.int .i64 (n : Nat))) r := by
  go_enter Try.func87, Try.ntmps87
  go_wp2_with fail
  refine (take_r _ b s p 2 h hp hs (by omega)).mono ?_
  rintro r w' ⟨hg, ⟨hn, rfl⟩ | ⟨hn, rfl, hr⟩⟩
  · exact ⟨rfl, hg, Or.inl ⟨by rw [pNumber, if_neg (by omega)], _, rfl⟩⟩
  have hz : (s.extract p (p + 2)).size = 2 := by simp; omega
  have HN := mkHid hn
  have HG := mkHid hg
  have HR := mkHid hr
  clear hn hg hr
  go_wp2
  go_quiet (fail)
  go_wp2
  go_ret
  refine ⟨grown_drewN HG.out _, Or.inr ⟨256 * bt s p + bt s (p + 1), p + 2, by rw [pNumber, if_pos HN.out], ?_, HR.out.drewN _, HN.out⟩⟩
  have h2 := HN.out
  have e0 := ext_get s p 2 0 (by omega) (by omega)
  have e1 := ext_get s p 2 1 (by omega) (by omega)
  show Ending.returned (.int .i64 (bits BinOp.or IntKind.i64 (wrap64 (wrap64 ((s.extract p (p + 2))[0].toNat : Int) * 256)) (wrap64 ((s.extract p (p + 2))[1].toNat : Int)))) = _
  rw [e0, e1, byte_w, byte_w, byte_w8, or_i64 _ _ (UInt8.toNat_lt _) (UInt8.toNat_lt _), bt_eq s p (by omega), bt_eq s (p + 1) (by omega)]
  simp

theorem bytes_r (w : World) (b : Nat) (s : ByteArray) (p n : Nat) (h : Rd w b s p) (hp : p ≤ s.size) (hs : s.size ≤ 20000) (hn : n ≤ 100000) :
    Calls Try.prog 83 #[.pointer (some ⟨b, 0, none⟩), .int .i64 n] w fun r w' => RdOut w w' b s (pBytes s n p) (fun t r => r = .returned (.string t)) r := by
  go_enter Try.func83, Try.ntmps83
  go_wp2_with fail
  refine (take_r _ b s p n h hp (by unfold maxLen; omega) hn).mono ?_
  rintro r w' ⟨hg, ⟨hn, rfl⟩ | ⟨hn, rfl, hr⟩⟩
  · exact ⟨rfl, hg, Or.inl ⟨by rw [pBytes, if_neg hn], _, rfl⟩⟩
  go_wp2_with fail
  refine (clone_any _ _ (by simp; omega)).mono ?_
  rintro r w2 ⟨rfl, hB⟩
  have HG := mkHid (grown_below hg hB)
  have HR := mkHid (hr.below hB)
  clear hg hr hB
  go_wp2
  go_ret
  exact ⟨HG.out, Or.inr ⟨_, p + n, by rw [pBytes, if_pos hn], rfl, HR.out, hn⟩⟩

theorem text_r (w : World) (b : Nat) (s : ByteArray) (p : Nat) (h : Rd w b s p) (hp : p ≤ s.size) (hs : s.size ≤ 20000) :
    Calls Try.prog 70 #[.pointer (some ⟨b, 0, none⟩)] w fun r w' => RdOut w w' b s (pText s p) (fun t r => r = .returned (.string t)) r := by
  go_enter Try.func70, Try.ntmps70
  go_wp2_with fail
  refine (count_r _ b s p h hp (by unfold maxLen; omega)).mono ?_
  rintro r w1 ⟨hg, ⟨hn, q, rfl⟩ | ⟨n, p1, hn, rfl, hr, hp1⟩⟩
  · exact ⟨rfl, hg, Or.inl ⟨by rw [pText, hn]; rfl, q, rfl⟩⟩
  have hn256 : n ≤ 100000 := by
    unfold pCount at hn
    split at hn
    · cases hn
      have := bt_lt s p
      omega
    · cases hn
  go_wp2_with fail
  refine (bytes_r _ b s p1 n hr hp1 hs hn256).mono ?_
  rintro r w2 ⟨hg2, ⟨hn2, q, rfl⟩ | ⟨t, p2, hn2, rfl, hr2, hp2⟩⟩
  · exact ⟨rfl, grown_trans hg hg2, Or.inl ⟨by rw [pText, hn]; exact hn2, q, rfl⟩⟩
  have HX := mkHid (show pText s p = some (t, p2) by rw [pText, hn]; exact hn2)
  have HG := mkHid (grown_trans hg hg2)
  have HR := mkHid hr2
  clear hn hn2 hg hg2 hr hr2
  go_wp2
  go_ret
  exact ⟨HG.out, Or.inr ⟨t, p2, HX.out, rfl, HR.out, hp2⟩⟩
end Go.Proofs.Ytkpklkhkhhlifaa
