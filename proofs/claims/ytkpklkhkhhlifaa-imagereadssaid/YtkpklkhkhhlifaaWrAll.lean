/- The contracts of what writes lists of kinds, fields and handlers. -/
import Derived.Test.YtkpklkhkhhlifaaWr
import Derived.Test.YtkpklkhkhhlifaaChkMeth
namespace Go.Proofs.Ytkpklkhkhhlifaa
open Go.RowKit

theorem flat_len {α : Type} (f : α → List UInt8) (l : List α) (k : Nat) (hk : k < l.length) : ((l.take k).flatMap f).length + (f l[k]).length ≤ (l.flatMap f).length := by
  have e : l.flatMap f = (l.take (k + 1)).flatMap f ++ (l.drop (k + 1)).flatMap f := by rw [← List.flatMap_append, List.take_append_drop]
  have e2 : l.take (k + 1) = l.take k ++ [l[k]] := (List.take_append_getElem hk).symm
  rw [e, e2, List.flatMap_append, List.length_append, List.length_append]
  simp
theorem flat_snoc {α : Type} (f : α → List UInt8) (l : List α) (k : Nat) (hk : k < l.length) : (l.take (k + 1)).flatMap f = (l.take k).flatMap f ++ f l[k] := by
  rw [← List.take_append_getElem hk, List.flatMap_append]
  simp

set_option maxHeartbeats 1000000 in
theorem writeAllK (w : World) (q base B : Nat) (bs : List UInt8) (l : List KindD) (v : Value) (hv : SL 2 RK (· < B) w v l) (hB : B ≤ q) (h : Bd w q base bs) (hl : bs.length + (l.flatMap wKind).length ≤ 70368744177664) :
    Calls Try.prog 76 #[v, .func (.func 58) #[.pointer (some ⟨q, 0, none⟩)] #[]] w fun r w' => r = .returned (.tuple #[]) ∧ KB base q w w' ∧ Bd w' q base (bs ++ l.flatMap wKind) := by
  have hlt := h.lt
  have hle := h.le
  have HV := mkHid hv
  obtain ⟨ao, cl, rfl, hcl, hll, -⟩ := hv
  unfold maxLen at hll
  go_enter Try.func76, Try.ntmps76
  go_wp2
  go_loopw [8] (fun i wr => ∃ k : Nat, k ≤ l.length ∧ i = .int .i64 k ∧ KB base q w wr ∧ Bd wr q base (bs ++ (l.take k).flatMap wKind)) (fun i _ => l.length - (intOf i).toNat)
  case atStart => exact ⟨0, Nat.zero_le _, rfl, KB.refl _ _ _, by simpa using h⟩
  case round =>
    obtain ⟨k, hk, rfl, hkb, hbd⟩ := hrel
    have hszr := hkb.size
    by_cases hltk : k < l.length
    · have hkp : Kp (· < B) w wr := ⟨hkb.size, fun b hb _ => hkb.block b (by omega) (by omega)⟩
      have hfl := flat_len wKind l k hltk
      have hfs := flat_snoc wKind l k hltk
      obtain ⟨b, off, rfl, hbl, e0, e1, es⟩ := (HV.out.keptK hkp).atK k hltk
      have hBr : ∀ o, Below wr.heap.size wr (wr.alloc o) := fun o => (Below.refl _ _).alloc (Nat.le_refl _) o
      have HBR := mkHid hBr
      have HBD := mkHid hbd
      have hler := hbd.le
      have HFS := mkHid hfs
      clear hBr hbd hfs hkp
      go_wp2_with fail
      refine (kind_w _ q base (bs ++ (l.take k).flatMap wKind) l[k] (HBD.out.below (HBR.out _)) (by rw [List.length_append]; omega)).mono ?_
      rintro r w1 ⟨rfl, hk1, hb1⟩
      have hkb1 : KB base q w w1 := hkb.trans ((KB.below (HBR.out _) hler).trans hk1)
      clear hk1 hkb HBD HBR e0 e1
      go_wp2_with fail
      go_roundw
      case rel => exact ⟨k + 1, by omega, by go_num, hkb1, by rw [HFS.out, ← List.append_assoc]; exact hb1⟩
      case measure => simp [intOf]; omega
    · go_wp2_with fail
      go_end0
      exact ⟨rfl, hkb, by rw [List.take_of_length_le (by omega)] at hbd; exact hbd⟩

theorem writeCountedK (w : World) (q base B : Nat) (bs : List UInt8) (l : List KindD) (v : Value) (hv : SL 2 RK (· < B) w v l) (hB : B ≤ q) (h : Bd w q base bs) (hl : bs.length + (wCounted wKind l).length ≤ 70368744177664) :
    Calls Try.prog 61 #[.pointer (some ⟨q, 0, none⟩), v, .func (.func 58) #[.pointer (some ⟨q, 0, none⟩)] #[]] w fun r w' => r = .returned (.tuple #[]) ∧ KB base q w w' ∧ Bd w' q base (bs ++ wCounted wKind l) := by
  have hlt := h.lt
  have hle := h.le
  rw [wCounted, List.length_cons] at hl
  have HV := mkHid hv
  obtain ⟨ao, cl, rfl, hcl, hll, -⟩ := hv
  go_enter Try.func61, Try.ntmps61
  go_wp2_with fail
  refine (count_b _ q base bs l.length h (by omega)).mono ?_
  rintro r w1 ⟨rfl, hk1, hb1⟩
  go_wp2_with fail
  refine (writeAllK _ q base B (bs ++ [toB l.length]) l _ (HV.out.keptK ⟨hk1.size, fun b hb _ => hk1.block b (by omega) (by omega)⟩) hB hb1 (by simp only [List.length_append, List.length_cons, List.length_nil]; omega)).mono ?_
  rintro r w2 ⟨rfl, hk2, hb2⟩
  go_wp2_with fail
  go_end0
  exact ⟨rfl, hk1.trans hk2, by rw [wCounted, List.append_cons]; exact hb2⟩

set_option maxHeartbeats 1000000 in
theorem writeAllF (w : World) (q base B : Nat) (bs : List UInt8) (l : List FieldD) (v : Value) (hv : SL 3 RF (· < B) w v l) (hB : B ≤ q) (h : Bd w q base bs) (hl : bs.length + (l.flatMap wField).length ≤ 70368744177664) :
    Calls Try.prog 57 #[v, .func (.func 44) #[.pointer (some ⟨q, 0, none⟩)] #[]] w fun r w' => r = .returned (.tuple #[]) ∧ KB base q w w' ∧ Bd w' q base (bs ++ l.flatMap wField) := by
  have hlt := h.lt
  have hle := h.le
  have HV := mkHid hv
  obtain ⟨ao, cl, rfl, hcl, hll, -⟩ := hv
  unfold maxLen at hll
  go_enter Try.func57, Try.ntmps57
  go_wp2
  go_loopw [8] (fun i wr => ∃ k : Nat, k ≤ l.length ∧ i = .int .i64 k ∧ KB base q w wr ∧ Bd wr q base (bs ++ (l.take k).flatMap wField)) (fun i _ => l.length - (intOf i).toNat)
  case atStart => exact ⟨0, Nat.zero_le _, rfl, KB.refl _ _ _, by simpa using h⟩
  case round =>
    obtain ⟨k, hk, rfl, hkb, hbd⟩ := hrel
    have hszr := hkb.size
    by_cases hltk : k < l.length
    · have hkp : Kp (· < B) w wr := ⟨hkb.size, fun b hb _ => hkb.block b (by omega) (by omega)⟩
      have hfl := flat_len wField l k hltk
      have hfs := flat_snoc wField l k hltk
      obtain ⟨b, off, rfl, hbl, e0, e1, e2, es, es2⟩ := (HV.out.keptF hkp).atF k hltk
      have hBr : ∀ o, Below wr.heap.size wr (wr.alloc o) := fun o => (Below.refl _ _).alloc (Nat.le_refl _) o
      have HBR := mkHid hBr
      have HBD := mkHid hbd
      have hler := hbd.le
      have HFS := mkHid hfs
      clear hBr hbd hfs hkp
      go_wp2_with fail
      refine (field_w _ q base (bs ++ (l.take k).flatMap wField) l[k] (HBD.out.below (HBR.out _)) (by rw [List.length_append]; omega)).mono ?_
      rintro r w1 ⟨rfl, hk1, hb1⟩
      have hkb1 : KB base q w w1 := hkb.trans ((KB.below (HBR.out _) hler).trans hk1)
      clear hk1 hkb HBD HBR e0 e1 e2
      go_wp2_with fail
      go_roundw
      case rel => exact ⟨k + 1, by omega, by go_num, hkb1, by rw [HFS.out, ← List.append_assoc]; exact hb1⟩
      case measure => simp [intOf]; omega
    · go_wp2_with fail
      go_end0
      exact ⟨rfl, hkb, by rw [List.take_of_length_le (by omega)] at hbd; exact hbd⟩

theorem writeCountedF (w : World) (q base B : Nat) (bs : List UInt8) (l : List FieldD) (v : Value) (hv : SL 3 RF (· < B) w v l) (hB : B ≤ q) (h : Bd w q base bs) (hl : bs.length + (wCounted wField l).length ≤ 70368744177664) :
    Calls Try.prog 43 #[.pointer (some ⟨q, 0, none⟩), v, .func (.func 44) #[.pointer (some ⟨q, 0, none⟩)] #[]] w fun r w' => r = .returned (.tuple #[]) ∧ KB base q w w' ∧ Bd w' q base (bs ++ wCounted wField l) := by
  have hlt := h.lt
  have hle := h.le
  rw [wCounted, List.length_cons] at hl
  have HV := mkHid hv
  obtain ⟨ao, cl, rfl, hcl, hll, -⟩ := hv
  go_enter Try.func43, Try.ntmps43
  go_wp2_with fail
  refine (count_b _ q base bs l.length h (by omega)).mono ?_
  rintro r w1 ⟨rfl, hk1, hb1⟩
  go_wp2_with fail
  refine (writeAllF _ q base B (bs ++ [toB l.length]) l _ (HV.out.keptF ⟨hk1.size, fun b hb _ => hk1.block b (by omega) (by omega)⟩) hB hb1 (by simp only [List.length_append, List.length_cons, List.length_nil]; omega)).mono ?_
  rintro r w2 ⟨rfl, hk2, hb2⟩
  go_wp2_with fail
  go_end0
  exact ⟨rfl, hk1.trans hk2, by rw [wCounted, List.append_cons]; exact hb2⟩

set_option maxHeartbeats 1000000 in
theorem writeAllH (w : World) (q base B : Nat) (bs : List UInt8) (l : List HandD) (v : Value) (hv : SL 4 RH (· < B) w v l) (hB : B ≤ q) (h : Bd w q base bs) (hl : bs.length + (l.flatMap wHand).length ≤ 70368744177664) :
    Calls Try.prog 77 #[v, .func (.func 64) #[.pointer (some ⟨q, 0, none⟩)] #[]] w fun r w' => r = .returned (.tuple #[]) ∧ KB base q w w' ∧ Bd w' q base (bs ++ l.flatMap wHand) := by
  have hlt := h.lt
  have hle := h.le
  have HV := mkHid hv
  obtain ⟨ao, cl, rfl, hcl, hll, -⟩ := hv
  unfold maxLen at hll
  go_enter Try.func77, Try.ntmps77
  go_wp2
  go_loopw [8] (fun i wr => ∃ k : Nat, k ≤ l.length ∧ i = .int .i64 k ∧ KB base q w wr ∧ Bd wr q base (bs ++ (l.take k).flatMap wHand)) (fun i _ => l.length - (intOf i).toNat)
  case atStart => exact ⟨0, Nat.zero_le _, rfl, KB.refl _ _ _, by simpa using h⟩
  case round =>
    obtain ⟨k, hk, rfl, hkb, hbd⟩ := hrel
    have hszr := hkb.size
    by_cases hltk : k < l.length
    · have hkp : Kp (· < B) w wr := ⟨hkb.size, fun b hb _ => hkb.block b (by omega) (by omega)⟩
      have hfl := flat_len wHand l k hltk
      have hfs := flat_snoc wHand l k hltk
      obtain ⟨b, off, rfl, hbl, e0, e1, e2, e3, es⟩ := (HV.out.keptH hkp).atH k hltk
      have hBr : ∀ o, Below wr.heap.size wr (wr.alloc o) := fun o => (Below.refl _ _).alloc (Nat.le_refl _) o
      have HBR := mkHid hBr
      have HBD := mkHid hbd
      have hler := hbd.le
      have HFS := mkHid hfs
      clear hBr hbd hfs hkp
      go_wp2_with fail
      refine (handler_w _ q base (bs ++ (l.take k).flatMap wHand) l[k] (HBD.out.below (HBR.out _)) (by rw [List.length_append]; omega)).mono ?_
      rintro r w1 ⟨rfl, hk1, hb1⟩
      have hkb1 : KB base q w w1 := hkb.trans ((KB.below (HBR.out _) hler).trans hk1)
      clear hk1 hkb HBD HBR e0 e1 e2 e3
      go_wp2_with fail
      go_roundw
      case rel => exact ⟨k + 1, by omega, by go_num, hkb1, by rw [HFS.out, ← List.append_assoc]; exact hb1⟩
      case measure => simp [intOf]; omega
    · go_wp2_with fail
      go_end0
      exact ⟨rfl, hkb, by rw [List.take_of_length_le (by omega)] at hbd; exact hbd⟩

theorem writeCountedH (w : World) (q base B : Nat) (bs : List UInt8) (l : List HandD) (v : Value) (hv : SL 4 RH (· < B) w v l) (hB : B ≤ q) (h : Bd w q base bs) (hl : bs.length + (wCounted wHand l).length ≤ 70368744177664) :
    Calls Try.prog 63 #[.pointer (some ⟨q, 0, none⟩), v, .func (.func 64) #[.pointer (some ⟨q, 0, none⟩)] #[]] w fun r w' => r = .returned (.tuple #[]) ∧ KB base q w w' ∧ Bd w' q base (bs ++ wCounted wHand l) := by
  have hlt := h.lt
  have hle := h.le
  rw [wCounted, List.length_cons] at hl
  have HV := mkHid hv
  obtain ⟨ao, cl, rfl, hcl, hll, -⟩ := hv
  go_enter Try.func63, Try.ntmps63
  go_wp2_with fail
  refine (count_b _ q base bs l.length h (by omega)).mono ?_
  rintro r w1 ⟨rfl, hk1, hb1⟩
  go_wp2_with fail
  refine (writeAllH _ q base B (bs ++ [toB l.length]) l _ (HV.out.keptH ⟨hk1.size, fun b hb _ => hk1.block b (by omega) (by omega)⟩) hB hb1 (by simp only [List.length_append, List.length_cons, List.length_nil]; omega)).mono ?_
  rintro r w2 ⟨rfl, hk2, hb2⟩
  go_wp2_with fail
  go_end0
  exact ⟨rfl, hk1.trans hk2, by rw [wCounted, List.append_cons]; exact hb2⟩

end Go.Proofs.Ytkpklkhkhhlifaa
