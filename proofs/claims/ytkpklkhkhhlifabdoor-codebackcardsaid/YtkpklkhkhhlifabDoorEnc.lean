/- The contracts of what writes all operations, and of Encode. -/
import Derived.Test.YtkpklkhkhhlifabDoorEncIns
import Derived.Test.YtkpklkhkhhlifabDoorPlace
namespace Go.Proofs.YtkpklkhkhhlifabDoor
open Go.RowKit

def fitsB (k : Nat) (a b : Int) : Bool := decide (lowOf k ≤ a) && decide (a ≤ highOf k) && decide (0 ≤ b) && decide (b ≤ secondOf k)
theorem fitsB_iff (k : Nat) (a b : Int) : fitsB k a b = true ↔ fitsIn k a b := by
  simp [fitsB, fitsIn, and_assoc]
/-- One operation, behind the bytes that there are. -/
def encOne (bs : List UInt8) (x : Op4) : Except Int (List UInt8) :=
  if 0 ≤ x.op ∧ x.op < 37 then
    if fitsB (kOf x.op.toNat) x.a x.b = true then
      if x.loc = bs.length then .ok (bs ++ toB x.op :: tailOf (kOf x.op.toNat) x.a x.b) else .error 4
    else .error 3
  else .error 7
def encAll : List Op4 → List UInt8 → Except Int (List UInt8)
  | [], bs => .ok bs
  | x :: r, bs => match encOne bs x with
    | .error e => .error e
    | .ok bs' => encAll r bs'
theorem encOne_no {bs : List UInt8} {x : Op4} {e : Int} (h : EncNo bs x e) : encOne bs x = .error e := by
  unfold encOne
  rcases h with ⟨h1, rfl⟩ | ⟨h1, h2, rfl⟩ | ⟨h1, h2, h3, rfl⟩
  · rw [if_neg h1]
  · rw [if_pos h1, if_neg (by rw [fitsB_iff]; exact h2)]
  · rw [if_pos h1, if_pos ((fitsB_iff _ _ _).2 h2), if_neg h3]
theorem encOne_ok {bs bs' : List UInt8} {x : Op4} (h : EncOk bs x bs') : encOne bs x = .ok bs' := by
  obtain ⟨h1, h2, h3, rfl⟩ := h
  unfold encOne
  rw [if_pos h1, if_pos ((fitsB_iff _ _ _).2 h2), if_pos h3]
theorem drop_get4 (l : List Op4) (k : Nat) (hk : k < l.length) : l.drop k = get4 l k :: l.drop (k + 1) := by
  have e : l[k] = get4 l k := by simp [get4, hk]
  rw [List.drop_eq_getElem_cons hk, e]
theorem encAll_no {l : List Op4} {k : Nat} {bs : List UInt8} {e : Int} (hk : k < l.length) (h : EncNo bs (get4 l k) e) : encAll (l.drop k) bs = .error e := by
  rw [drop_get4 l k hk, encAll, encOne_no h]
theorem encAll_ok {l : List Op4} {k : Nat} {bs bs' : List UInt8} (hk : k < l.length) (h : EncOk bs (get4 l k) bs') : encAll (l.drop k) bs = encAll (l.drop (k + 1)) bs' := by
  rw [drop_get4 l k hk, encAll, encOne_ok h]
theorem encAll_end {l : List Op4} {k : Nat} {bs : List UInt8} (hk : ¬ k < l.length) : encAll (l.drop k) bs = .ok bs := by
  rw [List.drop_of_length_le (by omega)]
  rfl
theorem tailOf_len (k : Nat) (a b : Int) : (tailOf k a b).length ≤ 2 := by
  unfold tailOf
  split
  · simp
  · split
    · simp
    · split
      · simp
      · split <;> simp
theorem encOk_len {bs bs' : List UInt8} {x : Op4} (h : EncOk bs x bs') : bs'.length ≤ bs.length + 3 := by
  obtain ⟨_, _, _, rfl⟩ := h
  have := tailOf_len (kOf x.op.toNat) x.a x.b
  simp
  omega

theorem KB.tabs {base q : Nat} {w w' : World} (h : KB base q w w') (hT : Tabs w) (hb : 1 < base) (hq : 1 < q) : Tabs w' := hT.kept (h.block 0 (by omega) (by omega)) (h.block 1 hb (by omega)) h.size
theorem KB.rooms {base q : Nat} {w w' : World} (h : KB base q w w') (hR : Rooms w) (hb : 1 < base) (hq : 1 < q) : Rooms w' := hR.kept (h.block 1 hb (by omega))
theorem KB.has {base q : Nat} {w w' : World} (h : KB base q w w') {b off : Nat} {l : List Op4} (hh : Has w b off l) (hb : b < base) (hq : b ≠ q) : Has w' b off l :=
  ⟨fun k hk => (World.cell?_of_block (a := ⟨b, _, none⟩) (h.block b hb hq)).trans (hh.c0 k hk), fun k hk => (World.cell?_of_block (a := ⟨b, _, none⟩) (h.block b hb hq)).trans (hh.c1 k hk),
   fun k hk => (World.cell?_of_block (a := ⟨b, _, none⟩) (h.block b hb hq)).trans (hh.c2 k hk), fun k hk => (World.cell?_of_block (a := ⟨b, _, none⟩) (h.block b hb hq)).trans (hh.c3 k hk), Nat.lt_of_lt_of_le hh.lt h.size⟩

theorem writeAll_nil (w : World) (ao : Option Addr) (cap : Nat) (f : Value) : Calls Tryd.prog 13 #[.slice ao 0 cap, f] w fun r w' => r = .returned (.tuple #[]) ∧ w' = w := by
  go_enter Tryd.func13, Tryd.ntmps13
  go_wp2
  go_loop [8] (fun i => i = .int .i64 0) (fun _ => 0)
  case atStart => rfl
  case round =>
    obtain rfl := hrel
    go_wp2
    go_end0
    exact ⟨rfl, rfl⟩

set_option maxHeartbeats 1000000 in
theorem writeAll_any (w : World) (q base b off cap : Nat) (l : List Op4) (hT : Tabs w) (hR : Rooms w) (h : Bd w q base []) (hh : Has w b off l) (hbb : b < base) (hbq : b ≠ q) (hl : l.length ≤ 4398046511104) (hq : 1 < q) :
    Calls Tryd.prog 13 #[.slice (some ⟨b, off, none⟩) l.length cap, .func (.func 14) #[.pointer (some ⟨q, 0, none⟩)] #[]] w fun r w' => KB base q w w' ∧
      ((∃ e p, encAll l [] = .error e ∧ r = .panicked [wrongV e p]) ∨ (∃ bs, encAll l [] = .ok bs ∧ r = .returned (.tuple #[]) ∧ Bd w' q base bs)) := by
  have hlt := h.lt
  have hle := h.le
  go_enter Tryd.func13, Tryd.ntmps13
  go_wp2
  go_loopw [8] (fun i wr => ∃ (k : Nat) (bs : List UInt8), k ≤ l.length ∧ i = .int .i64 k ∧ bs.length ≤ 3 * k ∧ Hid (encAll (l.drop k) bs = encAll l []) ∧ KB base q w wr ∧ Bd wr q base bs) (fun i _ => l.length - (intOf i).toNat)
  case atStart => exact ⟨0, [], Nat.zero_le _, rfl, by simp, rfl, KB.refl _ _ _, h⟩
  case round =>
    obtain ⟨k, bs, hk, rfl, hbl, HE, hkb, hbd⟩ := hrel
    by_cases hltk : k < l.length
    · have h' := hkb.has hh hbb hbq
      have c0 := h'.c0 k hltk
      have c1 := h'.c1 k hltk
      have c2 := h'.c2 k hltk
      have c3 := h'.c3 k hltk
      have hBr : ∀ o, Below wr.heap.size wr (wr.alloc o) := fun o => (Below.refl _ _).alloc (Nat.le_refl _) o
      have hler := hbd.le
      go_wp2_with fail
      refine (encIns_any _ q base bs (get4 l k) ?_ ?_ (hbd.below (hBr _)) (by omega) hq).mono ?_
      · exact (hkb.tabs hT (by omega) hq).below (hBr _)
      · exact (hkb.rooms hR (by omega) hq).kept ((hBr _).block 1 (by omega))
      rintro r w1 ⟨hk1, hr⟩
      have hkb1 : KB base q w w1 := hkb.trans ((KB.below (hBr _) hler).trans hk1)
      rcases hr with ⟨e, p, hno, rfl⟩ | ⟨bs', hok, rfl, hbd'⟩
      · exact ⟨rfl, hkb1, Or.inl ⟨e, p, HE.out.symm.trans (encAll_no hltk hno), rfl⟩⟩
      · have HOK := mkHid hok
        clear hok hk1 hkb hbd c0 c1 c2 c3
        go_wp2_with fail
        go_roundw
        case rel => exact ⟨k + 1, bs', by omega, by go_num, by have := encOk_len HOK.out; omega, (encAll_ok hltk HOK.out).symm.trans HE.out, hkb1, hbd'⟩
        case measure => simp [intOf]; omega
    · go_wp2_with fail
      go_end0
      exact ⟨hkb, Or.inr ⟨bs, HE.out.symm.trans (encAll_end hltk), rfl, hbd⟩⟩
end Go.Proofs.YtkpklkhkhhlifabDoor
