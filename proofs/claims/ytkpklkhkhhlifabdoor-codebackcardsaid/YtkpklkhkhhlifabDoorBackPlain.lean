/- What is decoded is encoded as it was: the plain part. -/
import Derived.Test.YtkpklkhkhhlifabDoorEncode
namespace Go.Proofs.YtkpklkhkhhlifabDoor
open Go.RowKit

/-- The operations from a byte on. -/
def Ops (s : ByteArray) : Nat → List Op4 → Prop
  | p, [] => p = s.size
  | p, x :: m => p < s.size ∧ bt s p < 37 ∧ nextAt s p ≤ s.size ∧ x = oneAt s p ∧ Ops s (nextAt s p) m

theorem scan_ops (s : ByteArray) : ∀ (f p : Nat) (acc l : List Op4), p ≤ s.size → s.size - p ≤ f → scan s f p acc = .ok l → ∃ m, l = acc ++ m ∧ Ops s p m
  | 0, p, acc, l, hp, hf, h => by
    simp only [scan, Except.ok.injEq] at h
    exact ⟨[], by simp [h], by show p = s.size; omega⟩
  | f + 1, p, acc, l, hp, hf, h => by
    unfold scan at h
    split at h
    · rename_i hlt
      split at h
      · cases h
      · rename_i h37
        split at h
        · cases h
        · rename_i hn
          obtain ⟨m, hm, ho⟩ := scan_ops s f (nextAt s p) _ l (by omega) (by unfold nextAt; omega) h
          exact ⟨oneAt s p :: m, by rw [hm]; simp, hlt, by omega, by omega, rfl, ho⟩
    · simp only [Except.ok.injEq] at h
      exact ⟨[], by simp [h], by show p = s.size; omega⟩

theorem toB_byte (s : ByteArray) (i : Nat) (h : i < s.size) : toB (bt s i) = s[i] := by
  have h1 := bt_lt s i
  have e : ((bt s i : Int) % 256).toNat = bt s i := by omega
  unfold toB
  rw [e, bt_eq s i h]
  simp
theorem toB_congr {a b : Int} (h : a % 256 = b % 256) : toB a = toB b := by unfold toB; rw [h]

theorem take_one (s : ByteArray) (p : Nat) (h : p < s.size) : s.data.toList.take p ++ [s[p]] = s.data.toList.take (p + 1) := by
  rw [List.take_succ_eq_append_getElem (by simpa using h)]
  rfl

theorem enc_one (s : ByteArray) (p : Nat) (hp : p < s.size) (h37 : bt s p < 37) (hn : nextAt s p ≤ s.size) : encOne (s.data.toList.take p) (oneAt s p) = .ok (s.data.toList.take (nextAt s p)) := by
  have hlen : (s.data.toList.take p).length = p := by
    rw [List.length_take]
    have : s.data.toList.length = s.size := by simp
    omega
  have hk5 := kOf_lt (bt s p)
  have ea : (oneAt s p).op = (bt s p : Int) := rfl
  have en : (oneAt s p).op.toNat = bt s p := by rw [ea]; omega
  have b1 := bt_lt s (p + 1)
  have b2 := bt_lt s (p + 2)
  have hop : 0 ≤ (oneAt s p).op ∧ (oneAt s p).op < 37 := by rw [ea]; omega
  have hloc : (oneAt s p).loc = ((s.data.toList.take p).length : Int) := by rw [hlen]; rfl
  unfold encOne
  rw [if_pos hop, en]
  have key : fitsB (kOf (bt s p)) (oneAt s p).a (oneAt s p).b = true ∧ s.data.toList.take p ++ toB (oneAt s p).op :: tailOf (kOf (bt s p)) (oneAt s p).a (oneAt s p).b = s.data.toList.take (nextAt s p) := by
    have t1 := take_one s p hp
    have eb : toB (oneAt s p).op = s[p] := by rw [ea]; exact toB_byte s p hp
    have hkk : kOf (bt s p) = 0 ∨ kOf (bt s p) = 1 ∨ kOf (bt s p) = 2 ∨ kOf (bt s p) = 3 ∨ kOf (bt s p) = 4 := by omega
    rcases hkk with hk | hk | hk | hk | hk
    · have e1 : (oneAt s p).a = 0 := by simp [oneAt, argA, hk]
      have e2 : (oneAt s p).b = 0 := by simp [oneAt, argB, hk]
      have e3 : nextAt s p = p + 1 := by simp [nextAt, hk, mOf]
      rw [e1, e2, e3, eb, hk]
      refine ⟨by decide, ?_⟩
      rw [← t1]
      rfl
    · have e1 : (oneAt s p).a = sg (256 * bt s (p + 1) + bt s (p + 2)) := by simp [oneAt, argA, hk]
      have e2 : (oneAt s p).b = 0 := by simp [oneAt, argB, hk]
      have e3 : nextAt s p = p + 3 := by simp [nextAt, hk, mOf]
      have hsg : sg (256 * bt s (p + 1) + bt s (p + 2)) = 256 * bt s (p + 1) + bt s (p + 2) ∨ sg (256 * bt s (p + 1) + bt s (p + 2)) = 256 * bt s (p + 1) + bt s (p + 2) - 65536 := by
        unfold sg
        split <;> simp
      have hsr : -32768 ≤ sg (256 * bt s (p + 1) + bt s (p + 2)) ∧ sg (256 * bt s (p + 1) + bt s (p + 2)) ≤ 32767 := by
        unfold sg
        split <;> omega
      rw [e1, e2, e3, eb, hk]
      rw [e3] at hn
      generalize sg (256 * bt s (p + 1) + bt s (p + 2)) = A at *
      refine ⟨by simp [fitsB, lowOf, highOf, secondOf]; omega, ?_⟩
      have f1 : toB (A / 256) = s[p + 1] := by rw [← toB_byte s (p + 1) (by omega)]; exact toB_congr (by omega)
      have f2 : toB A = s[p + 2] := by rw [← toB_byte s (p + 2) (by omega)]; exact toB_congr (by omega)
      rw [← take_one s (p + 2) (by omega), ← take_one s (p + 1) (by omega), ← t1]
      simp [tailOf, f1, f2]
    · have e1 : (oneAt s p).a = 256 * bt s (p + 1) + bt s (p + 2) := by simp [oneAt, argA, hk]
      have e2 : (oneAt s p).b = 0 := by simp [oneAt, argB, hk]
      have e3 : nextAt s p = p + 3 := by simp [nextAt, hk, mOf]
      rw [e1, e2, e3, eb, hk]
      rw [e3] at hn
      refine ⟨by simp [fitsB, lowOf, highOf, secondOf]; omega, ?_⟩
      have f1 : toB ((256 * (bt s (p + 1) : Int) + bt s (p + 2)) / 256) = s[p + 1] := by rw [← toB_byte s (p + 1) (by omega)]; exact toB_congr (by omega)
      have f2 : toB (256 * (bt s (p + 1) : Int) + bt s (p + 2)) = s[p + 2] := by rw [← toB_byte s (p + 2) (by omega)]; exact toB_congr (by omega)
      rw [← take_one s (p + 2) (by omega), ← take_one s (p + 1) (by omega), ← t1]
      simp [tailOf, f1, f2]
    · have e1 : (oneAt s p).a = bt s (p + 1) := by simp [oneAt, argA, hk]
      have e2 : (oneAt s p).b = 0 := by simp [oneAt, argB, hk]
      have e3 : nextAt s p = p + 2 := by simp [nextAt, hk, mOf]
      rw [e1, e2, e3, eb, hk]
      rw [e3] at hn
      refine ⟨by simp [fitsB, lowOf, highOf, secondOf]; omega, ?_⟩
      have f1 : toB (bt s (p + 1) : Int) = s[p + 1] := toB_byte s (p + 1) (by omega)
      rw [← take_one s (p + 1) (by omega), ← t1]
      simp [tailOf, f1]
    · have e1 : (oneAt s p).a = bt s (p + 1) := by simp [oneAt, argA, hk]
      have e2 : (oneAt s p).b = bt s (p + 2) := by simp [oneAt, argB, hk]
      have e3 : nextAt s p = p + 3 := by simp [nextAt, hk, mOf]
      rw [e1, e2, e3, eb, hk]
      rw [e3] at hn
      refine ⟨by simp [fitsB, lowOf, highOf, secondOf]; omega, ?_⟩
      have f1 : toB (bt s (p + 1) : Int) = s[p + 1] := toB_byte s (p + 1) (by omega)
      have f2 : toB (bt s (p + 2) : Int) = s[p + 2] := toB_byte s (p + 2) (by omega)
      rw [← take_one s (p + 2) (by omega), ← take_one s (p + 1) (by omega), ← t1]
      simp [tailOf, f1, f2]
  rw [if_pos key.1, if_pos hloc, key.2]

theorem enc_back (s : ByteArray) : ∀ (m : List Op4) (p : Nat), Ops s p m → encAll m (s.data.toList.take p) = .ok s.data.toList
  | [], p, h => by
    have hp : p = s.size := h
    subst hp
    simp only [encAll]
    rw [List.take_of_length_le (by simp)]
  | x :: m, p, h => by
    obtain ⟨h1, h2, h3, rfl, h5⟩ := h
    simp only [encAll, enc_one s p h1 h2 h3]
    exact enc_back s m _ h5

theorem ops_ge (s : ByteArray) : ∀ (m : List Op4) (p : Nat), Ops s p m → ∀ x ∈ m, (p : Int) ≤ x.loc
  | [], _, _, x, hx => by cases hx
  | y :: m, p, h, x, hx => by
    obtain ⟨h1, h2, h3, rfl, h5⟩ := h
    rcases List.mem_cons.1 hx with rfl | hx
    · exact Int.le_refl _
    · have := ops_ge s m _ h5 x hx
      have hn : p < nextAt s p := by unfold nextAt; omega
      omega
theorem place_self (s : ByteArray) : ∀ (m : List Op4) (p : Nat), Ops s p m → ∀ i, i < m.length → ∀ k, place m (get4 m i).loc k = some (k + i)
  | [], _, _, i, hi, k => by simp at hi
  | y :: m, p, h, i, hi, k => by
    obtain ⟨h1, h2, h3, rfl, h5⟩ := h
    cases i with
    | zero => simp [place, get4]
    | succ i =>
      have hi' : i < m.length := by simpa using hi
      have e : get4 (oneAt s p :: m) (i + 1) = get4 m i := by simp [get4]
      have hge := ops_ge s m _ h5 _ (get4_mem m i hi')
      have hn : p < nextAt s p := by unfold nextAt; omega
      have hne : ¬ (oneAt s p).loc = (get4 m i).loc := by
        show ¬ (p : Int) = _
        omega
      rw [e, place, if_neg hne, place_self s m _ h5 i hi' (k + 1)]
      congr 1
      omega
theorem ops_rise (s : ByteArray) : ∀ (m : List Op4) (p : Nat), Ops s p m → ∀ i, i + 1 < m.length → (get4 m i).loc < (get4 m (i + 1)).loc
  | [], _, _, i, hi => by simp at hi
  | y :: m, p, h, i, hi => by
    obtain ⟨h1, h2, h3, rfl, h5⟩ := h
    have hi' : i < m.length := by simpa using hi
    have e : get4 (oneAt s p :: m) (i + 1) = get4 m i := by simp [get4]
    rw [e]
    cases i with
    | zero =>
      have hge := ops_ge s m _ h5 _ (get4_mem m 0 hi')
      have hn : p < nextAt s p := by unfold nextAt; omega
      show (p : Int) < _
      omega
    | succ i =>
      have e2 : get4 (oneAt s p :: m) (i + 1) = get4 m i := by simp [get4]
      rw [e2]
      exact ops_rise s m _ h5 i (by simpa using hi')

/-- All that the law asks of what was decoded. -/
theorem back_of {s : ByteArray} {l : List Op4} (h : full s = .ok l) : encRes l = (s.data.toList, 0) ∧ 0 < l.length ∧ (get4 l 0).loc = 0 ∧ (∀ i, i < l.length → place l (get4 l i).loc 0 = some i) ∧ (∀ i, i + 1 < l.length → (get4 l i).loc < (get4 l (i + 1)).loc) := by
  unfold full at h
  split at h
  · cases h
  · rename_i h200
    split at h
    · cases h
    · rename_i hne
      unfold dec at h
      split at h
      · cases h
      · rename_i l' hl'
        split at h
        · cases h
        · cases h
          obtain ⟨m, hm, ho⟩ := scan_ops s s.size 0 [] l (Nat.zero_le _) (by omega) hl'
          rw [List.nil_append] at hm
          subst hm
          have he := enc_back s l 0 ho
          rw [List.take_zero] at he
          refine ⟨?_, ?_, ?_, fun i hi => by have := place_self s l 0 ho i hi 0; rw [Nat.zero_add] at this; exact this, fun i hi => ops_rise s l 0 ho i hi⟩
          · unfold encRes
            rw [he]
            have hle : ¬ 200 < s.data.toList.length := by
              have : s.data.toList.length = s.size := by simp
              omega
            simp only [hle, if_false]
          · cases l with
            | nil =>
              have : 0 = s.size := ho
              omega
            | cons x m => simp
          · cases l with
            | nil =>
              have : 0 = s.size := ho
              omega
            | cons x m =>
              obtain ⟨_, _, _, rfl, _⟩ := ho
              rfl
end Go.Proofs.YtkpklkhkhhlifabDoor
