/- What passes the check is small: plain facts. -/
import Derived.Test.YtkhconnebiiboaaGreatDoorJPlainMem
namespace Go.Proofs.YtkhconnebiiboaaGreatDoor
open Go.RowKit

theorem dem_zero {b : Bool} {e r : Int} (h : dem b e r = 0) (he : e ≠ 0) : b = true ∧ r = 0 := by
  cases b
  · exact absurd h he
  · exact ⟨rfl, h⟩
theorem thenE_zero {e r : Int} (h : thenE e r = 0) : e = 0 ∧ r = 0 := by
  unfold thenE at h
  by_cases he : e = 0
  · rw [if_pos he] at h
    exact ⟨he, h⟩
  · rw [if_neg he] at h
    exact absurd h he
theorem allE_zero {α : Type} {f : α → Int} : ∀ {l : List α}, allE f l = 0 → ∀ x ∈ l, f x = 0
  | [], _, x, hx => by cases hx
  | y :: l, h, x, hx => by
    obtain ⟨h1, h2⟩ := thenE_zero h
    rcases List.mem_cons.1 hx with rfl | hx
    · exact h1
    · exact allE_zero h2 x hx
theorem name_small {s : ByteArray} (h : isNameB s = true) : s.size ≤ 20 := by
  simp [isNameB] at h
  omega
def FineK (k : KindD) : Prop := 0 ≤ k.kind ∧ k.kind ≤ 4 ∧ k.cls.size ≤ 20 ∧ (hasCls k.kind = false → k.cls.size = 0)
def FineF (f : FieldD) : Prop := f.name.size ≤ 20 ∧ FineK f.kind
def FineH (h : HandD) : Prop := h.cls.size ≤ 20 ∧ (0 ≤ h.frm ∧ h.frm ≤ 200) ∧ (0 ≤ h.upto ∧ h.upto ≤ 200) ∧ (0 ≤ h.loc ∧ h.loc ≤ 200)
def FineM (m : MethD) : Prop := m.name.size ≤ 20 ∧ m.args.length ≤ 4 ∧ (∀ k ∈ m.args, FineK k) ∧ FineK m.ret ∧ (0 ≤ m.stack ∧ m.stack ≤ 10) ∧ (0 ≤ m.locals ∧ m.locals ≤ 10) ∧ m.code.size ≤ 200 ∧ m.hands.length ≤ 4 ∧ ∀ h ∈ m.hands, FineH h
def FineC (c : ClassD) : Prop := c.name.size ≤ 20 ∧ c.super.size ≤ 20 ∧ c.fields.length ≤ 6 ∧ (∀ f ∈ c.fields, FineF f) ∧ c.meths.length ≤ 8 ∧ ∀ m ∈ c.meths, FineM m
theorem win_fine {n m : Int} (h : win n m = true) : 0 ≤ n ∧ n ≤ m := by
  simpa [win] using h
theorem right_fine {k : KindD} (h : rightB k = true) : FineK k := by
  unfold rightB at h
  split at h
  · rename_i hc
    have h2 := name_small h
    refine ⟨?_, ?_, h2, fun hn => by rw [hc] at hn; cases hn⟩ <;> simp [hasCls] at hc <;> omega
  · rename_i hc
    simp only [Bool.and_eq_true, Bool.or_eq_true, decide_eq_true_eq] at h
    exact ⟨by omega, by omega, by omega, fun _ => h.2⟩
theorem returned_fine {k : KindD} (h : returnedB k = true) : FineK k := by
  rw [returnedB, Bool.or_eq_true] at h
  rcases h with h | h
  · exact right_fine h
  · simp only [Bool.and_eq_true, decide_eq_true_eq] at h
    exact ⟨by omega, by omega, by omega, fun _ => h.2⟩
theorem field_fine {f : FieldD} (h : checkField f = 0) : FineF f := by
  obtain ⟨h1, h⟩ := dem_zero h (by decide)
  obtain ⟨h2, h⟩ := dem_zero h (by decide)
  exact ⟨name_small h1, right_fine h2⟩
theorem hand_fine {x : HandD} (h : checkHand x = 0) : FineH x := by
  obtain ⟨h1, h⟩ := dem_zero h (by decide)
  obtain ⟨h2, h⟩ := dem_zero h (by decide)
  obtain ⟨h3, h⟩ := dem_zero h (by decide)
  obtain ⟨h4, h⟩ := dem_zero h (by decide)
  exact ⟨name_small h1, win_fine h2, win_fine h3, win_fine h4⟩
theorem meth_fine {m : MethD} (h : checkMeth m = 0) : FineM m := by
  obtain ⟨h1, h⟩ := dem_zero h (by decide)
  obtain ⟨h2, h⟩ := dem_zero h (by decide)
  obtain ⟨h3, h⟩ := dem_zero h (by decide)
  obtain ⟨h4, h⟩ := dem_zero h (by decide)
  obtain ⟨h5, h⟩ := dem_zero h (by decide)
  obtain ⟨h6, h⟩ := dem_zero h (by decide)
  obtain ⟨h7, h⟩ := thenE_zero h
  obtain ⟨h8, h⟩ := dem_zero h (by decide)
  exact ⟨name_small h1, of_decide_eq_true h2, fun k hk => right_fine (dem_zero (allE_zero h7 k hk) (by decide)).1, returned_fine h8, win_fine h5, win_fine h6, of_decide_eq_true h3, of_decide_eq_true h4, fun x hx => hand_fine (allE_zero h x hx)⟩
theorem class_fine {c : ClassD} (h : checkClass c = 0) : FineC c := by
  obtain ⟨h1, h⟩ := dem_zero h (by decide)
  obtain ⟨h2, h⟩ := dem_zero h (by decide)
  obtain ⟨h3, h⟩ := dem_zero h (by decide)
  obtain ⟨h4, h⟩ := dem_zero h (by decide)
  obtain ⟨h5, h⟩ := thenE_zero h
  refine ⟨name_small h1, ?_, of_decide_eq_true h3, fun f hf => field_fine (allE_zero h5 f hf), of_decide_eq_true h4, fun m hm => meth_fine (allE_zero h m hm)⟩
  rw [Bool.or_eq_true] at h2
  rcases h2 with h2 | h2
  · have := of_decide_eq_true h2
    omega
  · exact name_small h2
theorem list_fine {l : List ClassD} (h : checkL l = 0) : l.length ≤ 10 ∧ ∀ c ∈ l, FineC c := by
  obtain ⟨h1, h⟩ := dem_zero h (by decide)
  exact ⟨of_decide_eq_true h1, fun c hc => class_fine (allE_zero h c hc)⟩

theorem size_wText (s : ByteArray) : (wText s).length = s.size + 1 := by
  rw [wText, List.length_cons, Array.length_toList]
  rfl
theorem flat_bound {α : Type} (f : α → List UInt8) (b : Nat) : ∀ l : List α, (∀ x ∈ l, (f x).length ≤ b) → (l.flatMap f).length ≤ l.length * b
  | [], _ => by simp
  | x :: l, h => by
    have h1 := h x (by simp)
    have h2 := flat_bound f b l fun y hy => h y (by simp [hy])
    rw [List.flatMap_cons, List.length_append, List.length_cons, Nat.add_mul]
    omega
theorem counted_bound {α : Type} (f : α → List UInt8) (b n : Nat) (l : List α) (h : ∀ x ∈ l, (f x).length ≤ b) (hn : l.length ≤ n) : (wCounted f l).length ≤ 1 + n * b := by
  have h1 := flat_bound f b l h
  have h2 := Nat.mul_le_mul_right b hn
  rw [wCounted, List.length_cons]
  omega
theorem kind_bound {k : KindD} (h : FineK k) : (wKind k).length ≤ 22 := by
  have h1 := h.2.2.1
  unfold wKind
  split
  · rw [List.length_cons, size_wText]; omega
  · simp
theorem field_bound {f : FieldD} (h : FineF f) : (wField f).length ≤ 43 := by
  have h1 := kind_bound h.2
  have h2 := h.1
  rw [wField, List.length_append, size_wText]
  omega
theorem hand_bound {x : HandD} (h : FineH x) : (wHand x).length ≤ 27 := by
  have h1 := h.1
  rw [wHand, List.length_append, List.length_append, List.length_append, size_wText]
  show 2 + 2 + 2 + _ ≤ _
  omega
theorem meth_bound {m : MethD} (h : FineM m) : (wMeth m).length ≤ 500 := by
  obtain ⟨h1, h2, h3, h4, h5, h6, h7, h8, h9⟩ := h
  have a1 := counted_bound wKind 22 4 m.args (fun k hk => kind_bound (h3 k hk)) h2
  have a2 := counted_bound wHand 27 4 m.hands (fun k hk => hand_bound (h9 k hk)) h8
  have a3 := kind_bound h4
  simp only [wMeth, List.length_append, size_wText, List.length_cons, List.length_nil, wFlag, wTwo, Array.length_toList]
  have : m.code.data.size = m.code.size := rfl
  omega
theorem class_bound {c : ClassD} (h : FineC c) : (wClass c).length ≤ 4400 := by
  obtain ⟨h1, h2, h3, h4, h5, h6⟩ := h
  have a1 := counted_bound wField 43 6 c.fields (fun k hk => field_bound (h4 k hk)) h3
  have a2 := counted_bound wMeth 500 8 c.meths (fun k hk => meth_bound (h6 k hk)) h5
  simp only [wClass, List.length_append, size_wText]
  omega
theorem image_bound {l : List ClassD} (h : checkL l = 0) : (wImage l).length ≤ 44001 := by
  obtain ⟨h1, h2⟩ := list_fine h
  exact counted_bound wClass 4400 10 l (fun k hk => class_bound (h2 k hk)) h1
end Go.Proofs.YtkhconnebiiboaaGreatDoor
