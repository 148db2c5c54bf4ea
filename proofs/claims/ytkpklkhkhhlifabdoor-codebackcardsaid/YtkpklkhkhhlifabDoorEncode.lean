/- The contract of Encode, whatever operations it is handed. -/
import Derived.Test.YtkpklkhkhhlifabDoorEnc
namespace Go.Proofs.YtkpklkhkhhlifabDoor
open Go.RowKit

theorem encOne_err {bs : List UInt8} {x : Op4} {e : Int} (h : encOne bs x = .error e) : e = 7 ∨ e = 3 ∨ e = 4 := by
  unfold encOne at h
  split at h
  · split at h
    · split at h
      · cases h
      · simp at h; omega
    · simp at h; omega
  · simp at h; omega
theorem encAll_err : ∀ {l : List Op4} {bs : List UInt8} {e : Int}, encAll l bs = .error e → e = 7 ∨ e = 3 ∨ e = 4
  | [], _, _, h => by cases h
  | x :: r, bs, e, h => by
    unfold encAll at h
    split at h
    · rename_i e' he'
      cases h
      exact encOne_err he'
    · exact encAll_err h

/-- The answer of Encode. -/
def encRes (l : List Op4) : List UInt8 × Int :=
  match encAll l [] with
  | .error e => ([], e)
  | .ok bs => if 200 < bs.length then ([], 2) else (bs, 0)

set_option maxHeartbeats 400000 in
theorem encode1_any (w : World) (v : Value) (l : List Op4) (P q base : Nat) (hT : Tabs w) (hR : Rooms w) (h : Bd w q base []) (hp : w.cell? ⟨P, 0, none⟩ = some v) (hh : Holds4 w v l)
    (hbb : 0 < l.length → ∀ b off c, v = .slice (some ⟨b, off, none⟩) l.length c → b < base ∧ b ≠ q) (hl : l.length ≤ 4398046511104) (hq : 1 < q) :
    Calls Tryd.prog 12 #[.pointer (some ⟨P, 0, none⟩), .pointer (some ⟨q, 0, none⟩)] w fun r w' => KB base q w w' ∧
      ((∃ e p, encAll l [] = .error e ∧ r = .panicked [wrongV e p]) ∨ (∃ bs, encAll l [] = .ok bs ∧ r = .returned (.tuple #[]) ∧ Bd w' q base bs)) := by
  have hmf : ∀ (fn : Fn) (first cap : Array Value) (w : World), (Instr.makeFunc fn first cap).run Tryd.prog w = .ok (.func fn first cap) w := fun _ _ _ _ => rfl
  have hh2 : (∃ ao c, v = .slice ao 0 c ∧ l = []) ∨ ∃ b off c, v = .slice (some ⟨b, off, none⟩) l.length c ∧ 0 < l.length ∧ Has w b off l := by
    rcases hh with h | ⟨b, off, c, e, _, h⟩
    · exact Or.inl h
    · by_cases h0 : l.length = 0
      · have hl0 := List.eq_nil_of_length_eq_zero h0
        subst hl0
        exact Or.inl ⟨_, c, e, rfl⟩
      · exact Or.inr ⟨b, off, c, e, by omega, h⟩
  clear hh
  rcases hh2 with ⟨ao, c, rfl, rfl⟩ | ⟨b, off, c, rfl, h0, hh⟩
  · go_enter Tryd.func12, Tryd.ntmps12
    go_wp2_with fail
    refine (writeAll_nil _ ao c _).mono ?_
    rintro r w1 ⟨rfl, rfl⟩
    go_wp2_with fail
    go_end0
    exact ⟨KB.refl _ _ _, Or.inr ⟨[], rfl, rfl, h⟩⟩
  · obtain ⟨h1, h2⟩ := hbb h0 b off c rfl
    go_enter Tryd.func12, Tryd.ntmps12
    go_wp2_with fail
    refine (writeAll_any _ q base b off c l hT hR h hh h1 h2 hl hq).mono ?_
    rintro r w1 ⟨hk, hr⟩
    rcases hr with ⟨e, p, he, rfl⟩ | ⟨bs, he, rfl, hbd⟩
    · exact ⟨rfl, hk, Or.inl ⟨e, p, he, rfl⟩⟩
    · have HE := mkHid he
      clear he
      go_wp2_with fail
      go_end0
      exact ⟨hk, Or.inr ⟨bs, HE.out, rfl, hbd⟩⟩

theorem callFunc21 (args : Array Value) (w : World) : (callFunc 12 args).run Tryd.prog w = .ok (.enter 12 args) w := by kernel_rfl

set_option maxHeartbeats 1000000 in
theorem Encode_any (w : World) (v : Value) (l : List Op4) (hT : Tabs w) (hR : Rooms w) (hh : Holds4 w v l) (hl : l.length ≤ 4398046511104) :
    Calls Tryd.prog 6 #[v] w fun r w' => Below w.heap.size w w' ∧ r = .returned (.tuple #[.string ⟨(encRes l).1.toArray⟩, .int .i64 (encRes l).2]) := by
  have hmf : ∀ (fn : Fn) (first cap : Array Value) (w : World), (Instr.makeFunc fn first cap).run Tryd.prog w = .ok (.func fn first cap) w := fun _ _ _ _ => rfl
  have h0 := hT.two
  have hB1 : Below w.heap.size w (w.alloc (.cells #[v] 23)) := (Below.refl _ _).alloc (Nat.le_refl _) _
  have hB2 := hB1.alloc hB1.size (.cells #[.slice none 0 0] 43)
  have hB3 := hB2.alloc hB2.size (.cells #[.int .i64 0, .int .i64 0] 26)
  have hv : ∃ ao n c, v = .slice ao n c := by
    rcases hh with ⟨ao, c, rfl, _⟩ | ⟨b, off, c, rfl, _⟩ <;> exact ⟨_, _, _, rfl⟩
  obtain ⟨ao, n, c, hv⟩ := hv
  have HV := mkHid hv
  rw [hv] at hB1 hB2 hB3 ⊢
  have HH := mkHid hh
  clear hv hh
  go_enter Tryd.func6, Tryd.ntmps6
  go_wp2_with fail
  refine (caught_any 12 _ _ (fun w1 => ∃ bs, encAll l [] = .ok bs ∧ Bd w1 (w.heap.size + 1) (w.heap.size + 3) bs ∧ Below w.heap.size w w1) (fun e p w1 => encAll l [] = .error e ∧ Below w.heap.size w w1) (callFunc21 _) ?hc).mono ?_
  case hc =>
    refine (encode1_any _ v l w.heap.size (w.heap.size + 1) (w.heap.size + 3) (hT.below hB3) (hR.kept (hB3.block 1 h0)) ⟨⟨.slice none 0 0, by simp [go_sem], World.ownsRow_nil _ _ _ _⟩, by simp [go_sem], by omega, by simp⟩ (by rw [HV.out]; simp [go_sem]) (HH.out.below hB3) ?_ hl (by omega)).mono ?_
    · intro h0 b off c' e
      rcases HH.out with ⟨ao', c'', e', rfl⟩ | ⟨b', off', c'', e', _, h'⟩
      · cases h0
      · rw [e] at e'
        simp at e'
        have := h'.lt
        omega
    · rintro r w1 ⟨hk, hr⟩
      have hN : w1.heap[w.heap.size + 2]? = some (.cells #[.int .i64 0, .int .i64 0] 26 (0, 0)) := by
        rw [hk.block (w.heap.size + 2) (by omega) (by omega)]
        show (((w.heap.push _).push _).push _)[w.heap.size + 2]? = _
        rw [Array.getElem?_push, if_pos (by simp)]
      have hBl : Below w.heap.size w w1 := hB3.trans (hk.toBelow.mono (by omega))
      refine ⟨by simpa using hN, ?_⟩
      rcases hr with ⟨e, p, he, rfl⟩ | ⟨bs, he, rfl, hbd⟩
      · exact Or.inr ⟨e, p, rfl, he, hBl⟩
      · exact Or.inl ⟨rfl, bs, he, hbd, hBl⟩
  rintro r w2 ⟨w1, hg, hr⟩
  have hz : ((w.alloc (.cells #[.slice ao n c] 23)).alloc (.cells #[.slice none 0 0] 43)).heap.size = w.heap.size + 2 := by simp
  rw [hz] at hg
  clear hB1 hB2 hB3 hz
  rcases hr with ⟨rfl, bs, he, hbd, hB⟩ | ⟨e, p, rfl, he, hB⟩
  · have hB2 : Below w.heap.size w w2 := below_of_grown hB hg (by omega)
    have hbd2 : Bd w2 (w.heap.size + 1) (w.heap.size + 3) bs := by
      obtain ⟨⟨u, hu, ho⟩, hf, hlt, hle⟩ := hbd
      exact ⟨⟨u, hg.cell hu (by simp), ho.kept hg (own_ne ho (by omega))⟩, (World.frozen?_of_block (a := ⟨w.heap.size + 1, 0, none⟩) (hg.block (w.heap.size + 1) (by omega) (by simp))).trans hf, hlt, Nat.le_trans hle hg.size⟩
    have hbd3 := hbd2.below ((Below.refl _ w2).alloc (Nat.le_refl _) (.cells #[.int .i64 0, .int .i64 0] 26))
    have hB3 := hB2.alloc hB2.size (.cells #[.int .i64 0, .int .i64 0] 26)
    have HE := mkHid he
    clear he hbd hB hg hbd2
    go_wp2_with fail
    refine (len_b _ _ _ bs hbd3).mono ?_
    rintro r w3 ⟨rfl, rfl⟩
    by_cases hlong : 200 < bs.length
    · have hlong' : (200 : Int) < bs.length := by omega
      have er : encRes l = ([], 2) := by simp [encRes, HE.out, hlong]
      have HER := mkHid er
      clear er
      go_wp2_with fail
      go_ret2
      exact ⟨hB3, by rw [HER.out]; rfl⟩
    · have hlong' : ¬ (200 : Int) < bs.length := by omega
      have er : encRes l = (bs, 0) := by simp [encRes, HE.out, hlong]
      have HER := mkHid er
      clear er
      go_wp2_with fail
      refine (string_b _ _ _ bs hbd3).mono ?_
      rintro r w3 ⟨rfl, rfl⟩
      go_wp2_with fail
      go_ret2
      exact ⟨hB3, by rw [HER.out]; rfl⟩
  · have hB2 : Below w.heap.size w w2 := below_of_grown hB hg (by omega)
    have hB3 := hB2.alloc hB2.size (.cells #[.int .i64 e, .int .i64 p] 26)
    have her := encAll_err he
    have hne : (e != 0) = true := by rw [bne_iff_ne]; omega
    have er : encRes l = ([], e) := by simp [encRes, he]
    have HER := mkHid er
    clear he hB hg er her
    go_wp2_with fail
    go_quiet (fail)
    go_wp2_with fail
    go_ret2
    exact ⟨below_drewN hB3 _, by rw [HER.out]; rfl⟩
end Go.Proofs.YtkpklkhkhhlifabDoor
