/- The document's own reading of linked classes: are kinds, fields the same? -/
import Derived.Test.YtaekpdcnnkmahaaGreatDoorJLErrLEq
import Derived.Test.YtaekpdcnnkmahaaGreatDoorJLDifLRf3
namespace Go.Proofs.YtaekpdcnnkmahaaGreatDoor
open Go.RowKit Go.Maps

set_option maxHeartbeats 1000000 in
theorem SameKinds_any (w : World) (M M' : Nat → Prop) (u v : Value) (l m : List KindD) (hu : SL 2 RK M w u l) (hv : SL 2 RK M' w v m) :
    Calls Tryz.prog 55 #[u, v] w fun r w' => r = .returned (.bool (eqL sameK l m)) ∧ ∃ n, w' = w.drewN n := by
  have HU := mkHid hu
  have HV := mkHid hv
  obtain ⟨au, cu, rfl, _, hl, -⟩ := hu
  obtain ⟨av, cv, rfl, _, hm, -⟩ := hv
  unfold maxLen at hl hm
  by_cases hlen : l.length = m.length
  rotate_left
  · have h0 : ¬ (l.length : Int) = m.length := by omega
    have HR := mkHid (eqL_len sameK l m hlen)
    clear hlen
    go_enter Tryz.func55, Tryz.ntmps55
    go_wp2
    go_ret
    exact ⟨by rw [HR.out]; rfl, 0, rfl⟩
  rw [← hlen] at HV ⊢
  have HLEN := mkHid hlen
  clear hm hlen
  go_enter Tryz.func55, Tryz.ntmps55
  go_wp2
  go_loopw [5] (fun i wr => ∃ k : Nat, k ≤ l.length ∧ i = .int .i64 k ∧ Hid (eqL sameK l m = eqL sameK (l.drop k) (m.drop k)) ∧ ∃ n, wr = w.drewN n) (fun i _ => l.length - (intOf i).toNat)
  case atStart => exact ⟨0, Nat.zero_le _, rfl, rfl, 0, rfl⟩
  case round =>
    obtain ⟨k, hk, rfl, HQ, n, rfl⟩ := hrel
    by_cases hlt : k < l.length
    · have hlm : k < m.length := by have := HLEN.out; omega
      obtain ⟨b, off, rfl, _, c0, c1, _⟩ := HU.out.atK k hlt
      obtain ⟨b2, off2, rfl, _, d0, d1, _⟩ := HV.out.atK k hlm
      have HST := mkHid (eqL_step sameK l m k hlt hlm)

      have hne := kindNeq l[k] m[k]
      have hng := kindNeqG
      generalize l[k] = x at *
      generalize m[k] = y at *
      cases hs : sameK x y with
      | true =>
        have HQ' : Hid (eqL sameK l m = eqL sameK (l.drop (k + 1)) (m.drop (k + 1))) := HQ.out.trans (by rw [HST.out, hs, Bool.true_and])
        go_wp2
        go_quiet (fail)
        go_wp2
        go_roundw
        case rel => exact ⟨k + 1, by omega, by go_num, HQ'.out, _, rfl⟩
        case measure => simp [intOf]; omega
      | false =>
        have HQ' : Hid (eqL sameK l m = false) := HQ.out.trans (by rw [HST.out, hs, Bool.false_and])
        go_wp2
        go_quiet (fail)
        go_wp2
        go_ret
        exact ⟨by rw [HQ'.out]; rfl, _, World.drewN_drewN _ _ _⟩
    · have HQ' : Hid (eqL sameK l m = true) := HQ.out.trans (eqL_end sameK l m k hlt HLEN.out)
      go_wp2
      go_ret
      exact ⟨by rw [HQ'.out]; rfl, n, rfl⟩

set_option maxHeartbeats 1000000 in
theorem SameFields_any (w : World) (M M' : Nat → Prop) (u v : Value) (l m : List FieldD) (hu : SL 3 RF M w u l) (hv : SL 3 RF M' w v m) :
    Calls Tryz.prog 54 #[u, v] w fun r w' => r = .returned (.bool (eqL sameF l m)) ∧ ∃ n, w' = w.drewN n := by
  have HU := mkHid hu
  have HV := mkHid hv
  obtain ⟨au, cu, rfl, _, hl, -⟩ := hu
  obtain ⟨av, cv, rfl, _, hm, -⟩ := hv
  unfold maxLen at hl hm
  by_cases hlen : l.length = m.length
  rotate_left
  · have h0 : ¬ (l.length : Int) = m.length := by omega
    have HR := mkHid (eqL_len sameF l m hlen)
    clear hlen
    go_enter Tryz.func54, Tryz.ntmps54
    go_wp2
    go_ret
    exact ⟨by rw [HR.out]; rfl, 0, rfl⟩
  rw [← hlen] at HV ⊢
  have HLEN := mkHid hlen
  clear hm hlen
  go_enter Tryz.func54, Tryz.ntmps54
  go_wp2
  go_loopw [5] (fun i wr => ∃ k : Nat, k ≤ l.length ∧ i = .int .i64 k ∧ Hid (eqL sameF l m = eqL sameF (l.drop k) (m.drop k)) ∧ ∃ n, wr = w.drewN n) (fun i _ => l.length - (intOf i).toNat)
  case atStart => exact ⟨0, Nat.zero_le _, rfl, rfl, 0, rfl⟩
  case round =>
    obtain ⟨k, hk, rfl, HQ, n, rfl⟩ := hrel
    by_cases hlt : k < l.length
    · have hlm : k < m.length := by have := HLEN.out; omega
      obtain ⟨b, off, rfl, _, c0, c1, c2, _⟩ := HU.out.atF k hlt
      obtain ⟨b2, off2, rfl, _, d0, d1, d2, _⟩ := HV.out.atF k hlm
      have HST := mkHid (eqL_step sameF l m k hlt hlm)

      have hne := fieldNeq l[k] m[k]
      have hng := fieldNeqG
      generalize l[k] = x at *
      generalize m[k] = y at *
      cases hs : sameF x y with
      | true =>
        have HQ' : Hid (eqL sameF l m = eqL sameF (l.drop (k + 1)) (m.drop (k + 1))) := HQ.out.trans (by rw [HST.out, hs, Bool.true_and])
        go_wp2
        go_quiet (fail)
        go_wp2
        go_roundw
        case rel => exact ⟨k + 1, by omega, by go_num, HQ'.out, _, rfl⟩
        case measure => simp [intOf]; omega
      | false =>
        have HQ' : Hid (eqL sameF l m = false) := HQ.out.trans (by rw [HST.out, hs, Bool.false_and])
        go_wp2
        go_quiet (fail)
        go_wp2
        go_ret
        exact ⟨by rw [HQ'.out]; rfl, _, World.drewN_drewN _ _ _⟩
    · have HQ' : Hid (eqL sameF l m = true) := HQ.out.trans (eqL_end sameF l m k hlt HLEN.out)
      go_wp2
      go_ret
      exact ⟨by rw [HQ'.out]; rfl, n, rfl⟩

end Go.Proofs.YtaekpdcnnkmahaaGreatDoor
/- The document's own check of classes that are to hang together: plain. -/
namespace Go.Proofs.YtaekpdcnnkmahaaGreatDoor
open Go.RowKit Go.Sort

def allI (l : List ClassD) (q : Nat → Bool) : Bool := (List.range l.length).all q
theorem allI_end {l : List ClassD} {q : Nat → Bool} {k : Nat} (hk : ¬ k < l.length) (h : ∀ j, j < k → q j = true) : allI l q = true := by
  rw [allI, List.all_eq_true]
  exact fun j hj => h j (by have := List.mem_range.1 hj; omega)
theorem allI_bad {l : List ClassD} {q : Nat → Bool} {k : Nat} (hk : k < l.length) (h : q k = false) : allI l q = false := by
  rw [allI, List.all_eq_false]
  exact ⟨k, List.mem_range.2 hk, by simp [h]⟩
theorem upto_succ {q : Nat → Bool} {k : Nat} (h : ∀ j, j < k → q j = true) (hk : q k = true) : ∀ j, j < k + 1 → q j = true := fun j hj => by
  by_cases hjk : j < k
  · exact h j hjk
  · have : j = k := by omega
    subst this
    exact hk
theorem ne_nil {s : ByteArray} (h : ¬ s = ⟨#[]⟩) : s.toList.isEmpty = false := by
  cases hq : s.toList with
  | nil => exact absurd (tl_nil hq) h
  | cons _ _ => rfl
theorem differB_pw (l : List ByteArray) : differB l = true ↔ l.Pairwise (· ≠ ·) := by
  induction l using snoc_ind with
  | h0 => simp [differB]
  | h1 l x ih =>
    rw [differB_snoc, Bool.and_eq_true, ih, List.pairwise_append, List.all_eq_true]
    constructor
    · rintro ⟨h1, h2⟩
      refine ⟨h1, List.pairwise_singleton _ _, fun a ha b hb => ?_⟩
      rw [List.mem_singleton] at hb
      subst hb
      have := h2 a ha
      intro e
      simp [e] at this
    · rintro ⟨h1, _, h2⟩
      refine ⟨h1, fun y hy => ?_⟩
      have h3 := h2 y hy x (by simp)
      have h4 : ¬ x = y := fun e => h3 e.symm
      simp [h4]
theorem diff_of {α : Type} (f : α → ByteArray) (xs : List α) (h : ∀ (i j : Nat) (hi : i < xs.length) (hj : j < xs.length), i < j → f xs[i] ≠ f xs[j]) : differB (xs.map f) = true := by
  rw [differB_pw, List.pairwise_iff_getElem]
  intro i j hi hj hij
  have := h i j (by simpa using hi) (by simpa using hj) hij
  simpa using this
theorem diff_no {α : Type} (f : α → ByteArray) (xs : List α) (i j : Nat) (hi : i < xs.length) (hj : j < xs.length) (hij : i < j) (h : f xs[i] = f xs[j]) : differB (xs.map f) = false := by
  rw [Bool.eq_false_iff, ne_eq, differB_pw, List.pairwise_iff_getElem]
  intro hp
  exact hp i j (by simpa using hi) (by simpa using hj) hij (by simpa using h)
def q1 (l : List ClassD) (i : Nat) : Bool := decide (firstAt l (clsAt l i).name = i)
def q2 (l : List ClassD) : Bool := decide (0 ≤ firstAt l topName) && decide (0 ≤ firstAt l errName)
def q3 (l : List ClassD) (i : Nat) : Bool := upperB (clsAt l i)
def q4 (l : List ClassD) (i : Nat) : Bool := decide ((clsAt l i).super = (⟨#[]⟩ : ByteArray)) || decide (0 ≤ firstAt l (clsAt l i).super)
def q5 (l : List ClassD) (i : Nat) : Bool := decide (0 < (upOf l i).length)
def q6 (l : List ClassD) : Bool := decide ((clsAt l (firstAt l errName).toNat).super = topName) && (match allF l (firstAt l errName).toNat with | [] => false | f :: _ => decide (f.kind.kind = 1))
def toldM (l : List ClassD) (m : MethD) : Bool := m.args.all (toldK l) && toldK l m.ret && m.hands.all (fun h => decide (0 ≤ firstAt l h.cls))
def q7 (l : List ClassD) (i : Nat) : Bool := (clsAt l i).fields.all (fun f => toldK l f.kind) && (clsAt l i).meths.all (toldM l)
def q8 (l : List ClassD) (i : Nat) : Bool := differB ((allF l i).map (·.name)) && differB ((clsAt l i).meths.map (·.name))
def fitM (x y : MethD) : Bool := !decide (x.name = y.name) || (!x.static && !y.static && eqL sameK x.args y.args && sameK x.ret y.ret)
def q9 (l : List ClassD) (i : Nat) : Bool := (upOf l i).dropLast.all fun u => (clsAt l i).meths.all fun x => (clsAt l u).meths.all fun y => fitM x y
def checkLk (l : List ClassD) : Int :=
  if checkL l ≠ 0 then checkL l else if allI l (q1 l) = false then 6 else if q2 l = false then 5 else if allI l (q3 l) = false then 4 else if allI l (q4 l) = false then 5 else if allI l (q5 l) = false then 4
  else if q6 l = false then 4 else if allI l (q7 l) = false then 5 else if allI l (q8 l) = false then 6 else if allI l (q9 l) = false then 4 else 0

theorem lk1 {l : List ClassD} (h0 : checkL l = 0)  (h : allI l (q1 l) = false) : checkLk l = 6 := by simp [checkLk, h0, h]
theorem lk2 {l : List ClassD} (h0 : checkL l = 0) (h1 : allI l (q1 l) = true) (h : q2 l = false) : checkLk l = 5 := by simp [checkLk, h0, h, h1]
theorem lk3 {l : List ClassD} (h0 : checkL l = 0) (h1 : allI l (q1 l) = true) (h2 : q2 l = true) (h : allI l (q3 l) = false) : checkLk l = 4 := by simp [checkLk, h0, h, h1, h2]
theorem lk4 {l : List ClassD} (h0 : checkL l = 0) (h1 : allI l (q1 l) = true) (h2 : q2 l = true) (h3 : allI l (q3 l) = true) (h : allI l (q4 l) = false) : checkLk l = 5 := by simp [checkLk, h0, h, h1, h2, h3]
theorem lk5 {l : List ClassD} (h0 : checkL l = 0) (h1 : allI l (q1 l) = true) (h2 : q2 l = true) (h3 : allI l (q3 l) = true) (h4 : allI l (q4 l) = true) (h : allI l (q5 l) = false) : checkLk l = 4 := by simp [checkLk, h0, h, h1, h2, h3, h4]
theorem lk6 {l : List ClassD} (h0 : checkL l = 0) (h1 : allI l (q1 l) = true) (h2 : q2 l = true) (h3 : allI l (q3 l) = true) (h4 : allI l (q4 l) = true) (h5 : allI l (q5 l) = true) (h : q6 l = false) : checkLk l = 4 := by simp [checkLk, h0, h, h1, h2, h3, h4, h5]
theorem lk7 {l : List ClassD} (h0 : checkL l = 0) (h1 : allI l (q1 l) = true) (h2 : q2 l = true) (h3 : allI l (q3 l) = true) (h4 : allI l (q4 l) = true) (h5 : allI l (q5 l) = true) (h6 : q6 l = true) (h : allI l (q7 l) = false) : checkLk l = 5 := by simp [checkLk, h0, h, h1, h2, h3, h4, h5, h6]
theorem lk8 {l : List ClassD} (h0 : checkL l = 0) (h1 : allI l (q1 l) = true) (h2 : q2 l = true) (h3 : allI l (q3 l) = true) (h4 : allI l (q4 l) = true) (h5 : allI l (q5 l) = true) (h6 : q6 l = true) (h7 : allI l (q7 l) = true) (h : allI l (q8 l) = false) : checkLk l = 6 := by simp [checkLk, h0, h, h1, h2, h3, h4, h5, h6, h7]
theorem lk9 {l : List ClassD} (h0 : checkL l = 0) (h1 : allI l (q1 l) = true) (h2 : q2 l = true) (h3 : allI l (q3 l) = true) (h4 : allI l (q4 l) = true) (h5 : allI l (q5 l) = true) (h6 : q6 l = true) (h7 : allI l (q7 l) = true) (h8 : allI l (q8 l) = true) (h : allI l (q9 l) = false) : checkLk l = 4 := by simp [checkLk, h0, h, h1, h2, h3, h4, h5, h6, h7, h8]
theorem lk10 {l : List ClassD} (h0 : checkL l = 0) (h1 : allI l (q1 l) = true) (h2 : q2 l = true) (h3 : allI l (q3 l) = true) (h4 : allI l (q4 l) = true) (h5 : allI l (q5 l) = true) (h6 : q6 l = true) (h7 : allI l (q7 l) = true) (h8 : allI l (q8 l) = true) (h9 : allI l (q9 l) = true) : checkLk l = 0 := by simp [checkLk, h0, h1, h2, h3, h4, h5, h6, h7, h8, h9]
end Go.Proofs.YtaekpdcnnkmahaaGreatDoor
