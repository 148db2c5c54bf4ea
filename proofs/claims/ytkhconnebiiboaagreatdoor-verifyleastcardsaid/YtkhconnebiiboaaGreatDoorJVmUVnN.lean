/- Looking ends: plain. -/
import Derived.Test.YtkhconnebiiboaaGreatDoorVmQ
import Derived.Test.YtkhconnebiiboaaGreatDoorJVmKVmC
import Derived.Test.YtkhconnebiiboaaGreatDoorJVmJVmI
import Derived.Test.YtkhconnebiiboaaGreatDoorCdDecode
import Derived.Test.YtkhconnebiiboaaGreatDoorJLTieVkG
import Derived.Test.YtkhconnebiiboaaGreatDoorJLMadeVnK
namespace Go.Proofs.YtkhconnebiiboaaGreatDoor

/-- Which are to be looked at are known. -/
def AInv (s : SA) : Prop := ∀ n (h : n < s.A.length) (h' : n < s.S.length), s.A[n] = true → s.S[n].comes = true
def rmax (c : Lkr) : Nat := (c.d.classes.map fun k => (c.L k.name).length).foldl max 0 + 3
/-- How often a kind may be joined yet. -/
def rank (c : Lkr) (k : KindD) : Nat := if sameK k anyK then 0 else if sameK k nulK then rmax c else if k.kind = 3 then (c.L k.cls).length else if sameK k numK then 1 else 2
theorem foldl_max (l : List Nat) : ∀ a, a ≤ l.foldl max a ∧ ∀ x ∈ l, x ≤ l.foldl max a := by
  induction l with
  | nil => intro a; exact ⟨Nat.le_refl _, fun x hx => by cases hx⟩
  | cons y l ih =>
    intro a
    obtain ⟨h1, h2⟩ := ih (max a y)
    refine ⟨Nat.le_trans (Nat.le_max_left _ _) h1, fun x hx => ?_⟩
    rcases List.mem_cons.1 hx with rfl | hx
    · exact Nat.le_trans (Nat.le_max_right _ _) h1
    · exact h2 x hx
theorem rank_any {c : Lkr} : rank c anyK = 0 := by unfold rank; rw [if_pos (sameK_self _)]
theorem rank_obj {c : Lkr} {k : KindD} (hk : k.kind = 3) : rank c k = (c.L k.cls).length := by
  unfold rank
  rw [if_neg (by rw [eqK_iff]; exact fun e => absurd (anyK_kind e) (by omega)), if_neg (by rw [eqK_iff]; exact fun e => absurd (nulK_kind e) (by omega)), if_pos hk]
theorem rank_nul {c : Lkr} : rank c nulK = rmax c := by
  unfold rank
  rw [if_neg (by decide), if_pos (sameK_self _)]
section
variable {c : Lkr}
theorem lnn_le (hc : Cls c.d c.L) {s : ByteArray} (h : Kn c s) : (c.L s).length + 3 ≤ rmax c := by
  obtain ⟨n, hn, -, e⟩ := hc.nm s h
  have := (foldl_max (c.d.classes.map fun k => (c.L k.name).length) 0).2 (c.L s).length (List.mem_map.2 ⟨_, List.getElem_mem hn, by rw [e]⟩)
  unfold rmax
  omega
theorem lnn_pos (hc : Cls c.d c.L) {s : ByteArray} (h : Kn c s) : 1 ≤ (c.L s).length := by
  have := hc.lin.self h
  exact List.length_pos_of_mem this
theorem lnn_top (hc : Cls c.d c.L) : (c.L topName).length = 1 := by
  rcases hc.lin.up topName hc.kt with ⟨-, e⟩ | ⟨s, hs, e⟩
  · rw [e]; rfl
  · exfalso
    have key : ∀ x, Kn c x → (c.L topName).length ≤ (c.L x).length := hc.lin.ind _ (fun _ => Nat.le_refl _) (fun x y _ _ e ih => by rw [e]; simp; omega)
    have h1 := key s hs
    have h2 := congrArg List.length e
    simp at h2
    omega
theorem lnn_mem (hc : Cls c.d c.L) {b : ByteArray} : ∀ a, Kn c a → b ∈ c.L a → (c.L b).length ≤ (c.L a).length ∧ (a ≠ b → (c.L b).length < (c.L a).length) :=
  hc.lin.ind _ (fun e hb => by
    rw [e] at hb
    simp at hb
    subst hb
    exact ⟨Nat.le_refl _, fun h => absurd rfl h⟩) (fun a s _ _ e ih hb => by
    rw [e] at hb
    rcases List.mem_cons.1 hb with rfl | hb
    · exact ⟨Nat.le_refl _, fun h => absurd rfl h⟩
    · have := (ih hb).1
      rw [e]
      simp
      exact ⟨by omega, fun _ => by omega⟩)
theorem lnn_two (hc : Cls c.d c.L) {s : ByteArray} (h : Kn c s) (hne : s ≠ topName) : 2 ≤ (c.L s).length := by
  have := (lnn_mem hc s h (hc.lin.tops s h)).2 hne
  rw [lnn_top hc] at this
  omega
theorem rank_le (hc : Cls c.d c.L) {k : KindD} (h : GdK (Kn c) k) : rank c k ≤ rmax c := by
  unfold rank
  have h3 : 3 ≤ rmax c := by unfold rmax; omega
  split
  · omega
  · split
    · omega
    · split
      · rename_i h'
        have := lnn_le hc (h.cls h')
        omega
      · split <;> omega
theorem rank_pos (hc : Cls c.d c.L) {k : KindD} (h : GdK (Kn c) k) (hne : k ≠ anyK) : 1 ≤ rank c k := by
  unfold rank
  rw [if_neg (by rw [eqK_iff]; exact hne)]
  split
  · unfold rmax; omega
  · split
    · rename_i h'
      exact lnn_pos hc (h.cls h')
    · split <;> omega
/-- A thing's kind that is not an object's of the uppermost class. -/
theorem rank_two (hc : Cls c.d c.L) {k : KindD} (h : GdK (Kn c) k) (h1 : k ≠ anyK) (h2 : k ≠ numK) (h3 : k ≠ ⟨3, topName⟩) : 2 ≤ rank c k := by
  unfold rank
  rw [if_neg (by rw [eqK_iff]; exact h1)]
  split
  · unfold rmax; omega
  · split
    · rename_i h'
      exact lnn_two hc (h.cls h') (fun e => h3 (by cases k; simp at e h'; rw [e, h']))
    · rw [if_neg (by rw [eqK_iff]; exact h2)]
      omega
theorem rank_lt_nul (hc : Cls c.d c.L) {k : KindD} (h : GdK (Kn c) k) (hne : k ≠ nulK) : rank c k < rmax c := by
  have h3 : 3 ≤ rmax c := by unfold rmax; omega
  unfold rank
  split
  · omega
  · rw [if_neg (by rw [eqK_iff]; exact hne)]
    split
    · rename_i h'
      have := lnn_le hc (h.cls h')
      omega
    · split <;> omega
theorem rank_join (hc : Cls c.d c.L) {a b : KindD} (ha : GdK (Kn c) a) (hb : GdK (Kn c) b) (hne : c.join a b ≠ a) : rank c (c.join a b) < rank c a := by
  have hlin := hc.lin
  obtain ⟨hg, hfa, hfb, -⟩ := joinB_spec hlin ha hb
  change GdK (Kn c) (c.join a b) at hg
  change FitK topName c.L a (c.join a b) at hfa
  rcases hfa with e | e | ⟨e, -⟩ | ⟨e, e2, e3, e4⟩ | ⟨e, e2, e3, e4, e5⟩
  · exact absurd e.symm hne
  · rw [e, rank_any]
    exact rank_pos hc ha (fun e' => hne (by rw [e, e']))
  · rw [show rank c a = rmax c by rw [e, rank_nul]]
    exact rank_lt_nul hc hg (fun e' => hne (by rw [e', e]))
  · rw [e2, rank_obj rfl, lnn_top hc]
    exact rank_two hc ha e4 e3 (fun e' => hne (by rw [e2, e']))
  · rw [rank_obj e4, rank_obj e3]
    refine (lnn_mem hc _ (ha.cls e3) e5).2 fun e' => hne ?_
    generalize c.join a b = j at *
    cases a
    cases j
    simp at e' e3 e4
    rw [e', e3, e4]
end
def rankL (c : Lkr) (l : List KindD) : Nat := (l.map (rank c)).sum
theorem rankL_le {c : Lkr} (hc : Cls c.d c.L) : ∀ {l : List KindD}, (∀ k ∈ l, GdK (Kn c) k) → rankL c l ≤ l.length * rmax c
  | [], _ => by simp [rankL]
  | x :: l, h => by
    have h1 := rank_le hc (h x (by simp))
    have h2 := rankL_le hc (l := l) fun k hk => h k (by simp [hk])
    simp only [rankL, List.map_cons, List.sum_cons, List.length_cons] at *
    rw [Nat.add_mul]
    omega
theorem rankL_join {c : Lkr} (hc : Cls c.d c.L) : ∀ {a b : List KindD}, a.length = b.length → (∀ k ∈ a, GdK (Kn c) k) → (∀ k ∈ b, GdK (Kn c) k) → rankL c (joinL c a b) ≤ rankL c a ∧ (chgL c a b = true → rankL c (joinL c a b) < rankL c a)
  | [], [], _, _, _ => by simp [rankL, joinL, chgL]
  | [], _ :: _, h, _, _ => by simp at h
  | _ :: _, [], h, _, _ => by simp at h
  | x :: a, y :: b, h, ha, hb => by
    obtain ⟨h1, h2⟩ := rankL_join hc (a := a) (b := b) (by simpa using h) (fun k hk => ha k (by simp [hk])) (fun k hk => hb k (by simp [hk]))
    have e : joinL c (x :: a) (y :: b) = c.join x y :: joinL c a b := by simp [joinL]
    have e2 : chgL c (x :: a) (y :: b) = (!sameK (c.join x y) x || chgL c a b) := by simp [chgL]
    have hr : rank c (c.join x y) ≤ rank c x ∧ (c.join x y ≠ x → rank c (c.join x y) < rank c x) := by
      by_cases hx : c.join x y = x
      · rw [hx]; exact ⟨Nat.le_refl _, fun h => absurd rfl h⟩
      · have := rank_join hc (ha x (by simp)) (hb y (by simp)) hx
        exact ⟨Nat.le_of_lt this, fun _ => this⟩
    rw [e, e2]
    simp only [rankL, List.map_cons, List.sum_cons] at *
    refine ⟨by omega, fun hh => ?_⟩
    rcases Bool.or_eq_true _ _ ▸ hh with hh | hh
    · have := hr.2 (by rw [Bool.not_eq_true'] at hh; exact eqK_not.1 hh)
      omega
    · have := h2 hh
      omega
def big (c : Lkr) : Nat := 2 * (20 * rmax c) + 2
/-- How much is to be looked at yet, of an operation. -/
def muO (c : Lkr) (s : StD) (b : Bool) : Nat := if s.comes then 2 * (rankL c s.locals + rankL c s.stack) + (if b then 1 else 0) else big c
def mu (c : Lkr) (s : SA) : Nat := (List.zipWith (muO c) s.S s.A).sum
theorem sum_set {l : List Nat} {n x : Nat} (hn : n < l.length) : (l.set n x).sum + l[n] = l.sum + x := by
  induction l generalizing n with
  | nil => cases hn
  | cons y l ih =>
    cases n with
    | zero => simp; omega
    | succ n =>
      have := ih (n := n) (by simpa using hn)
      simp at *
      omega
theorem zip_set {α β γ : Type} (f : α → β → γ) : ∀ (a : List α) (b : List β) (n : Nat) (x : α) (y : β), n < a.length → n < b.length → List.zipWith f (a.set n x) (b.set n y) = (List.zipWith f a b).set n (f x y)
  | [], _, _, _, _, h, _ => by cases h
  | _ :: _, [], _, _, _, _, h => by cases h
  | p :: a, q :: b, 0, x, y, _, _ => by simp
  | p :: a, q :: b, n + 1, x, y, h, h' => by simp [zip_set f a b n x y (by simpa using h) (by simpa using h')]
theorem mu_set {c : Lkr} {S : List StD} {A : List Bool} {n : Nat} (hS : n < S.length) (hA : n < A.length) (x : StD) (y : Bool) : mu c ⟨S.set n x, A.set n y⟩ + muO c S[n] A[n] = mu c ⟨S, A⟩ + muO c x y := by
  have hz : n < (List.zipWith (muO c) S A).length := by rw [List.length_zipWith]; omega
  have := sum_set (l := List.zipWith (muO c) S A) (n := n) (x := muO c x y) hz
  rw [List.getElem_zipWith] at this
  unfold mu
  rw [zip_set _ _ _ _ _ _ hS hA]
  exact this
theorem set_own {α : Type} {l : List α} {n : Nat} (hn : n < l.length) : l.set n l[n] = l := List.set_getElem_self hn
theorem come_mu {c : Lkr} (hw : Wf c) {s s' : SA} {n : Nat} {lo st : List KindD} (hn : n < s.S.length) (hnA : n < s.A.length) (hi : Inv c s) (hlo : lo.length = c.m.locals.toNat) (gl : ∀ k ∈ lo, GdK (Kn c) k) (gs : ∀ k ∈ st, GdK (Kn c) k) (h : comeD c s n lo st = some s') : mu c s' ≤ mu c s := by
  have h10 := hw.st.2
  have hl10 := hw.lc.2
  cases h0 : s.S[n].comes with
  | true =>
    rw [come_old hn h0] at h
    split at h
    · rename_i hh
      rw [Bool.and_eq_true, decide_eq_true_iff, decide_eq_true_iff] at hh
      obtain ⟨i1, i2, i3⟩ := hi n hn
      have hL := rankL_join hw.cls (a := s.S[n].locals) (b := lo) (by rw [(i1 h0).1, hlo]) i2 gl
      have hS := rankL_join hw.cls (a := s.S[n].stack) (b := st) hh.1 i3 gs
      cases h
      cases hch : (chgL c s.S[n].locals lo || chgL c s.S[n].stack st) with
      | true =>
        rw [if_pos rfl]
        have := mu_set (c := c) (S := s.S) (A := s.A) hn hnA ⟨true, joinL c s.S[n].locals lo, joinL c s.S[n].stack st⟩ true
        have e : mu c ⟨s.S, s.A⟩ = mu c s := rfl
        unfold muO at this
        rw [h0] at this
        simp only [if_true] at this
        have h9 : rankL c (joinL c s.S[n].locals lo) + rankL c (joinL c s.S[n].stack st) < rankL c s.S[n].locals + rankL c s.S[n].stack := by
          rcases Bool.or_eq_true _ _ ▸ hch with h | h
          · have := hL.2 h; have := hS.1; omega
          · have := hS.2 h; have := hL.1; omega
        split at this <;> omega
      | false =>
        rw [if_neg (by decide)]
        have := mu_set (c := c) (S := s.S) (A := s.A) hn hnA ⟨true, joinL c s.S[n].locals lo, joinL c s.S[n].stack st⟩ s.A[n]
        rw [set_own hnA] at this
        have e : mu c ⟨s.S, s.A⟩ = mu c s := rfl
        unfold muO at this
        rw [h0] at this
        simp only [if_true] at this
        have := hL.1
        have := hS.1
        omega
    · cases h
  | false =>
    rw [come_new hn h0] at h
    split at h
    · rename_i hh
      have hh := of_decide_eq_true hh
      cases h
      have := mu_set (c := c) (S := s.S) (A := s.A) hn hnA ⟨true, lo, st⟩ true
      have e : mu c ⟨s.S, s.A⟩ = mu c s := rfl
      unfold muO at this
      rw [h0] at this
      simp only [if_true] at this
      have r1 := rankL_le hw.cls gl
      have r2 := rankL_le hw.cls gs
      have r3 : lo.length * rmax c + st.length * rmax c ≤ 20 * rmax c := by
        rw [← Nat.add_mul]
        exact Nat.mul_le_mul_right _ (by omega)
      simp at this
      unfold big at this
      omega
    · cases h
theorem come_a {c : Lkr} {s s' : SA} {n : Nat} {lo st : List KindD} (hn : n < s.S.length) (hA : AInv s) (h : comeD c s n lo st = some s') : AInv s' := by
  have hcm := come_comes hn h
  have hl := come_len h
  have key : ∀ k (h : k < s'.A.length), s'.A[k] = true → k = n ∨ ∃ h' : k < s.A.length, s.A[k] = true := fun k hk e => by
    by_cases ek : k = n
    · exact Or.inl ek
    · refine Or.inr ⟨by rw [← hl.2]; exact hk, ?_⟩
      have hne : n ≠ k := fun e => ek e.symm
      unfold comeD at h
      split at h
      · cases h
        revert e
        split
        · split
          · simp [hne]
          · exact fun h => h
        · simp [hne]
      · cases h
  intro k hk hk' e
  rcases key k hk e with rfl | ⟨h1, h2⟩
  · obtain ⟨-, h2⟩ := come_st hn h
    rcases h2 with ⟨-, -, e⟩ | ⟨-, e⟩ <;> simp [e]
  · obtain ⟨h3, h4⟩ := hcm k (by rw [← hl.1]; exact hk') (hA k h1 (by rw [← hl.1]; exact hk') h2)
    exact h4
end Go.Proofs.YtkhconnebiiboaaGreatDoor
/- What looking leaves: plain. -/
namespace Go.Proofs.YtkhconnebiiboaaGreatDoor

theorem tp_out {c : Lkr} {lo st asked : List KindD} {puts : List KindD → Option (List KindD)} {r : LS} (h : tpD c lo st asked puts = some r) : r.1 = lo ∧ ∃ t rest p, takeD c st asked = some (t, rest) ∧ puts t = some p ∧ r.2 = rest ++ p := by
  unfold tpD at h
  obtain ⟨⟨t, rest⟩, h1, h2⟩ := Option.bind_eq_some_iff.1 h
  obtain ⟨p, h3, h4⟩ := Option.map_eq_some_iff.1 h2
  subst h4
  exact ⟨rfl, t, rest, p, h1, h3, rfl⟩
section
variable {c : Lkr} {lo st : List KindD} {r : LS}
/-- What was left may be asked of, if what was there may be. -/
def LG (c : Lkr) (lo : List KindD) (r : LS) : Prop := r.1.length = lo.length ∧ (∀ k ∈ r.1, GdK (Kn c) k) ∧ ∀ k ∈ r.2, GdK (Kn c) k
theorem tp_gd {asked : List KindD} {puts : List KindD → Option (List KindD)} (gl : ∀ k ∈ lo, GdK (Kn c) k) (gs : ∀ k ∈ st, GdK (Kn c) k) (hp : ∀ t p, (∀ k ∈ t, GdK (Kn c) k) → t.length = asked.length → puts t = some p → ∀ k ∈ p, GdK (Kn c) k) (h : tpD c lo st asked puts = some r) : LG c lo r := by
  obtain ⟨e1, t, rest, p, h1, h2, e2⟩ := tp_out h
  obtain ⟨l1, l2, l3, l4⟩ := take_len h1
  refine ⟨by rw [e1], by rw [e1]; exact gl, fun k hk => ?_⟩
  rw [e2] at hk
  rcases List.mem_append.1 hk with hk | hk
  · exact gs k (l4 k hk)
  · exact hp t p (fun k hk => gs k (l3 k hk)) l1 h2 k hk
theorem put_gd {p : List KindD} (gl : ∀ k ∈ lo, GdK (Kn c) k) (gs : ∀ k ∈ st, GdK (Kn c) k) (gp : ∀ k ∈ p, GdK (Kn c) k) (h : some (lo, st ++ p) = some r) : LG c lo r := by
  cases h
  exact ⟨rfl, gl, fun k hk => by
    rcases List.mem_append.1 hk with hk | hk
    · exact gs k hk
    · exact gp k hk⟩
theorem none_gd (gl : ∀ k ∈ lo, GdK (Kn c) k) (gs : ∀ k ∈ st, GdK (Kn c) k) (h : some (lo, st) = some r) : LG c lo r := by
  cases h
  exact ⟨rfl, gl, gs⟩
theorem kAt_gd {l : List KindD} (g : ∀ k ∈ l, GdK (Kn c) k) (n : Nat) : GdK (Kn c) (kAt l n) := by
  unfold kAt
  cases h : l[n]? with
  | none => exact numK_gd c
  | some k => exact g k (List.mem_of_getElem? h)
theorem one_gd {a : KindD} (h : GdK (Kn c) a) : ∀ k ∈ [a], GdK (Kn c) k := fun k hk => by simp at hk; rw [hk]; exact h
theorem two_gd {a b : KindD} (ha : GdK (Kn c) a) (hb : GdK (Kn c) b) : ∀ k ∈ [a, b], GdK (Kn c) k := fun k hk => by
  simp at hk
  rcases hk with rfl | rfl
  · exact ha
  · exact hb
theorem some_gd {a : KindD} (h : a.kind = 0 ∨ GdK (Kn c) a) : ∀ k ∈ someD a, GdK (Kn c) k := fun k hk => by
  unfold someD at hk
  split at hk
  · cases hk
  · rename_i h0
    simp at hk
    rw [hk]
    exact h.resolve_left h0
theorem nil_gd : ∀ k ∈ ([] : List KindD), GdK (Kn c) k := fun k hk => by cases hk
theorem place_gd {a p : KindD} (ha : GdK (Kn c) a) (h : placeOfD a = some p) : GdK (Kn c) p := by
  unfold placeOfD at h
  split at h
  · cases h; exact nulK_gd c
  · split at h
    · cases h; exact numK_gd c
    · split at h
      · rename_i h4
        cases h
        rcases ha with ⟨-, h⟩ | e | e | e | e
        · exact Or.inl ⟨Or.inl rfl, h⟩
        · exact absurd (numK_kind e) (by omega)
        · exact absurd (rowK_kind e) (by omega)
        · exact absurd (nulK_kind e) (by omega)
        · exact absurd (anyK_kind e) (by omega)
      · cases h
theorem stack_gd {x : Cd.Op4} (gl : ∀ k ∈ lo, GdK (Kn c) k) (gs : ∀ k ∈ st, GdK (Kn c) k) (h : stackD c x lo st = some r) : LG c lo r := by
  unfold stackD at h
  split at h
  · exact put_gd gl gs (one_gd (numK_gd c)) h
  split at h
  · exact put_gd gl gs (one_gd (nulK_gd c)) h
  split at h
  · split at h
    · cases h
    · exact put_gd gl gs (one_gd (kAt_gd gl _)) h
  split at h
  · obtain ⟨⟨t, rest⟩, h1, h2⟩ := Option.map_eq_some_iff.1 h
    subst h2
    obtain ⟨l1, l2, l3, l4⟩ := take_len h1
    refine ⟨by simp, fun k hk => ?_, fun k hk => gs k (l4 k hk)⟩
    rcases List.mem_or_eq_of_mem_set hk with hk | rfl
    · exact gl k hk
    · exact kAt_gd (fun k hk => gs k (l3 k hk)) 0
  split at h
  · exact tp_gd gl gs (fun t p _ _ e => by cases e; exact nil_gd) h
  split at h
  · exact tp_gd gl gs (fun t p g _ e => by cases e; exact two_gd (kAt_gd g 0) (kAt_gd g 0)) h
  split at h
  · exact tp_gd gl gs (fun t p g _ e => by cases e; exact two_gd (kAt_gd g 1) (kAt_gd g 0)) h
  · exact none_gd gl gs h
theorem branch_gd {x : Cd.Op4} (gl : ∀ k ∈ lo, GdK (Kn c) k) (gs : ∀ k ∈ st, GdK (Kn c) k) (h : branchD c x lo st = some r) : LG c lo r := by
  unfold branchD at h
  split at h
  · exact tp_gd gl gs (fun t p _ _ e => by cases e; exact nil_gd) h
  split at h
  · exact tp_gd gl gs (fun t p _ _ e => by cases e; exact nil_gd) h
  split at h
  · exact tp_gd gl gs (fun t p _ _ e => by cases e; exact nil_gd) h
  split at h
  · exact tp_gd gl gs (fun t p _ _ e => by cases e; exact nil_gd) h
  · exact none_gd gl gs h
theorem row_gd (hw : Wf c) {x : Cd.Op4} (ha : 0 ≤ x.a) (ht : tellsD c x lo.length = true) (gl : ∀ k ∈ lo, GdK (Kn c) k) (gs : ∀ k ∈ st, GdK (Kn c) k) (h : rowD c x lo st = some r) : LG c lo r := by
  unfold rowD at h
  split at h
  · exact tp_gd gl gs (fun t p _ _ e => by cases e; exact one_gd (rowK_gd c)) h
  split at h
  · rename_i ho
    have h1 : x.a < c.d.classes.length := by
      unfold tellsD at ht
      rw [ho] at ht
      exact of_decide_eq_true ht
    refine tp_gd gl gs (fun t p _ _ e => by
      cases e
      refine one_gd (Or.inl ⟨Or.inr rfl, ?_⟩)
      rcases ofC_gd hw ha h1 with ⟨-, h⟩ | e | e | e | e
      · exact h
      · exact absurd (numK_kind e) (by show ¬ (3 : Int) = 1; decide)
      · exact absurd (rowK_kind e) (by show ¬ (3 : Int) = 2; decide)
      · exact absurd (nulK_kind e) (by show ¬ (3 : Int) = 5; decide)
      · exact absurd (anyK_kind e) (by show ¬ (3 : Int) = 6; decide)) h
  split at h
  · exact tp_gd gl gs (fun t p g _ e => by
      obtain ⟨q, h1, h2⟩ := Option.map_eq_some_iff.1 e
      subst h2
      exact one_gd (place_gd (kAt_gd g 0) h1)) h
  split at h
  · exact tp_gd gl gs (fun t p g _ e => by
      obtain ⟨q, h1, h2⟩ := Option.bind_eq_some_iff.1 e
      split at h2
      · cases h2; exact nil_gd
      · cases h2) h
  split at h
  · exact tp_gd gl gs (fun t p g _ e => by
      obtain ⟨q, h1, h2⟩ := Option.map_eq_some_iff.1 e
      subst h2
      exact one_gd (numK_gd c)) h
  · exact none_gd gl gs h
theorem fld_gd (hw : Wf c) {x : Cd.Op4} (h0 : 0 ≤ x.a) (h1 : x.a < c.d.classes.length) (h2 : 0 ≤ x.b) (h3 : x.b < (c.flds x).length) : GdK (Kn c) (c.fld x) := by
  obtain ⟨n, hn, hl, hN⟩ := Cd_nat h0 h1
  have hnf : n < c.d.fields.length := by rw [hw.fl]; exact hl
  have hfs : c.flds x = c.d.fields[n] := by unfold Lkr.flds; rw [hN, List.getElem?_eq_getElem hnf]; rfl
  rw [hfs] at h3
  obtain ⟨k, hk, hkl, hK⟩ := Cd_nat h2 h3
  unfold Lkr.fld
  rw [hfs, hK, List.getElem?_eq_getElem hkl]
  exact hw.fk _ (List.getElem_mem hnf) _ (List.getElem_mem hkl)
theorem thing_gd (hw : Wf c) {x : Cd.Op4} (ha : 0 ≤ x.a) (hb : 0 ≤ x.b) (ht : tellsD c x lo.length = true) (gl : ∀ k ∈ lo, GdK (Kn c) k) (gs : ∀ k ∈ st, GdK (Kn c) k) (h : thingD c x lo st = some r) : LG c lo r := by
  unfold thingD at h
  split at h
  · rename_i ho
    exact put_gd gl gs (one_gd (ofC_gd hw ha (by unfold tellsD at ht; rw [ho] at ht; exact of_decide_eq_true ht))) h
  split at h
  · rename_i ho
    have h1 : x.a < c.d.classes.length ∧ x.b < (c.flds x).length := by
      unfold tellsD at ht
      rw [ho] at ht
      have := Bool.and_eq_true _ _ ▸ ht
      exact ⟨of_decide_eq_true this.1, of_decide_eq_true this.2⟩
    exact tp_gd gl gs (fun t p _ _ e => by cases e; exact one_gd (fld_gd hw ha h1.1 hb h1.2)) h
  split at h
  · exact tp_gd gl gs (fun t p _ _ e => by cases e; exact nil_gd) h
  split at h
  · exact tp_gd gl gs (fun t p _ _ e => by cases e; exact one_gd (numK_gd c)) h
  split at h
  · rename_i ho
    exact tp_gd gl gs (fun t p _ _ e => by cases e; exact one_gd (ofC_gd hw ha (by unfold tellsD at ht; rw [ho] at ht; exact of_decide_eq_true ht))) h
  split at h
  · exact tp_gd gl gs (fun t p _ _ e => by cases e; exact nil_gd) h
  · exact none_gd gl gs h
theorem told_ret (hw : Wf c) {x : Cd.Op4} (h0 : 0 ≤ x.a) (h1 : x.a < c.d.classes.length) (h2 : 0 ≤ x.b) (h3 : x.b < (c.cls x).meths.length) : (c.told x).ret.kind = 0 ∨ GdK (Kn c) (c.told x).ret := by
  obtain ⟨n, hn, hl, hN⟩ := Cd_nat h0 h1
  have hcl : c.cls x = c.d.classes[n] := by unfold Lkr.cls; rw [hN, clsAt_eq hl]
  rw [hcl] at h3
  obtain ⟨k, hk, hkl, hK⟩ := Cd_nat h2 h3
  rw [told_is hl hkl hN hK]
  exact hw.mr _ (List.getElem_mem hl) _ (List.getElem_mem hkl)
theorem call_gd (hw : Wf c) {x : Cd.Op4} (ha : 0 ≤ x.a) (hb : 0 ≤ x.b) (ht : tellsD c x lo.length = true) (gl : ∀ k ∈ lo, GdK (Kn c) k) (gs : ∀ k ∈ st, GdK (Kn c) k) (h : callD c x lo st = some r) : LG c lo r := by
  unfold callD at h
  split at h
  · rename_i ho
    have h1 : x.a < c.d.classes.length ∧ x.b < (c.cls x).meths.length := by
      unfold tellsD at ht
      rw [ho] at ht
      have := Bool.and_eq_true _ _ ▸ ht
      exact ⟨of_decide_eq_true this.1, of_decide_eq_true this.2⟩
    exact tp_gd gl gs (fun t p _ _ e => by cases e; exact some_gd (told_ret hw ha h1.1 hb h1.2)) h
  split at h
  · exact tp_gd gl gs (fun t p _ _ e => by cases e; exact nil_gd) h
  split at h
  · exact tp_gd gl gs (fun t p _ _ e => by cases e; exact nil_gd) h
  split at h
  · exact tp_gd gl gs (fun t p _ _ e => by cases e; exact nil_gd) h
  split at h
  · exact tp_gd gl gs (fun t p _ _ e => by cases e; exact nil_gd) h
  split at h
  · exact put_gd gl gs (one_gd (numK_gd c)) h
  · exact none_gd gl gs h
theorem run_gd (hw : Wf c) {x : Cd.Op4} (ha : x.op ≠ 1 → 0 ≤ x.a) (hb : 0 ≤ x.b) (gl : ∀ k ∈ lo, GdK (Kn c) k) (gs : ∀ k ∈ st, GdK (Kn c) k) (h : runD c x lo st = some r) : LG c lo r ∧ (r.2.length : Int) ≤ c.m.stack := by
  unfold runD at h
  split at h
  · rename_i hts
    have ht := (Bool.and_eq_true _ _ ▸ hts).1
    obtain ⟨r', h1, h2⟩ := Option.bind_eq_some_iff.1 h
    split at h2
    · rename_i hst
      cases h2
      refine ⟨?_, of_decide_eq_true hst⟩
      unfold workD at h1
      split at h1
      · exact tp_gd gl gs (fun t p _ _ e => by cases e; exact one_gd (numK_gd c)) h1
      split at h1
      · exact branch_gd gl gs h1
      split at h1
      · rename_i hr
        exact row_gd hw (ha fun e => by rw [e] at hr; exact absurd hr (by decide)) ht gl gs h1
      split at h1
      · rename_i hr
        exact thing_gd hw (ha fun e => by rw [e] at hr; exact absurd hr (by decide)) hb ht gl gs h1
      split at h1
      · rename_i hr
        exact call_gd hw (ha fun e => by rw [e] at hr; exact absurd hr (by decide)) hb ht gl gs h1
      · exact stack_gd gl gs h1
    · cases h2
  · cases h
end
/-- What holds from one look to the next. -/
structure Go2 (c : Lkr) (s s' : SA) : Prop where
  ls : s'.S.length = s.S.length
  la : s'.A.length = s.A.length
  iv : Inv c s'
  av : AInv s'
  mu : mu c s' ≤ mu c s
  cm : ∀ k (hk : k < s.S.length), s.S[k].comes = true → ∃ h' : k < s'.S.length, s'.S[k].comes = true
theorem Go2.refl {c : Lkr} {s : SA} (hi : Inv c s) (ha : AInv s) : Go2 c s s := ⟨rfl, rfl, hi, ha, Nat.le_refl _, fun _ h hc => ⟨h, hc⟩⟩
theorem Go2.trans {c : Lkr} {a b d : SA} (h : Go2 c a b) (k : Go2 c b d) : Go2 c a d := ⟨k.ls.trans h.ls, k.la.trans h.la, k.iv, k.av, Nat.le_trans k.mu h.mu, fun n hn hc => by
  obtain ⟨h1, h2⟩ := h.cm n hn hc
  exact k.cm n h1 h2⟩
section
variable {c : Lkr} {s s' : SA} {lo st : List KindD}
theorem come_go (hw : Wf c) {n : Nat} (hS : s.S.length = c.ins.length) (hA : s.A.length = c.ins.length) (hn : n < c.ins.length) (hi : Inv c s) (ha : AInv s) (hlo : lo.length = c.m.locals.toNat) (gl : ∀ k ∈ lo, GdK (Kn c) k) (gs : ∀ k ∈ st, GdK (Kn c) k) (h : comeD c s n lo st = some s') : Go2 c s s' :=
  have hnS : n < s.S.length := by rw [hS]; exact hn
  have hnA : n < s.A.length := by rw [hA]; exact hn
  ⟨(come_len h).1, (come_len h).2, come_inv hw hnS hi hlo gl gs h, come_a hnS ha h, come_mu hw hnS hnA hi hlo gl gs h, come_comes hnS h⟩
theorem comeAt_go (hw : Wf c) (h1 : 0 < c.ins.length) {x : Int} (hS : s.S.length = c.ins.length) (hA : s.A.length = c.ins.length) (hi : Inv c s) (ha : AInv s) (hlo : lo.length = c.m.locals.toNat) (gl : ∀ k ∈ lo, GdK (Kn c) k) (gs : ∀ k ∈ st, GdK (Kn c) k) (h : comeAtD c s x lo st = some s') : Go2 c s s' := by
  obtain ⟨n, -, hn, hnt⟩ := placeN_nat c.ins x h1
  unfold comeAtD at h
  rw [hnt] at h
  exact come_go hw hS hA hn hi ha hlo gl gs h
theorem hands_go (hw : Wf c) (h1 : 0 < c.ins.length) {loc : Int} (hlo : lo.length = c.m.locals.toNat) (gl : ∀ k ∈ lo, GdK (Kn c) k) : ∀ (l : List HandD), (∀ h ∈ l, Kn c h.cls) → ∀ (s s' : SA), s.S.length = c.ins.length → s.A.length = c.ins.length → Inv c s → AInv s → handsD c loc lo l s = some s' → Go2 c s s'
  | [], _, s, s', _, _, hi, ha, h => by
    cases h
    exact Go2.refl hi ha
  | hd :: l, hk, s, s', hS, hA, hi, ha, h => by
    unfold handsD at h
    split at h
    · obtain ⟨s1, e1, e2⟩ := Option.bind_eq_some_iff.1 h
      have gs : ∀ k ∈ [(⟨3, hd.cls⟩ : KindD)], GdK (Kn c) k := one_gd (Or.inl ⟨Or.inl rfl, hk hd (by simp)⟩)
      have g1 := comeAt_go hw h1 hS hA hi ha hlo gl gs e1
      exact g1.trans (hands_go hw h1 hlo gl l (fun h hh => hk h (by simp [hh])) s1 s' (g1.ls.trans hS) (g1.la.trans hA) g1.iv g1.av e2)
    · exact hands_go hw h1 hlo gl l (fun h hh => hk h (by simp [hh])) s s' hS hA hi ha h
theorem look_go (hw : Wf c) (h1 : 0 < c.ins.length) {n : Nat} (hS : s.S.length = c.ins.length) (hA : s.A.length = c.ins.length) (hn : n < c.ins.length) (hi : Inv c s) (ha : AInv s) (hcm : ∀ h : n < s.S.length, s.S[n].comes = true) (h : lookD c s n = some s') : Go2 c s s' := by
  have hnS : n < s.S.length := by rw [hS]; exact hn
  have hx := Cd.get4_mem c.ins n hn
  obtain ⟨i1, i2, i3⟩ := hi n hnS
  have hl0 := (i1 (hcm hnS)).1
  cases hr : runD c (Cd.get4 c.ins n) s.S[n].locals s.S[n].stack with
  | none => rw [look_no hnS hr] at h; cases h
  | some r =>
    obtain ⟨⟨g1, g2, g3⟩, -⟩ := run_gd hw (hw.aa _ hx) (hw.bb _ hx) i2 i3 hr
    have hl1 : r.1.length = c.m.locals.toNat := g1.trans hl0
    by_cases hls : n + 1 = c.ins.length ∧ goesD (Cd.get4 c.ins n).op = true
    · rw [look_last hnS hr hls.1 hls.2] at h; cases h
    · have hls' : ¬ n + 1 = c.ins.length ∨ goesD (Cd.get4 c.ins n).op = false := by
        by_cases e : n + 1 = c.ins.length
        · exact Or.inr (by cases hg : goesD (Cd.get4 c.ins n).op with | false => rfl | true => exact absurd ⟨e, hg⟩ hls)
        · exact Or.inl e
      rw [look_eq hnS hr hls'] at h
      obtain ⟨s1, e1, h⟩ := Option.bind_eq_some_iff.1 h
      have q1 := hands_go hw h1 hl0 i2 c.m.hands hw.hk s s1 hS hA hi ha e1
      unfold look1 at h
      obtain ⟨s2, e2, h⟩ := Option.bind_eq_some_iff.1 h
      have q2 : Go2 c s1 s2 := by
        split at e2
        · exact hands_go hw h1 hl1 g2 c.m.hands hw.hk s1 s2 (q1.ls.trans hS) (q1.la.trans hA) q1.iv q1.av e2
        · cases e2; exact Go2.refl q1.iv q1.av
      have p2 := q1.trans q2
      unfold look2 at h
      obtain ⟨s3, e3, h⟩ := Option.bind_eq_some_iff.1 h
      have q3 : Go2 c s2 s3 := by
        split at e3
        · rename_i hg
          have hn1 : n + 1 < c.ins.length := by
            rcases hls' with e | e
            · omega
            · rw [e] at hg; cases hg
          exact come_go hw (p2.ls.trans hS) (p2.la.trans hA) hn1 p2.iv p2.av hl1 g2 g3 e3
        · cases e3; exact Go2.refl p2.iv p2.av
      have p3 := p2.trans q3
      unfold look3 at h
      split at h
      · exact p3.trans (comeAt_go hw h1 (p3.ls.trans hS) (p3.la.trans hA) p3.iv p3.av hl1 g2 g3 h)
      · cases h; exact p3
end
theorem off_mu {c : Lkr} {s : SA} {n : Nat} (hS : s.S.length = c.ins.length) (hA : s.A.length = c.ins.length) (hn : n < c.ins.length) (ha : AInv s) (hon : ∀ h : n < s.A.length, s.A[n] = true) : mu c ⟨s.S, s.A.set n false⟩ < mu c s ∧ AInv ⟨s.S, s.A.set n false⟩ ∧ ∀ h : n < s.S.length, s.S[n].comes = true := by
  have hnS : n < s.S.length := by rw [hS]; exact hn
  have hnA : n < s.A.length := by rw [hA]; exact hn
  have hc := ha n hnA hnS (hon hnA)
  refine ⟨?_, ?_, fun _ => hc⟩
  · have := mu_set (c := c) (S := s.S) (A := s.A) hnS hnA s.S[n] false
    rw [set_own hnS] at this
    have e : mu c ⟨s.S, s.A⟩ = mu c s := rfl
    unfold muO at this
    rw [hc, hon hnA] at this
    simp only [if_true] at this
    simp at this
    omega
  · intro k hk hk' e
    have hk2 : k < s.A.length := by simpa using hk
    by_cases ek : n = k
    · subst ek
      simp at e
    · have : s.A[k] = true := by simpa [ek] using e
      exact ha k hk2 hk' this
end Go.Proofs.YtkhconnebiiboaaGreatDoor
/- A method's first locals. -/
namespace Go.Proofs.YtkhconnebiiboaaGreatDoor
open Go.RowKit Go.Maps

/-- A looker in memory, ahead of decoding. -/
structure LkA (c : Lkr) (B P : Nat) (v : LkV) (w : World) : Prop where
  blk : w.heap[P]? = some (.cells #[v.kC, v.kS, v.kF, v.kN, v.kT, .map (some v.Bm), .string c.m.name, .bool c.m.static, v.vA, .int .i64 c.m.ret.kind, .string c.m.ret.cls, .int .i64 c.m.stack, .int .i64 c.m.locals, .string c.m.code, v.vH, .slice none 0 0, .slice none 0 0, .slice none 0 0] 108 (0, 0))
  pB : B ≤ P
  kd : Kd B w v.kC v.kS v.kF v.kN v.kT v.Bm c.d
  ag : SL 2 RK (· < B) w v.vA c.m.args
  hd : SL 4 RH (· < B) w v.vH c.m.hands
  gl : GlK w
  bg : 6 < B
  bw : P + 1 ≤ w.heap.size
theorem LkA.below {c : Lkr} {B P : Nat} {v : LkV} {w w' : World} (h : LkA c B P v w) (hb : Below (P + 1) w w') : LkA c B P v w' :=
  have hB : Below B w w' := hb.mono (by have := h.pB; omega)
  ⟨(hb.block P (by omega)).trans h.blk, h.pB, h.kd.below hB, h.ag.keptK (Kp.below hB), h.hd.keptH (Kp.below hB), h.gl.at hB h.bg, h.bg, Nat.le_trans h.bw hb.size⟩
theorem LkA.bB {c : Lkr} {B P : Nat} {v : LkV} {w : World} (h : LkA c B P v w) : B ≤ w.heap.size := by
  have := h.pB
  have := h.bw
  omega
def FstOut (res : Option (List KindD)) (r : Ending) (w w' : World) : Prop := Below w.heap.size w w' ∧ ((∃ lo v', res = some lo ∧ r = .returned v' ∧ OwnK w' w.heap.size v' lo) ∨ (res = none ∧ ∃ e p, e ≠ 0 ∧ r = .panicked [wrongV e p]))
def fst0 (c : Lkr) (ci : Nat) : List KindD := (if c.m.static then [] else [⟨3, (clsAt c.d.classes ci).name⟩]) ++ c.m.args
theorem first_no {c : Lkr} {ci : Nat} (h : ¬ ((fst0 c ci).length : Int) ≤ c.m.locals) : firstL c.d c.m ci = none := by
  unfold firstL
  show (if decide (((fst0 c ci).length : Int) ≤ c.m.locals) = true then _ else _) = _
  rw [if_neg (by rw [decide_eq_false h]; decide)]
theorem first_ok {c : Lkr} {ci : Nat} (h : ((fst0 c ci).length : Int) ≤ c.m.locals) : firstL c.d c.m ci = some (fst0 c ci ++ List.replicate (c.m.locals.toNat - (fst0 c ci).length) anyK) := by
  unfold firstL
  show (if decide (((fst0 c ci).length : Int) ≤ c.m.locals) = true then _ else _) = _
  rw [if_pos (decide_eq_true h)]
  rfl
def lenOf : Value → Nat
  | .slice _ n _ => n
  | _ => 0
theorem new_one {W : World} {X t : Nat} {a : KindD} (h : W.heap[X]? = some (.cells #[.int .i64 a.kind, .string a.cls] t (0, 0))) (hs : a.cls.size ≤ maxLen) : SL 2 RK (· = X) W (.slice (some ⟨X, 0, none⟩) 1 1) [a] := by
  refine ⟨_, _, rfl, Nat.le_refl _, by unfold maxLen; simp, fun k hk => ?_⟩
  obtain rfl : k = 0 := by simpa using hk
  refine ⟨X, 0, [.int .i64 a.kind, .string a.cls], rfl, rfl, lt_of h, rfl, fun j hj => ?_, rfl, hs⟩
  match j, hj with
  | 0, _ => exact cell_of h 0 rfl
  | 1, _ => exact cell_of h 1 rfl
set_option maxRecDepth 100000 in
set_option maxHeartbeats 4000000 in
theorem firstLocals_any {c : Lkr} {B P : Nat} {v : LkV} (hlc : c.m.locals ≤ 10) (hag : c.m.args.length ≤ 4) (w : World) (hl : LkA c B P v w) (ci : Nat) (hci : ci < c.d.classes.length) :
    Calls Tryz.prog 53 #[.pointer (some ⟨P, 0, none⟩), .int .i64 (ci : Int)] w fun r w' => FstOut (firstL c.d c.m ci) r w w' := by
  have HL := mkHid hl
  have HAG := mkHid hl.ag
  obtain ⟨aA, cA, eA, -⟩ := hl.ag
  rw [eA] at HAG
  have p7 := cell_of hl.blk 7 (x := .bool c.m.static) rfl
  have p8 : w.cell? ⟨P, 8, none⟩ = some (.slice aA c.m.args.length cA) := by rw [← eA]; exact cell_of hl.blk 8 rfl
  have p12 := cell_of hl.blk 12 (x := .int .i64 c.m.locals) rfl
  have lP := lt_of hl.blk
  obtain ⟨n9, hn9⟩ : ∃ n9, n9 = (fst0 c ci).length := ⟨_, rfl⟩
  have HN9 := mkHid hn9
  have HEA := mkHid eA
  have hn95 : n9 ≤ 5 := by
    rw [hn9]
    unfold fst0
    rw [List.length_append]
    split <;> simp <;> omega
  cases hst : c.m.static with
  | true =>
    have HF0 : Hid ([] ++ c.m.args = fst0 c ci) := by show _ = _; unfold fst0; rw [hst]; rfl
    rw [hst] at p7
    have HBz : Hid (Below w.heap.size w w) := Below.refl _ _
    have HOz : Hid (OwnK w w.heap.size (.slice none 0 0) []) := World.ownsRow_nil _ _ _ _
    clear hl eA hn9 p8 p12
    go_enter Tryz.func53, Tryz.ntmps53
    have HLK := mkHid (HL.out.below (HBz.out.mono HL.out.bw))
    have r8 : w.cell? ⟨P, 8, none⟩ = some (.slice aA c.m.args.length cA) := (by rw [← HEA.out]; exact cell_of HLK.out.blk 8 rfl)
    have HSA : Hid (SL 2 RK (· < B) w (.slice aA c.m.args.length cA) c.m.args) := HAG.out.keptK (Kp.below (HBz.out.mono HL.out.bB))
    go_wp2_with (at_builtin; refine wpList_append_kinds _ rfl _ _ rfl w.heap.size (.slice none 0 0) ([]) rfl HOz.out (· < B) (.slice aA c.m.args.length cA) c.m.args rfl HSA.out (by simp; omega) HBz.out.size ?_; intro v4 w4 ho4 hg4 hv4; have HB4 : Hid (Below w.heap.size w w4) := HBz.out.grown hg4 HBz.out.size (fun k e => (HOz.out.lt k e).1); have HL4 := mkHid (HL.out.below (HB4.out.mono HL.out.bw)); have s12 := cell_of HL4.out.blk 12 (x := .int .i64 c.m.locals) rfl; rw [show [] ++ c.m.args = fst0 c ci from HF0.out] at ho4; have HO4 := mkHid ho4; obtain ⟨a4, c4, e4⟩ := own_shape ho4; rw [← HN9.out] at e4; subst e4; clear ho4 hg4 hv4)
    refine (demand_any _ _ _).mono ?_
    rintro r w5 ⟨hw5, ⟨hb, rfl⟩ | ⟨hb, rfl⟩⟩
    · have hno : ¬ ((fst0 c ci).length : Int) ≤ c.m.locals := by rw [← HN9.out]; exact of_decide_eq_false hb
      exact ⟨rfl, by rw [hw5]; exact HB4.out, Or.inr ⟨first_no hno, 3, 0, by decide, rfl⟩⟩
    rw [hw5]
    have HYES := mkHid (of_decide_eq_true hb)
    clear hb hw5 w5 s12
    go_wp2_with fail
    go_loopw [5] (fun v5 wr => ∃ (k : Nat) (a5 : Option Addr) (c5 : Nat), v5 = .slice a5 (n9 + k) c5 ∧ Hid (n9 + k ≤ c.m.locals.toNat ∧ Below w.heap.size w wr ∧ OwnK wr w.heap.size (.slice a5 (n9 + k) c5) (fst0 c ci ++ List.replicate k anyK))) (fun v5 _ => c.m.locals.toNat - lenOf v5)
    case atStart => exact ⟨0, a4, c4, by rw [Nat.add_zero], by have := HYES.out; omega, HB4.out, by rw [Nat.add_zero, List.replicate_zero, List.append_nil]; exact HO4.out⟩
    case round =>
      rename World => wr
      obtain ⟨k, a5, c5, rfl, HST⟩ := hrel
      have HLr := mkHid (HL.out.below (HST.out.2.1.mono HL.out.bw))
      have t12 := cell_of HLr.out.blk 12 (x := .int .i64 c.m.locals) rfl
      have hle := HST.out.1
      by_cases hlt : n9 + k < c.m.locals.toNat
      · obtain ⟨-, -, g0, g1, -⟩ := HLr.out.gl
        have h01 : ((n9 + k : Nat) : Int) < c.m.locals := by omega
        have HLEN : Hid (n9 + k = (fst0 c ci ++ List.replicate k anyK).length) := by show _ = _; rw [List.length_append, List.length_replicate, ← HN9.out]
        have HBX := mkHid (HST.out.2.1.alloc HST.out.2.1.size (.cells #[.int .i64 6, .string noNm] 24))
        have HSX := mkHid (new_one (a := anyK) (heap_alloc_new wr (.cells #[.int .i64 6, .string noNm] 24)) (Nat.zero_le _))
        have HOX := mkHid (own_up HST.out.2.2 ((Below.refl wr.heap.size wr).alloc (Nat.le_refl _) (.cells #[.int .i64 6, .string noNm] 24)))
        have HNX : Hid (n9 + (k + 1) = (fst0 c ci ++ List.replicate k anyK ++ [anyK]).length) := by show _ = _; rw [List.length_append, ← HLEN.out]; rfl
        have HMT := mkHid (And.intro hlt (Nat.succ_le_of_lt hlt))
        have hlc3 : n9 + k + 1 ≤ 1000000 := by omega
        go_wp2_with (at_builtin; refine wpList_append_kinds _ rfl _ _ rfl w.heap.size (.slice a5 (n9 + k) c5) (fst0 c ci ++ List.replicate k anyK) rfl HOX.out (· = wr.heap.size) (.slice (some ⟨wr.heap.size, 0, none⟩) 1 1) [anyK] rfl HSX.out (by rw [← HLEN.out]; exact hlc3) HBX.out.size ?_; intro v7 w7 ho7 hg7 hv7; have HB7 : Hid (Below w.heap.size w w7) := HBX.out.grown hg7 HBX.out.size (fun k e => (HOX.out.lt k e).1); have HO7 := mkHid ho7; obtain ⟨a7, c7, e7⟩ := own_shape ho7; rw [← HNX.out] at e7; subst e7; clear ho7 hg7 hv7)
        go_roundw
        case rel => exact ⟨k + 1, a7, c7, rfl, by have := HMT.out.2; omega, HB7.out, by have h9 := HO7.out; rw [List.append_assoc, ← List.replicate_succ'] at h9; exact h9⟩
        case measure => have hm9 := HMT.out.1; simp [lenOf]; omega
      · have h01 : ¬ ((n9 + k : Nat) : Int) < c.m.locals := by omega
        have HFN : Hid (firstL c.d c.m ci = some (fst0 c ci ++ List.replicate k anyK)) := by
          have h9 := HYES.out
          show _ = _
          rw [first_ok (by rw [← HN9.out]; exact h9), ← HN9.out, show c.m.locals.toNat - n9 = k by omega]
        go_wp2_with fail
        go_ret
        exact ⟨HST.out.2.1, Or.inl ⟨_, _, HFN.out, rfl, HST.out.2.2⟩⟩
  | false =>
    have HF0 : Hid ([⟨3, (clsAt c.d.classes ci).name⟩] ++ c.m.args = fst0 c ci) := by show _ = _; unfold fst0; rw [hst]; rfl
    rw [hst] at p7
    rw [clsAt_eq hci] at HF0
    have hC := hl.kd.lk.C
    obtain ⟨aC, cC, eC, -⟩ := hl.kd.lk.C
    rw [eC] at hC
    obtain ⟨bC, oC, vf, vm, e9, hbC, k0, -, -, -, -, -, hnsz, -⟩ := hC.atC ci hci
    subst e9
    have p0 : w.cell? ⟨P, 0, none⟩ = some (.slice (some ⟨bC, oC, none⟩) c.d.classes.length cC) := by rw [← eC]; exact cell_of hl.blk 0 rfl
    have h00 : (0 : Int) ≤ ci := by omega
    have h01 : (ci : Int) < c.d.classes.length := by omega
    have HNS := mkHid hnsz
    generalize c.d.classes[ci].name = nm at *
    clear hl eA hn9 p8 p12 hC eC hbC hnsz
    go_enter Tryz.func53, Tryz.ntmps53
    go_wp2_with fail
    refine (object_any _ _).mono ?_
    rintro r w1 ⟨rfl, hb1⟩
    have HBX := mkHid (hb1.alloc hb1.size (.cells #[.int .i64 3, .string nm] 24))
    have HSX := mkHid (new_one (a := ⟨3, nm⟩) (heap_alloc_new w1 (.cells #[.int .i64 3, .string nm] 24)) HNS.out)
    clear hb1 p7 p0 k0
    go_wp2_with (first | (at_builtin; refine wpList_append_kinds _ rfl _ _ rfl w.heap.size (.slice none 0 0) [] rfl (World.ownsRow_nil _ _ _ _) (· = w1.heap.size) (.slice (some ⟨w1.heap.size, 0, none⟩) 1 1) [⟨3, nm⟩] rfl HSX.out (by simp) HBX.out.size ?_; intro v2 w2 ho2 hg2 hv2; have HBz : Hid (Below w.heap.size w w2) := HBX.out.grown hg2 HBX.out.size (fun k e => by simp [Value.ownBlock] at e); have HOz : Hid (OwnK w2 w.heap.size v2 [⟨3, nm⟩]) := ho2; obtain ⟨a2, c2, e2⟩ : ∃ a2 c2, v2 = .slice a2 1 c2 := own_shape HOz.out; subst e2; clear ho2 hg2 hv2; have HLK := mkHid (HL.out.below (HBz.out.mono HL.out.bw)); have r8 : w2.cell? ⟨P, 8, none⟩ = some (.slice aA c.m.args.length cA) := (by rw [← HEA.out]; exact cell_of HLK.out.blk 8 rfl); have HSA : Hid (SL 2 RK (· < B) w2 (.slice aA c.m.args.length cA) c.m.args) := HAG.out.keptK (Kp.below (HBz.out.mono HL.out.bB))) | (at_builtin; refine wpList_append_kinds _ rfl _ _ rfl w.heap.size (.slice a2 1 c2) ([⟨3, nm⟩]) rfl HOz.out (· < B) (.slice aA c.m.args.length cA) c.m.args rfl HSA.out (by simp; omega) HBz.out.size ?_; intro v4 w4 ho4 hg4 hv4; have HB4 : Hid (Below w.heap.size w w4) := HBz.out.grown hg4 HBz.out.size (fun k e => (HOz.out.lt k e).1); have HL4 := mkHid (HL.out.below (HB4.out.mono HL.out.bw)); have s12 := cell_of HL4.out.blk 12 (x := .int .i64 c.m.locals) rfl; rw [show [⟨3, nm⟩] ++ c.m.args = fst0 c ci from HF0.out] at ho4; have HO4 := mkHid ho4; obtain ⟨a4, c4, e4⟩ := own_shape ho4; rw [← HN9.out] at e4; subst e4; clear ho4 hg4 hv4))
    refine (demand_any _ _ _).mono ?_
    rintro r w5 ⟨hw5, ⟨hb, rfl⟩ | ⟨hb, rfl⟩⟩
    · have hno : ¬ ((fst0 c ci).length : Int) ≤ c.m.locals := by rw [← HN9.out]; exact of_decide_eq_false hb
      exact ⟨rfl, by rw [hw5]; exact HB4.out, Or.inr ⟨first_no hno, 3, 0, by decide, rfl⟩⟩
    rw [hw5]
    have HYES := mkHid (of_decide_eq_true hb)
    clear hb hw5 w5 s12
    go_wp2_with fail
    go_loopw [5] (fun v5 wr => ∃ (k : Nat) (a5 : Option Addr) (c5 : Nat), v5 = .slice a5 (n9 + k) c5 ∧ Hid (n9 + k ≤ c.m.locals.toNat ∧ Below w.heap.size w wr ∧ OwnK wr w.heap.size (.slice a5 (n9 + k) c5) (fst0 c ci ++ List.replicate k anyK))) (fun v5 _ => c.m.locals.toNat - lenOf v5)
    case atStart => exact ⟨0, a4, c4, by rw [Nat.add_zero], by have := HYES.out; omega, HB4.out, by rw [Nat.add_zero, List.replicate_zero, List.append_nil]; exact HO4.out⟩
    case round =>
      rename World => wr
      obtain ⟨k, a5, c5, rfl, HST⟩ := hrel
      have HLr := mkHid (HL.out.below (HST.out.2.1.mono HL.out.bw))
      have t12 := cell_of HLr.out.blk 12 (x := .int .i64 c.m.locals) rfl
      have hle := HST.out.1
      by_cases hlt : n9 + k < c.m.locals.toNat
      · obtain ⟨-, -, g0, g1, -⟩ := HLr.out.gl
        have h01 : ((n9 + k : Nat) : Int) < c.m.locals := by omega
        have HLEN : Hid (n9 + k = (fst0 c ci ++ List.replicate k anyK).length) := by show _ = _; rw [List.length_append, List.length_replicate, ← HN9.out]
        have HBX := mkHid (HST.out.2.1.alloc HST.out.2.1.size (.cells #[.int .i64 6, .string noNm] 24))
        have HSX := mkHid (new_one (a := anyK) (heap_alloc_new wr (.cells #[.int .i64 6, .string noNm] 24)) (Nat.zero_le _))
        have HOX := mkHid (own_up HST.out.2.2 ((Below.refl wr.heap.size wr).alloc (Nat.le_refl _) (.cells #[.int .i64 6, .string noNm] 24)))
        have HNX : Hid (n9 + (k + 1) = (fst0 c ci ++ List.replicate k anyK ++ [anyK]).length) := by show _ = _; rw [List.length_append, ← HLEN.out]; rfl
        have HMT := mkHid (And.intro hlt (Nat.succ_le_of_lt hlt))
        have hlc3 : n9 + k + 1 ≤ 1000000 := by omega
        go_wp2_with (at_builtin; refine wpList_append_kinds _ rfl _ _ rfl w.heap.size (.slice a5 (n9 + k) c5) (fst0 c ci ++ List.replicate k anyK) rfl HOX.out (· = wr.heap.size) (.slice (some ⟨wr.heap.size, 0, none⟩) 1 1) [anyK] rfl HSX.out (by rw [← HLEN.out]; exact hlc3) HBX.out.size ?_; intro v7 w7 ho7 hg7 hv7; have HB7 : Hid (Below w.heap.size w w7) := HBX.out.grown hg7 HBX.out.size (fun k e => (HOX.out.lt k e).1); have HO7 := mkHid ho7; obtain ⟨a7, c7, e7⟩ := own_shape ho7; rw [← HNX.out] at e7; subst e7; clear ho7 hg7 hv7)
        go_roundw
        case rel => exact ⟨k + 1, a7, c7, rfl, by have := HMT.out.2; omega, HB7.out, by have h9 := HO7.out; rw [List.append_assoc, ← List.replicate_succ'] at h9; exact h9⟩
        case measure => have hm9 := HMT.out.1; simp [lenOf]; omega
      · have h01 : ¬ ((n9 + k : Nat) : Int) < c.m.locals := by omega
        have HFN : Hid (firstL c.d c.m ci = some (fst0 c ci ++ List.replicate k anyK)) := by
          have h9 := HYES.out
          show _ = _
          rw [first_ok (by rw [← HN9.out]; exact h9), ← HN9.out, show c.m.locals.toNat - n9 = k by omega]
        go_wp2_with fail
        go_ret
        exact ⟨HST.out.2.1, Or.inl ⟨_, _, HFN.out, rfl, HST.out.2.2⟩⟩
end Go.Proofs.YtkhconnebiiboaaGreatDoor
/- A method's code is decoded. -/
namespace Go.Proofs.YtkhconnebiiboaaGreatDoor
open Go.RowKit Go.Maps

theorem Tryz.infoState : (Tryz.prog.info? 48).map (fun i => (i.zero, i.size, i.bytes)) = some (some (.agg #[.bool false, .slice none 0 0, .slice none 0 0]), 3, 56) := by kernel_rfl
theorem Tryz.infoBool : (Tryz.prog.info? 4).map (fun i => (i.zero, i.size, i.bytes)) = some (some (.bool false), 1, 1) := by kernel_rfl
theorem made3 (a b c : Value) (n k j : Nat) (hk : k < n) (hj : j < 3) : (madeCells #[a, b, c] (n * 3))[k * 3 + j]? = #[a, b, c][j]? := by
  have h1 : k * 3 + j < n * 3 := by omega
  have h2 : (k * 3 + j) % 3 = j := by omega
  simp only [madeCells, Array.getElem?_map, Array.getElem?_range, h1, if_true, Option.map_some, List.size_toArray, List.length_cons, List.length_nil]
  match j, hj with
  | 0, _ => simp
  | 1, _ => simp [h2]
  | 2, _ => simp [h2]
theorem made1 (a : Value) (n k : Nat) (hk : k < n) : (madeCells #[a] n)[k]? = some a := by
  simp [madeCells, hk, Nat.mod_one]
theorem full_ne {s : ByteArray} {e p : Int} (h : Cd.full s = .error (e, p)) : e ≠ 0 := by
  unfold Cd.full at h
  split at h
  · cases h; decide
  · split at h
    · cases h; decide
    · unfold Cd.dec at h
      have scan_ne : ∀ (f q : Nat) (acc : List Cd.Op4) (x : Int × Int), Cd.scan s f q acc = .error x → x.1 ≠ 0 := fun f => by
        induction f with
        | zero => intro q acc x hx; simp [Cd.scan] at hx
        | succ f ih =>
          intro q acc x hx
          unfold Cd.scan at hx
          split at hx
          · split at hx
            · cases hx; show (7 : Int) ≠ 0; decide
            · split at hx
              · cases hx; show (1 : Int) ≠ 0; decide
              · exact ih _ _ _ hx
          · cases hx
      split at h
      · rename_i x hx
        cases h
        exact scan_ne _ _ _ _ hx
      · split at h
        · cases h; decide
        · cases h
theorem full_pos {s : ByteArray} {l : List Cd.Op4} (h : Cd.full s = .ok l) : 0 < l.length := by
  unfold Cd.full at h
  split at h
  · cases h
  · split at h
    · cases h
    · rename_i h0
      unfold Cd.dec at h
      have more : ∀ (f q : Nat) (acc l : List Cd.Op4), Cd.scan s f q acc = .ok l → acc.length ≤ l.length := fun f => by
        induction f with
        | zero => intro q acc l hx; simp [Cd.scan] at hx; rw [hx]; exact Nat.le_refl _
        | succ f ih =>
          intro q acc l hx
          unfold Cd.scan at hx
          split at hx
          · split at hx
            · cases hx
            · split at hx
              · cases hx
              · have := ih _ _ _ hx
                simp at this
                omega
          · cases hx; exact Nat.le_refl _
      split at h
      · cases h
      · rename_i l' hx
        split at h
        · cases h
        · cases h
          cases hs : s.size with
          | zero => exact absurd hs h0
          | succ f =>
            rw [hs] at hx
            unfold Cd.scan at hx
            split at hx
            · split at hx
              · cases hx
              · split at hx
                · cases hx
                · have := more _ _ _ _ hx
                  simp at this
                  omega
            · rename_i hq
              omega
theorem own_has {w : World} {B : Nat} {g cap : Nat} {l : List Cd.Op4} (h : w.ownsRow B 139 4 (.slice (some ⟨g, 0, none⟩) l.length cap) l.length (Cd.cellsOf l)) : Cd.Has w g 0 l ∧ l.length ≤ cap := by
  have hc : ∀ k, k < l.length → ∀ j, j < 4 → w.cell? ⟨g, 0 + k * 4 + j, none⟩ = (Cd.get4 l k).cells[j]? := fun k hk j hj => by
    rw [← Cd.cellsOf_get l k hk j hj, Nat.zero_add]
    exact h.cellAt (k * 4 + j) (by omega)
  refine ⟨⟨fun k hk => hc k hk 0 (by omega), fun k hk => hc k hk 1 (by omega), fun k hk => hc k hk 2 (by omega), fun k hk => hc k hk 3 (by omega), (h.lt g rfl).2⟩, ?_⟩
  rcases h.2 with ⟨e, -⟩ | ⟨g', cap', cur, e, -, -, hc, -⟩
  · cases e
  · cases e
    exact hc
def sa0 (n : Nat) : SA := ⟨List.replicate n st0, List.replicate n false⟩
/-- What decoding ends with. -/
def DecO (c : Lkr) (P : Nat) (v : LkV) (r : Ending) (w w' : World) : Prop :=
  (∃ l B' g cI bS bA own, Cd.full c.m.code = .ok l ∧ r = .returned (.tuple #[]) ∧ w.heap.size ≤ B' ∧ (∀ b, own b ≠ none → w.heap.size ≤ b) ∧ LkW { c with ins := l } B' P { v with gI := g, cI := cI, bS := bS, bA := bA } w' ∧ LkM { c with ins := l } B' { v with gI := g, cI := cI, bS := bS, bA := bA } own (fun _ => (.slice none 0 0, .slice none 0 0)) (sa0 l.length) w' ∧ Wr (· = P) w w') ∨
  ((∀ l, Cd.full c.m.code ≠ .ok l) ∧ ∃ e p, e ≠ 0 ∧ r = .panicked [wrongV e p] ∧ Below w.heap.size w w')
set_option maxRecDepth 100000 in
set_option maxHeartbeats 4000000 in
theorem decode_any {c : Lkr} {B P : Nat} {v : LkV} (w : World) (hl : LkA c B P v w) (hT : Cd.Tabs w) (hcs : c.m.code.size ≤ maxLen) :
    Calls Tryz.prog 54 #[.pointer (some ⟨P, 0, none⟩)] w fun r w' => DecO c P v r w w' := by
  have HL := mkHid hl
  have p13 := cell_of hl.blk 13 (x := .string c.m.code) rfl
  have lP : P < w.heap.size := lt_of hl.blk
  have HDE := mkHid (Cd.Decode_any w c.m.code hT hcs)
  obtain ⟨iS, hiS, hzS0, hzS1, hzS2⟩ := info_parts Tryz.infoState
  obtain ⟨iB, hiB, hzB0, hzB1, hzB2⟩ := info_parts Tryz.infoBool
  clear hl hT hcs
  go_enter Tryz.func54, Tryz.ntmps54
  go_wp2_with fail
  refine HDE.out.mono ?_
  rintro r w1 ⟨hb1, ⟨l, vI, hful, hlen, rfl, hown⟩ | ⟨e, p, hful, rfl⟩⟩
  rotate_left
  · have he := full_ne hful
    have HE := mkHid he
    have HF := mkHid hful
    have HB1 := mkHid (hb1.alloc hb1.size (.cells #[.int .i64 e, .int .i64 p] 43))
    have heb : (e == 0) = false := beq_eq_false_iff_ne.2 he
    clear he hful hb1
    go_wp2_with fail
    refine (demandAt_any _ _ _ _).mono ?_
    rintro r w2 ⟨hw2, ⟨hb, rfl⟩ | ⟨hb, rfl⟩⟩
    · exact ⟨rfl, Or.inr ⟨fun l hl => (by rw [HF.out] at hl; cases hl), e, p, HE.out, rfl, by rw [hw2]; exact HB1.out⟩⟩
    · exact absurd hb (by simp)
  have hpos := full_pos hful
  have HF := mkHid hful
  obtain ⟨g, cI, eI, -⟩ := hown.form hpos
  subst eI
  have HH := mkHid (own_has hown)
  have HGL := mkHid (hown.lt g rfl)
  have HB1 := mkHid hb1
  have rS : ∀ V, (Instr.makeSlice 41 (.int .i64 (l.length : Int)) (.int .i64 (l.length : Int))).run Tryz.prog V = .ok (.slice (some ⟨V.heap.size, 0, none⟩) l.length l.length) (V.alloc (.cells (madeCells #[.bool false, .slice none 0 0, .slice none 0 0] (l.length * 3)) 48)) := fun V => by
    have := run_makeSlice (P := Tryz.prog) V 41 48 iS (.agg #[.bool false, .slice none 0 0, .slice none 0 0]) Tryz.underlying41 hiS hzS0 .i64 .i64 l.length l.length (by omega) (by omega) (by rw [hzS1]; simp; omega) (by rw [hzS2]; omega) (by omega)
    rw [hzS1, show (Value.agg #[.bool false, .slice none 0 0, .slice none 0 0]).cells = #[.bool false, .slice none 0 0, .slice none 0 0] from rfl] at this
    simpa using this
  have rB : ∀ V, (Instr.makeSlice 106 (.int .i64 (l.length : Int)) (.int .i64 (l.length : Int))).run Tryz.prog V = .ok (.slice (some ⟨V.heap.size, 0, none⟩) l.length l.length) (V.alloc (.cells (madeCells #[.bool false] l.length) 4)) := fun V => by
    have := run_makeSlice (P := Tryz.prog) V 106 4 iB (.bool false) Tryz.underlying106 hiB hzB0 .i64 .i64 l.length l.length (by omega) (by omega) (by rw [hzB1]; simp; omega) (by rw [hzB2]; omega) (by omega)
    rw [hzB1, show (Value.bool false).cells = #[.bool false] from rfl] at this
    simpa using this
  have hq := (hb1.block P lP).trans HL.out.blk
  have HQ := mkHid hq
  have q15 := cell_of hq 15 (x := .slice none 0 0) rfl
  have q16 := cell_of hq 16 (x := .slice none 0 0) rfl
  have q17 := cell_of hq 17 (x := .slice none 0 0) rfl
  have qf := frz_of hq
  have lP1 : P < w1.heap.size := lt_of hq
  have lP2 : P < w1.heap.size + 1 := by omega
  have lP3 : P < w1.heap.size + 1 + 1 := by omega
  have nP1 : ¬ P = w1.heap.size := by omega
  have nP2 : ¬ P = w1.heap.size + 1 := by omega
  have nP3 : ¬ P = w1.heap.size + 1 + 1 := by omega
  clear hown hful hb1 hq
  go_wp2_with fail
  refine (demandAt_any _ _ _ _).mono ?_
  rintro r w2 ⟨hw2, ⟨hb, rfl⟩ | ⟨hb, rfl⟩⟩
  · exact absurd hb (by simp)
  rw [hw2]
  clear hb hw2
  go_wp2_with fail
  go_end0
  obtain ⟨V, hV⟩ : ∃ V, V = ((w1.setCell ⟨P, 15, none⟩ (.slice (some ⟨g, 0, none⟩) l.length cI)).setCell ⟨P, 16, none⟩ (.slice (some ⟨w1.heap.size + 1, 0, none⟩) l.length l.length)).setCell ⟨P, 17, none⟩ (.slice (some ⟨w1.heap.size + 1 + 1, 0, none⟩) l.length l.length) := ⟨_, rfl⟩
  rw [← hV]
  have hVs : V.heap.size = w1.heap.size := by rw [hV]; simp [World.setCell]
  have hVP : V.heap[P]? = some (.cells #[v.kC, v.kS, v.kF, v.kN, v.kT, .map (some v.Bm), .string c.m.name, .bool c.m.static, v.vA, .int .i64 c.m.ret.kind, .string c.m.ret.cls, .int .i64 c.m.stack, .int .i64 c.m.locals, .string c.m.code, v.vH, .slice (some ⟨g, 0, none⟩) l.length cI, .slice (some ⟨w1.heap.size + 1, 0, none⟩) l.length l.length, .slice (some ⟨w1.heap.size + 1 + 1, 0, none⟩) l.length l.length] 108 (0, 0)) := by
    rw [hV]
    exact heap_setX (heap_setX (heap_setX HQ.out _) _) _
  have hVk : ∀ k, k ≠ P → V.heap[k]? = w1.heap[k]? := fun k hk => by rw [hV, Below.heap_setCell _ _ _ _ hk, Below.heap_setCell _ _ _ _ hk, Below.heap_setCell _ _ _ _ hk]
  have hVW : Wr (· = P) w V := by
    rw [hV]
    exact (Wr.of HB1.out).trans ((Wr.set (M := (· = P)) rfl _ _).trans ((Wr.set (M := (· = P)) rfl _ _).trans (Wr.set (M := (· = P)) rfl _ _)))
  clear hV
  obtain ⟨W, hW, hBW, hsW, x0, x1, x2⟩ := boxes3 V #[.int .i64 0, .int .i64 0] (madeCells #[.bool false, .slice none 0 0, .slice none 0 0] (l.length * 3)) (madeCells #[.bool false] l.length) 43 48 4
  rw [← hW]
  rw [hVs] at x0 x1 x2 hsW
  clear hW
  have hWr : Wr (· = P) w W := hVW.trans (Wr.of hBW)
  have hBB : Below B w W := hWr.below (fun b hb => by rw [hb]; exact HL.out.pB) HL.out.bB
  have hgP : g ≠ P := fun e => by have := HGL.out.1; omega
  have hgW : W.heap[g]? = w1.heap[g]? := (hBW.block g (by rw [hVs]; exact HGL.out.2)).trans (hVk g hgP)
  have hmB : ∀ k, k < B → k < w1.heap.size + 1 := fun k hk => by have := HL.out.pB; omega
  refine Or.inl ⟨l, w1.heap.size + 1, g, cI, w1.heap.size + 1, w1.heap.size + 1 + 1, fun b => if b = w1.heap.size + 1 then some (0, 2) else if b = w1.heap.size + 1 + 1 then some (0, 3) else none, HF.out, rfl, by have := HB1.out.size; omega, fun b hb => ?_, ?_, ?_, hWr⟩
  · have := HB1.out.size
    by_cases e1 : b = w1.heap.size + 1
    · omega
    · by_cases e2 : b = w1.heap.size + 1 + 1
      · omega
      · exact absurd (by simp [e1, e2]) hb
  · have hkd := HL.out.kd.below hBB
    refine ⟨(hBW.block P (by omega)).trans hVP, by omega, ⟨hkd.lk.mono hmB, hkd.nm, hmB _ hkd.bm⟩, (HL.out.ag.keptK (Kp.below hBB)).monoK hmB, (HL.out.hd.keptH (Kp.below hBB)).monoH hmB, ?_, by have := HGL.out.2; show g < _; omega, HH.out.2, HL.out.gl.at hBB HL.out.bg, hmB _ HL.out.bg, by omega⟩
    have hc : ∀ j, W.cell? ⟨g, j, none⟩ = w1.cell? ⟨g, j, none⟩ := fun j => World.cell?_of_block (a := ⟨g, j, none⟩) hgW
    exact ⟨fun k hk => (hc _).trans (HH.out.1.c0 k hk), fun k hk => (hc _).trans (HH.out.1.c1 k hk), fun k hk => (hc _).trans (HH.out.1.c2 k hk), fun k hk => (hc _).trans (HH.out.1.c3 k hk), by have := HGL.out.2; show g < _; omega⟩
  · refine ⟨by simp [sa0], by simp [sa0], by simp, by simp, fun b t e => ?_, fun n hn => ?_, fun n hn => ?_, fun n hn => ?_, fun n hn => ?_⟩
    · by_cases e1 : b = w1.heap.size + 1
      · subst e1
        exact ⟨Nat.le_refl _, _, _, x1⟩
      · by_cases e2 : b = w1.heap.size + 1 + 1
        · subst e2
          exact ⟨by omega, _, _, x2⟩
        · simp [e1, e2] at e
    · have hn' : n < l.length := by simpa [sa0] using hn
      have e0 : (sa0 l.length).S[n] = st0 := by simp [sa0]
      rw [e0]
      exact ⟨cell_of x1 (n * 3) (made3 _ _ _ l.length n 0 hn' (by omega)), cell_of x1 (n * 3 + 1) (made3 _ _ _ l.length n 1 hn' (by omega)), cell_of x1 (n * 3 + 2) (made3 _ _ _ l.length n 2 hn' (by omega))⟩
    · have hn' : n < l.length := by simpa [sa0] using hn
      have e0 : (sa0 l.length).A[n] = false := by simp [sa0]
      rw [e0]
      exact cell_of x2 n (made1 _ l.length n hn')
    · have e0 : (sa0 l.length).S[n] = st0 := by simp [sa0]
      rw [e0]
      exact ⟨none, 0, rfl, Nat.le_refl _, Nat.zero_le _, fun k hk => by cases hk⟩
    · have e0 : (sa0 l.length).S[n] = st0 := by simp [sa0]
      rw [e0]
      exact ⟨none, 0, rfl, Nat.le_refl _, Nat.zero_le _, fun k hk => by cases hk⟩
end Go.Proofs.YtkhconnebiiboaaGreatDoor
/- Which one is to be looked at next. -/
namespace Go.Proofs.YtkhconnebiiboaaGreatDoor
open Go.RowKit Go.Maps

def nextV (s : SA) : Int := match nextD s with | some n => n | none => -1
theorem next_hit {s : SA} {k : Nat} (hk : k < s.A.length) (h : s.A[k] = true) (h0 : ∀ j (hj : j < s.A.length), j < k → s.A[j] = false) : nextD s = some k := by
  unfold nextD
  rw [List.findIdx?_eq_some_iff_getElem]
  exact ⟨hk, h, fun j hj => by rw [h0 j (by omega) hj]; decide⟩
theorem next_none {s : SA} (h0 : ∀ j (hj : j < s.A.length), s.A[j] = false) : nextD s = none := by
  unfold nextD
  rw [List.findIdx?_eq_none_iff]
  intro x hx
  obtain ⟨j, hj, rfl⟩ := List.mem_iff_getElem.1 hx
  rw [h0 j hj]
theorem next_some {s : SA} {k : Nat} (h : nextD s = some k) : ∃ hk : k < s.A.length, s.A[k] = true := by
  unfold nextD at h
  rw [List.findIdx?_eq_some_iff_getElem] at h
  exact ⟨h.1, h.2.1⟩
set_option maxHeartbeats 1000000 in
theorem indexB_any (w : World) (bA N : Nat) (s : SA) (hN : s.A.length = N) (hN2 : N ≤ 1000) (hc : ∀ n (h : n < s.A.length), w.cell? ⟨bA, n, none⟩ = some (.bool s.A[n])) :
    Calls Tryz.prog 89 #[.slice (some ⟨bA, 0, none⟩) N N, .bool true] w fun r w' => r = .returned (.int .i64 (nextV s)) ∧ w' = w := by
  go_enter Tryz.func89, Tryz.ntmps89
  go_wp2_with fail
  go_loopw [8] (fun i wr => ∃ k : Nat, k ≤ N ∧ i = .int .i64 k ∧ wr = w ∧ Hid (∀ j (hj : j < s.A.length), j < k → s.A[j] = false)) (fun i _ => N - (intOf i).toNat)
  case atStart => exact ⟨0, Nat.zero_le _, rfl, rfl, fun j _ hj => by omega⟩
  case round =>
    rename World => wr
    obtain ⟨k, hk, rfl, rfl, HST⟩ := hrel
    by_cases hlt : k < N
    · have hkA : k < s.A.length := by rw [hN]; exact hlt
      have c0 := hc k hkA
      have h00 : (0 : Int) ≤ k := by omega
      have h01 : (k : Int) < N := by omega
      cases hv : s.A[k] with
      | true =>
        rw [hv] at c0
        have HR : Hid (nextV s = k) := by show _ = _; unfold nextV; rw [next_hit hkA hv HST.out]
        clear hc
        go_wp2_with fail
        go_ret
        exact ⟨by rw [HR.out]; rfl, rfl⟩
      | false =>
        rw [hv] at c0
        have HNX : Hid (∀ j (hj : j < s.A.length), j < k + 1 → s.A[j] = false) := fun j hj hjk => by
          by_cases e : j = k
          · subst e; exact hv
          · exact HST.out j hj (by omega)
        clear hc
        go_wp2_with fail
        go_roundw
        case rel => exact ⟨k + 1, by omega, by go_num, trivial, HNX.out⟩
        case measure => simp [intOf]; omega
    · have HR : Hid (nextV s = -1) := by show _ = _; unfold nextV; rw [next_none fun j hj => HST.out j hj (by omega)]
      have h01 : ¬ (k : Int) < N := by omega
      clear hc
      go_wp2_with fail
      go_ret
      exact ⟨by rw [HR.out]; rfl, rfl⟩
theorem next_any {c : Lkr} {B P : Nat} {v : LkV} (hw : Wf c) (w : World) (hl : LkW c B P v w) {own : Own} {sl : Nat → Value × Value} {s : SA} (hm : LkM c B v own sl s w) :
    Calls Tryz.prog 57 #[.pointer (some ⟨P, 0, none⟩)] w fun r w' => r = .returned (.int .i64 (nextV s)) ∧ w' = w := by
  have p17 := cell_of hl.blk 17 (x := .slice (some ⟨v.bA, 0, none⟩) c.ins.length c.ins.length) rfl
  have HIX := mkHid (indexB_any w v.bA c.ins.length s hm.la (by have := hw.le; omega) hm.cA)
  clear hl hm
  go_enter Tryz.func57, Tryz.ntmps57
  go_wp2_with fail
  refine HIX.out.mono ?_
  rintro r w1 ⟨rfl, hw1⟩
  rw [hw1]
  go_wp2_with fail
  go_ret
  exact ⟨rfl, rfl⟩
end Go.Proofs.YtkhconnebiiboaaGreatDoor
/- The states of a method. -/
namespace Go.Proofs.YtkhconnebiiboaaGreatDoor
open Go.RowKit Go.Maps

theorem tp_len {c : Lkr} {lo st asked : List KindD} {puts : List KindD → Option (List KindD)} {r : LS} (h : tpD c lo st asked puts = some r) : r.1.length = lo.length := by rw [(tp_out h).1]
theorem stack_len {c : Lkr} {x : Cd.Op4} {lo st : List KindD} {r : LS} (h : stackD c x lo st = some r) : r.1.length = lo.length := by
  unfold stackD at h
  (repeat' split at h) <;> first | exact tp_len h | (cases h; rfl) | (cases h; done) | (obtain ⟨a, h1, h2⟩ := Option.map_eq_some_iff.1 h; subst h2; simp)
theorem branch_len {c : Lkr} {x : Cd.Op4} {lo st : List KindD} {r : LS} (h : branchD c x lo st = some r) : r.1.length = lo.length := by
  unfold branchD at h
  (repeat' split at h) <;> first | exact tp_len h | (cases h; rfl)
theorem rowO_len {c : Lkr} {x : Cd.Op4} {lo st : List KindD} {r : LS} (h : rowD c x lo st = some r) : r.1.length = lo.length := by
  unfold rowD at h
  (repeat' split at h) <;> first | exact tp_len h | (cases h; rfl)
theorem thing_len {c : Lkr} {x : Cd.Op4} {lo st : List KindD} {r : LS} (h : thingD c x lo st = some r) : r.1.length = lo.length := by
  unfold thingD at h
  (repeat' split at h) <;> first | exact tp_len h | (cases h; rfl)
theorem callO_len {c : Lkr} {x : Cd.Op4} {lo st : List KindD} {r : LS} (h : callD c x lo st = some r) : r.1.length = lo.length := by
  unfold callD at h
  (repeat' split at h) <;> first | exact tp_len h | (cases h; rfl)
theorem run_len {c : Lkr} {x : Cd.Op4} {lo st lo' st' : List KindD} (h : runD c x lo st = some (lo', st')) : lo'.length = lo.length ∧ (st'.length : Int) ≤ c.m.stack := by
  unfold runD at h
  split at h
  · obtain ⟨r', h1, h2⟩ := Option.bind_eq_some_iff.1 h
    split at h2
    · rename_i hst
      cases h2
      refine ⟨?_, of_decide_eq_true hst⟩
      unfold workD at h1
      (repeat' split at h1)
      · exact tp_len h1
      · exact branch_len h1
      · exact rowO_len h1
      · exact thing_len h1
      · exact callO_len h1
      · exact stack_len h1
    · cases h2
  · cases h
/-- States in memory. -/
def RSt (M : Nat → Prop) (w : World) (cs : List Value) (s : StD) : Prop := ∃ vL vS, cs = [.bool s.comes, vL, vS] ∧ SL 2 RK M w vL s.locals ∧ SL 2 RK M w vS s.stack
theorem SL.monoSt {M M' : Nat → Prop} {w : World} {v : Value} {l : List StD} (h : SL 3 RSt M w v l) (hM : ∀ b, M b → M' b) : SL 3 RSt M' w v l := h.mono hM fun _ _ ⟨vL, vS, e, h1, h2⟩ => ⟨vL, vS, e, h1.monoK hM, h2.monoK hM⟩
theorem SL.keptSt {M : Nat → Prop} {w w' : World} {v : Value} {l : List StD} (h : SL 3 RSt M w v l) (hk : Kp M w w') : SL 3 RSt M w' v l := h.kept hk fun _ _ ⟨vL, vS, e, h1, h2⟩ => ⟨vL, vS, e, h1.keptK hk, h2.keptK hk⟩
theorem LkM.states {c : Lkr} {B : Nat} {v : LkV} {own : Own} {sl : Nat → Value × Value} {s : SA} {w : World} (h : LkM c B v own sl s w) (hl : c.ins.length ≤ 1000) : SL 3 RSt (fun k => B ≤ k ∧ k < w.heap.size) w (.slice (some ⟨v.bS, 0, none⟩) c.ins.length c.ins.length) s.S := by
  refine ⟨some ⟨v.bS, 0, none⟩, c.ins.length, by rw [h.ls], by rw [h.ls]; exact Nat.le_refl _, by rw [h.ls]; unfold maxLen; omega, fun k hk => ?_⟩
  obtain ⟨c0, c1, c2⟩ := h.cS k hk
  refine ⟨v.bS, 0, [.bool s.S[k].comes, (sl k).1, (sl k).2], rfl, ⟨(h.blk _ _ h.oS).1, h.lt h.oS⟩, h.lt h.oS, rfl, fun j hj => ?_, _, _, rfl, (h.rL k hk).monoK fun b hb => ⟨(h.blk _ _ hb).1, h.lt hb⟩, (h.rS k hk).monoK fun b hb => ⟨(h.blk _ _ hb).1, h.lt hb⟩⟩
  match j, hj with
  | 0, _ => rw [Nat.zero_add]; exact c0
  | 1, _ => rw [Nat.zero_add]; exact c1
  | 2, _ => rw [Nat.zero_add]; exact c2
/-- The states of a method, plainly; none, if it has a fault. -/
def statesD (d : LinkD) (L : ByteArray → List ByteArray) (m : MethD) (ci : Nat) : Option SA :=
  match firstL d m ci with
  | none => none
  | some lo => match Cd.full m.code with
    | .error _ => none
    | .ok l => if m.hands.all (handOk ⟨d, L, m, l⟩) then (comeD ⟨d, L, m, l⟩ (sa0 l.length) 0 lo []).bind fun s0 => loopD ⟨d, L, m, l⟩ (mu ⟨d, L, m, l⟩ s0 + 1) s0 else none
def StsOut (res : Option SA) (r : Ending) (w w' : World) : Prop := Below w.heap.size w w' ∧ ((∃ s v, res = some s ∧ r = .returned v ∧ SL 3 RSt (fun k => w.heap.size ≤ k ∧ k < w'.heap.size) w' v s.S) ∨ (res = none ∧ ∃ e p, e ≠ 0 ∧ r = .panicked [wrongV e p]))
/-- What the check of a handler must be. -/
def HandOk (c : Lkr) (h : HandD) : Prop := ∀ (B P : Nat) (v : LkV) (W : World), LkW c B P v W → Calls Tryz.prog 55 #[.pointer (some ⟨P, 0, none⟩), .agg #[.int .i64 h.frm, .int .i64 h.upto, .int .i64 h.loc, .string h.cls]] W fun r w' => Below W.heap.size W w' ∧ ((handOk c h = true ∧ r = .returned (.tuple #[])) ∨ (handOk c h = false ∧ ∃ e p, e ≠ 0 ∧ r = .panicked [wrongV e p]))
theorem sa0_inv (c : Lkr) (n : Nat) : Inv c (sa0 n) := fun k hk => by
  have e : (sa0 n).S[k] = st0 := by simp [sa0]
  rw [e]
  exact ⟨fun h => by simp [st0] at h, nil_gd, nil_gd⟩
theorem sa0_a (n : Nat) : AInv (sa0 n) := fun k hk hk' e => by simp [sa0] at e
theorem first_gd {c : Lkr} (hc : Cls c.d c.L) {ci : Nat} {lo : List KindD} (hci : ci < c.d.classes.length) (hga : ∀ k ∈ c.m.args, GdK (Kn c) k) (h : firstL c.d c.m ci = some lo) : lo.length = c.m.locals.toNat ∧ ∀ k ∈ lo, GdK (Kn c) k := by
  by_cases h0 : ((fst0 c ci).length : Int) ≤ c.m.locals
  · rw [first_ok h0] at h
    cases h
    refine ⟨by rw [List.length_append, List.length_replicate]; omega, fun k hk => ?_⟩
    rcases List.mem_append.1 hk with hk | hk
    · unfold fst0 at hk
      rcases List.mem_append.1 hk with hk | hk
      · split at hk
        · cases hk
        · simp at hk
          rw [hk]
          refine Or.inl ⟨Or.inl rfl, ?_⟩
          show 0 ≤ num c.d.classes (clsAt c.d.classes ci).name
          rw [clsAt_eq hci, hc.nn ci hci]
          omega
      · exact hga k hk
    · rw [List.eq_of_mem_replicate hk]
      exact anyK_gd c
  · rw [first_no h0] at h
    cases h
theorem loop_end {c : Lkr} {f : Nat} {s : SA} (h : nextD s = none) : loopD c (f + 1) s = some s := by
  unfold loopD
  rw [h]
theorem loop_go {c : Lkr} {f : Nat} {s : SA} {n : Nat} (h : nextD s = some n) : loopD c (f + 1) s = (lookD c ⟨s.S, s.A.set n false⟩ n).bind (loopD c f) := by
  rw [loopD]
  rw [h]
set_option maxRecDepth 100000 in
set_option maxHeartbeats 16000000 in
theorem statesOf_any (w : World) (kC kS kF kN kT : Value) (Bm : Nat) (d : LinkD) (L : ByteArray → List ByteArray) (hk : Kd w.heap.size w kC kS kF kN kT Bm d) (hg : GlK w) (hT : Cd.Tabs w) (ci mi : Nat) (hci : ci < d.classes.length) (hmi : mi < d.classes[ci].meths.length) (m : MethD) (hm : m = d.classes[ci].meths[mi])
    (hcls : Cls d L) (hlc : m.locals ≤ 10) (hag : m.args.length ≤ 4) (hga : ∀ k ∈ m.args, GdK (fun s => 0 ≤ num d.classes s) k) (hwf : ∀ l, Cd.full m.code = .ok l → Wf ⟨d, L, m, l⟩)
    (hrun : ∀ l B P v n, Cd.full m.code = .ok l → n < l.length → RunOk ⟨d, L, m, l⟩ B P v (Cd.get4 l n)) (hch : ∀ l, Cd.full m.code = .ok l → ∀ h ∈ m.hands, HandOk ⟨d, L, m, l⟩ h) :
    Calls Tryz.prog 25 #[kdV kC kS kF kN kT Bm, .int .i64 (ci : Int), .int .i64 (mi : Int)] w fun r w' => StsOut (statesD d L m ci) r w w' := by
  obtain ⟨W0, hW0, hB0, hs0, hx0⟩ := boxes1 w #[kC, kS, kF, kN, kT, .map (some Bm)] 63
  have hk0 := hk.below hB0
  have hC := hk0.lk.C
  obtain ⟨aC, cC, rfl, -⟩ := hk0.lk.C
  obtain ⟨aS, cS, rfl, -⟩ := hk0.lk.S
  obtain ⟨aF, cF, rfl, -⟩ := hk0.lk.F
  obtain ⟨aN, cN, rfl, -⟩ := hk0.lk.N
  obtain ⟨aT, cT, rfl, -⟩ := hk0.lk.T
  obtain ⟨bC, oC, vf, vm, e9, hbC, -, -, -, k3, -, hM, -, -⟩ := hC.atC ci hci
  subst e9
  have hM0 := hM
  obtain ⟨aM, cM, rfl, -, hlM, -⟩ := hM0
  obtain ⟨bM, oM, va, vh, e9, hbM, m0, m1, m2, m3, m4, m5, m6, m7, m8, hva, hvh, -, -, hcsz⟩ := hM.atM mi hmi
  subst e9
  rw [← hm] at m0 m1 m3 m4 m5 m6 m7 hva hvh hcsz
  have HVA := mkHid hva
  have HVH := mkHid hvh
  obtain ⟨aa, ca, rfl, -⟩ := hva
  obtain ⟨ah, ch, rfl, -, hlh, -⟩ := hvh
  have x0 := cell_of hx0 0 (x := .slice (some ⟨bC, oC, none⟩) d.classes.length cC) rfl
  have x1 := cell_of hx0 1 (x := .slice aS d.supers.length cS) rfl
  have x2 := cell_of hx0 2 (x := .slice aF d.fields.length cF) rfl
  have x3 := cell_of hx0 3 (x := .slice aN d.names.length cN) rfl
  have x4 := cell_of hx0 4 (x := .slice aT d.targets.length cT) rfl
  have x5 := cell_of hx0 5 (x := .map (some Bm)) rfl
  have HCSZ := mkHid hcsz
  have HK0 := mkHid hk0
  have HB0 := mkHid hB0
  have HG := mkHid hg
  have HT := mkHid hT
  have HGA := mkHid hga
  have HWF := mkHid hwf
  have HRN := mkHid hrun
  have HCH := mkHid hch
  have HCL := mkHid hcls
  have lC : bC < W0.heap.size := hbC
  have lM : bM < W0.heap.size := hbM
  have lX : w.heap.size < W0.heap.size := by omega
  have h00 : (0 : Int) ≤ ci := by omega
  have h01 : (ci : Int) < d.classes.length := by omega
  have h02 : (0 : Int) ≤ mi := by omega
  have h03 : (mi : Int) < d.classes[ci].meths.length := by omega
  have HCI := mkHid hci
  have HS0 := mkHid hs0
  have HMB : Hid (6 < w.heap.size) := hg.big
  have HMH : Hid (m.hands.length ≤ maxLen) := hlh
  obtain ⟨P, hP⟩ : ∃ P, P = W0.heap.size := ⟨_, rfl⟩
  obtain ⟨v, hv⟩ : ∃ v : LkV, v = ⟨.slice (some ⟨bC, oC, none⟩) d.classes.length cC, .slice aS d.supers.length cS, .slice aF d.fields.length cF, .slice aN d.names.length cN, .slice aT d.targets.length cT, Bm, .slice aa m.args.length ca, .slice ah m.hands.length ch, 0, 0, 0, 0⟩ := ⟨_, rfl⟩
  obtain ⟨W1, hW1⟩ : ∃ W1, W1 = (W0.alloc (.cells #[.slice (some ⟨bC, oC, none⟩) d.classes.length cC, .slice aS d.supers.length cS, .slice aF d.fields.length cF, .slice aN d.names.length cN, .slice aT d.targets.length cT, .map (some Bm), .string m.name, .bool m.static, .slice aa m.args.length ca, .int .i64 m.ret.kind, .string m.ret.cls, .int .i64 m.stack, .int .i64 m.locals, .string m.code, .slice ah m.hands.length ch, .slice none 0 0, .slice none 0 0, .slice none 0 0] 108)).drew := ⟨_, rfl⟩
  have hB1 : Below W0.heap.size W0 W1 := by rw [hW1]; exact ((Below.refl _ _).alloc (Nat.le_refl _) _).drew
  have HB1 : Hid (Below w.heap.size w W1) := hB0.trans (hB1.mono hB0.size)
  have hs1 : W1.heap.size = P + 1 := by rw [hW1, hP]; simp
  have HLA : Hid (LkA ⟨d, L, m, []⟩ w.heap.size P v W1) := by
    have hbb := hB1.mono hB0.size
    refine ⟨?_, by rw [hP]; exact hB0.size, by rw [hv]; exact HK0.out.below hbb, by rw [hv]; exact (HVA.out.keptK (Kp.below hbb)), by rw [hv]; exact (HVH.out.keptH (Kp.below hbb)), HG.out.below HB1.out, hg.big, by omega⟩
    rw [hv, hW1, hP]
    exact heap_alloc_new W0 _
  have HS1 := mkHid hs1
  have HPW : Hid (P = W0.heap.size) := hP
  clear hk hk0 hC hM hm hmi hB0 hx0 hbC hbM hg hT hcls hga hwf hrun hch hlM hcsz hB1 hs1 hs0
  generalize d.classes[ci].meths.length = lm at *
  go_enter Tryz.func25, Tryz.ntmps25
  go_wp2_with fail
  rw [← hW0]
  clear hW0
  refine wp_region_held_drew (S := fun W' => ∀ p : Addr, p.block < W0.heap.size → W'.cell? p = W0.cell? p) (by kernel_rfl) (fun p hp => rfl) fun hH => ?_
  refine wpAnyH_take (i := 0) (v := .agg #[.slice (some ⟨bC, oC, none⟩) d.classes.length cC, .slice aS d.supers.length cS, .slice aF d.fields.length cF, .slice aN d.names.length cN, .slice aT d.targets.length cT, .map (some Bm)]) rfl (by kernel_rfl) (by kernel_rfl) (by kernel_rfl) (fun _ _ _ h => h) (Or.inl ⟨by kernel_rfl, ?_⟩) hH ?_
  · intro w hSw
    go_simp
  refine wpAnyH_take (i := 1) (v := .pointer (some ⟨w.heap.size, 0, none⟩)) rfl (by kernel_rfl) (by kernel_rfl) (by kernel_rfl) (fun _ _ _ h => h) (Or.inl ⟨by kernel_rfl, ?_⟩) hH ?_
  · intro w hSw
    go_simp
  refine wpAnyH_take (i := 2) (v := .pointer (some ⟨w.heap.size, 0, none⟩)) rfl (by kernel_rfl) (by kernel_rfl) (by kernel_rfl) (fun _ _ _ h => h) (Or.inl ⟨by kernel_rfl, ?_⟩) hH ?_
  · intro w hSw
    go_simp
  refine wpAnyH_take (i := 3) (v := .slice (some ⟨bC, oC, none⟩) d.classes.length cC) rfl (by kernel_rfl) (by kernel_rfl) (by kernel_rfl) (fun _ _ _ h => h) (Or.inl ⟨by kernel_rfl, ?_⟩) hH ?_
  · intro w hSw
    go_simp
  refine wpAnyH_take (i := 4) (v := .int .i64 (ci : Int)) rfl (by kernel_rfl) (by kernel_rfl) (by kernel_rfl) (fun _ _ _ h => h) (Or.inl ⟨by kernel_rfl, ?_⟩) hH ?_
  · intro w hSw
    go_simp
  refine wpAnyH_take (i := 5) (v := .pointer (some ⟨bC, oC + ci * 4, none⟩)) rfl (by kernel_rfl) (by kernel_rfl) (by kernel_rfl) (fun _ _ _ h => h) (Or.inl ⟨by kernel_rfl, ?_⟩) hH ?_
  · intro w hSw
    go_simp
  refine wpAnyH_take (i := 6) (v := .pointer (some ⟨bC, oC + ci * 4 + 3, none⟩)) rfl (by kernel_rfl) (by kernel_rfl) (by kernel_rfl) (fun _ _ _ h => h) (Or.inl ⟨by kernel_rfl, ?_⟩) hH ?_
  · intro w hSw
    go_simp
  refine wpAnyH_take (i := 7) (v := .slice (some ⟨bM, oM, none⟩) lm cM) rfl (by kernel_rfl) (by kernel_rfl) (by kernel_rfl) (fun _ _ _ h => h) (Or.inl ⟨by kernel_rfl, ?_⟩) hH ?_
  · intro w hSw
    go_simp
  refine wpAnyH_take (i := 8) (v := .int .i64 (mi : Int)) rfl (by kernel_rfl) (by kernel_rfl) (by kernel_rfl) (fun _ _ _ h => h) (Or.inl ⟨by kernel_rfl, ?_⟩) hH ?_
  · intro w hSw
    go_simp
  refine wpAnyH_take (i := 9) (v := .pointer (some ⟨bM, oM + mi * 9, none⟩)) rfl (by kernel_rfl) (by kernel_rfl) (by kernel_rfl) (fun _ _ _ h => h) (Or.inl ⟨by kernel_rfl, ?_⟩) hH ?_
  · intro w hSw
    go_simp
  refine wpAnyH_take (i := 10) (v := .agg #[.string m.name, .bool m.static, .slice aa m.args.length ca, .int .i64 m.ret.kind, .string m.ret.cls, .int .i64 m.stack, .int .i64 m.locals, .string m.code, .slice ah m.hands.length ch]) rfl (by kernel_rfl) (by kernel_rfl) (by kernel_rfl) (fun _ _ _ h => h) (Or.inl ⟨by kernel_rfl, ?_⟩) hH ?_
  · intro w hSw
    go_simp
  refine wpAnyH_take (i := 11) (v := .agg #[.slice (some ⟨bC, oC, none⟩) d.classes.length cC, .slice aS d.supers.length cS, .slice aF d.fields.length cF, .slice aN d.names.length cN, .slice aT d.targets.length cT, .map (some Bm), .string m.name, .bool m.static, .slice aa m.args.length ca, .int .i64 m.ret.kind, .string m.ret.cls, .int .i64 m.stack, .int .i64 m.locals, .string m.code, .slice ah m.hands.length ch, .slice none 0 0, .slice none 0 0, .slice none 0 0]) rfl (by kernel_rfl) (by kernel_rfl) (by kernel_rfl) (fun _ _ _ h => h) (Or.inl ⟨by kernel_rfl, ?_⟩) hH ?_
  · intro w hSw
    go_simp
  refine wpAnyH_ready (rs := [12]) (by kernel_rfl) (by simp) ?_
  refine AllReadyH.cons rfl (fun K12 hK12 => ?_) AllReadyH.nil
  go_simp
  refine hK12.out _ _ (fun p hp => Below.cell (B := W0.heap.size) (w := W0) ((Below.refl _ _).drew.alloc (Nat.le_refl _) _) hp) fun hH => ?_
  refine wpAnyH_take (i := 13) (v := .pointer (some ⟨W0.heap.size, 0, none⟩)) rfl (by kernel_rfl) (by kernel_rfl) (by kernel_rfl) (fun _ _ _ h => h) (Or.inl ⟨by kernel_rfl, ?_⟩) hH ?_
  · intro w hSw
    go_simp
  refine wpAnyH_done (by kernel_rfl) ?_ _
  clear hH
  try simp only [Act.put, List.setIfInBounds_toArray, List.set_cons_zero, List.set_cons_succ, List.getElem_toArray, List.getElem_cons_zero, List.getElem_cons_succ]
  go_wp2_with fail
  rw [← hP]
  rw [← hW1]
  clear hW1 hP x0 x1 x2 x3 x4 x5 k3 m0 m1 m2 m3 m4 m5 m6 m7 m8
  refine (firstLocals_any (c := ⟨d, L, m, []⟩) hlc hag W1 HLA.out ci HCI.out).mono ?_
  rintro r w2 ⟨hb2, ⟨lo, vLo, hfi, rfl, hoL⟩ | ⟨hfi, e2, p2, he2, rfl⟩⟩
  rotate_left
  · exact ⟨rfl, HB1.out.trans (hb2.mono HB1.out.size), Or.inr ⟨by unfold statesD; rw [show firstL d m ci = none from hfi], e2, p2, he2, rfl⟩⟩
  have HB2 := mkHid (HB1.out.trans (hb2.mono HB1.out.size))
  have HFI : Hid (firstL d m ci = some lo) := hfi
  obtain ⟨aL, cL, rfl⟩ := own_shape hoL
  have HOL := mkHid hoL
  have HDC := mkHid (decode_any (c := ⟨d, L, m, []⟩) w2 (HLA.out.below (hb2.mono HLA.out.bw)) (HT.out.below HB2.out) HCSZ.out)
  have HS2 : Hid (P + 1 ≤ w2.heap.size) := (by have := hb2.size; have := HS1.out; omega : P + 1 ≤ w2.heap.size)
  clear hb2 hfi hoL
  go_wp2_with fail
  refine HDC.out.mono ?_
  rintro r w3 (⟨l, B3, gI, cI, bS, bA, own, hfl, rfl, hBs, hown, hlw, hlm, hwr⟩ | ⟨hno, e3, p3, he3, rfl, hb3⟩)
  rotate_left
  · refine ⟨rfl, HB2.out.trans (hb3.mono HB2.out.size), Or.inr ⟨?_, e3, p3, he3, rfl⟩⟩
    unfold statesD
    rw [HFI.out]
    cases hq : Cd.full m.code with
    | error e => simp
    | ok l => exact absurd hq (hno l)
  have hWF := HWF.out l hfl
  obtain ⟨c, hc⟩ : ∃ c : Lkr, c = ⟨d, L, m, l⟩ := ⟨_, rfl⟩
  have HWC : Hid (Wf c) := hc ▸ hWF
  have HRC : Hid (∀ B P v n, n < l.length → RunOk c B P v (Cd.get4 l n)) := hc ▸ fun B P v n hn => HRN.out l B P v n hfl hn
  have HCC : Hid (∀ h ∈ m.hands, HandOk c h) := hc ▸ HCH.out l hfl
  have HST : Hid (statesD d L m ci = if m.hands.all (handOk c) then (comeD c (sa0 l.length) 0 lo []).bind fun s0 => loopD c (mu c s0 + 1) s0 else none) := by
    show _ = _
    unfold statesD
    rw [HFI.out, hfl, hc]
  obtain ⟨v3, hv3⟩ : ∃ v3 : LkV, v3 = { v with gI := gI, cI := cI, bS := bS, bA := bA } := ⟨_, rfl⟩
  have HLW : Hid (LkW c B3 P v3 w3) := by rw [hc, hv3]; exact hlw
  have HLM : Hid (LkM c B3 v3 own (fun _ => (.slice none 0 0, .slice none 0 0)) (sa0 l.length) w3) := by rw [hc, hv3]; exact hlm
  have HCI3 : Hid (c.ins = l ∧ c.m = m ∧ c.d = d) := by rw [hc]; exact ⟨rfl, rfl, rfl⟩
  have HV3 : Hid (v3.vH = .slice ah m.hands.length ch) := by rw [hv3, hv]; rfl
  have hb3 : Below w.heap.size w w3 := HB2.out.trans (hwr.below (fun b hb => by subst hb; have := HPW.out; omega) HB2.out.size)
  have HB3 := mkHid hb3
  have HPOS := mkHid (full_pos hfl)
  have HBS : Hid (w.heap.size ≤ B3) := Nat.le_trans HB2.out.size hBs
  have HFG := mkHid (first_gd (c := ⟨d, L, m, l⟩) HCL.out HCI.out HGA.out HFI.out)
  have HFG2 : Hid (lo.length = c.m.locals.toNat ∧ ∀ k ∈ lo, GdK (Kn c) k) := by rw [hc]; exact HFG.out
  have HOL3 : Hid (OwnK w3 W1.heap.size (.slice aL lo.length cL) lo) := by
    refine ⟨HOL.out.1, ?_⟩
    rcases HOL.out.2 with h1 | ⟨g, cap, cur, e, h2, h3, h4⟩
    · exact Or.inl h1
    · exact Or.inr ⟨g, cap, cur, e, h2, (hwr.block g (lt_of h3) (fun e' => by have := HS1.out; omega)).trans h3, h4⟩
  have HON : Hid (∀ b, (Value.slice aL lo.length cL).ownBlock = some b → own b = none ∧ b < w3.heap.size) := fun b e => ⟨by
    cases h : own b with
    | none => rfl
    | some t => exact absurd (hown b (by rw [h]; simp)) (by have := (HOL.out.lt b e).2; omega), (HOL3.out.lt b e).2⟩
  clear hlw hlm hwr hown hBs hfl hWF hv3 hv hb3 hc
  have p14 : w3.cell? ⟨P, 14, none⟩ = some (.slice ah m.hands.length ch) := by rw [← HV3.out]; exact cell_of HLW.out.blk 14 rfl
  have HHD : Hid (SL 4 RH (· < B3) w3 (.slice ah m.hands.length ch) m.hands) := by have := HLW.out.hd; rw [HV3.out, HCI3.out.2.1] at this; exact this
  have hmh : m.hands.length ≤ 9223372036854775807 := by have := HMH.out; unfold maxLen at this; omega
  go_wp2_with fail
  go_loopw [36] (fun i wr => ∃ k : Nat, k ≤ m.hands.length ∧ i = .int .i64 k ∧ Hid (Below w3.heap.size w3 wr ∧ (m.hands.take k).all (handOk c) = true)) (fun i _ => m.hands.length - (intOf i).toNat)
  case atStart => exact ⟨0, Nat.zero_le _, rfl, Below.refl _ _, rfl⟩
  case round =>
    rename World => wr
    obtain ⟨k, hkk, rfl, HIT⟩ := hrel
    have HBr := mkHid (HB3.out.trans (HIT.out.1.mono HB3.out.size))
    by_cases hlt : k < m.hands.length
    · have HHr : Hid (SL 4 RH (· < B3) wr (.slice ah m.hands.length ch) m.hands) := HHD.out.keptH (Kp.below (HIT.out.1.mono HLW.out.bw))
      obtain ⟨bH, oH, e9, hbH, d0, d1, d2, d3, dsz⟩ := HHr.out.atH k hlt
      subst e9
      have HLWr := mkHid (HLW.out.below (HIT.out.1.mono HLW.out.bw))
      have HTA : Hid ((m.hands.take (k + 1)).all (handOk c) = handOk c m.hands[k]) := by
        show _ = _
        rw [List.take_succ_eq_append_getElem hlt, List.all_append, HIT.out.2]
        simp
      have HNO : Hid (handOk c m.hands[k] = false → m.hands.all (handOk c) = false) := fun h => by
        rw [List.all_eq_false]
        exact ⟨m.hands[k], List.getElem_mem hlt, by rw [h]; decide⟩
      have HOKH := mkHid (HCC.out _ (List.getElem_mem hlt))
      have HMT := mkHid (And.intro hlt (Nat.succ_le_of_lt hlt))
      have g00 : (0 : Int) ≤ k := by omega
      have g01 : (k : Int) < m.hands.length := by omega
      generalize m.hands[k] = hd at *
      have HBX := mkHid ((Below.refl wr.heap.size wr).alloc (Nat.le_refl _) (.cells #[.int .i64 hd.frm, .int .i64 hd.upto, .int .i64 hd.loc, .string hd.cls] 111))
      have HCK := mkHid (HOKH.out B3 P v3 _ (HLWr.out.below (HBX.out.mono HLWr.out.bw)))
      go_wp2_with fail
      refine HCK.out.mono ?_
      rintro r w5 ⟨hb5, ⟨hok, rfl⟩ | ⟨hok, e5, p5, he5, rfl⟩⟩
      rotate_left
      · exact ⟨rfl, HBr.out.trans ((HBX.out.trans (hb5.mono HBX.out.size)).mono HBr.out.size), Or.inr ⟨by rw [HST.out, HNO.out hok]; rfl, e5, p5, he5, rfl⟩⟩
      have HB5 := mkHid (HIT.out.1.trans ((HBX.out.trans (hb5.mono HBX.out.size)).mono HIT.out.1.size))
      have HOKK := mkHid hok
      clear hb5 hok
      go_wp2_with fail
      go_roundw
      case rel => exact ⟨k + 1, HMT.out.2, by go_num, HB5.out, HTA.out.trans HOKK.out⟩
      case measure => have hmt9 := HMT.out.1; simp [intOf]; omega
    have HALL : Hid (statesD d L m ci = (comeD c (sa0 l.length) 0 lo []).bind fun s0 => loopD c (mu c s0 + 1) s0) := by
      show _ = _
      rw [HST.out, if_pos]
      have h9 := HIT.out.2
      rwa [List.take_of_length_le (by omega)] at h9
    have HLWr := mkHid (HLW.out.below (HIT.out.1.mono HLW.out.bw))
    have HLMr := mkHid (HLM.out.up HIT.out.1)
    have HNP : Hid (0 < c.ins.length) := by rw [HCI3.out.1]; exact HPOS.out
    have HNL : Hid (c.ins.length ≤ 1000) := (by have := HWC.out.le; omega : c.ins.length ≤ 1000)
    have h01' : ¬ (k : Int) < m.hands.length := by omega
    have HCO : Hid (Calls Tryz.prog 56 #[.pointer (some ⟨P, 0, none⟩), .int .i64 ((0 : Nat) : Int), .slice aL lo.length cL, .slice none 0 0] wr fun r w' => CmOut c B3 v3 own (fun _ => (.slice none 0 0, .slice none 0 0)) (sa0 l.length) (comeD c (sa0 l.length) 0 lo []) r wr w') := by
      refine come_any HWC.out wr HLWr.out HLMr.out (sa0_inv c _) 0 HNP.out _ _ lo [] (Or.inl ⟨_, own_SLK (own_up HOL3.out HIT.out.1) (fun k hk => gd_small HWC.out.cls HLWr.out.kd (HFG2.out.2 k hk)), fun b hb => ⟨(HON.out b hb).1, Nat.lt_of_lt_of_le (HON.out b hb).2 HIT.out.1.size⟩⟩) (fun _ => False) ⟨none, 0, rfl, Nat.le_refl _, Nat.zero_le _, fun k hk => by cases hk⟩ (fun b hb => hb.elim) HFG2.out.1 (by simp) HFG2.out.2 nil_gd
    clear HST HHD HCC HON
    go_wp2_with fail
    refine HCO.out.mono ?_
    rintro r w6 ⟨hk6, ⟨s0, own0, sl0, hr0, rfl, ho0, hs0, hm0⟩ | ⟨hr0, e6, p6, he6, rfl⟩⟩
    rotate_left
    · exact ⟨rfl, HBr.out.trans (hk6.below (fun b hb => Nat.le_trans HBS.out (HLMr.out.geN hb)) HBr.out.size), Or.inr ⟨by rw [HALL.out, hr0]; rfl, e6, p6, he6, rfl⟩⟩
    have HFIN : Hid (statesD d L m ci = loopD c (mu c s0 + 1) s0) := by show _ = _; rw [HALL.out, hr0]; rfl
    have hGO0 := come_go HWC.out HLMr.out.ls HLMr.out.la HNP.out (sa0_inv c _) (sa0_a _) HFG2.out.1 HFG2.out.2 nil_gd hr0
    have HB6 : Hid (Below B3 w3 w6) := (HIT.out.1.mono HLW.out.bw).trans (hk6.below (fun b hb => HLMr.out.geN hb) HLWr.out.bw)
    have HM6 := mkHid hm0
    have HI6 := mkHid hGO0.iv
    have HA6 := mkHid hGO0.av
    have HLW6 := mkHid (HLW.out.below HB6.out)
    clear hk6 hr0 ho0 hs0 hm0 hGO0 HCO HALL
    go_wp2_with fail
    refine (next_any HWC.out w6 HLW6.out HM6.out).mono ?_
    rintro r w7 ⟨rfl, hw7⟩
    rw [hw7]
    clear hw7 w7
    go_wp2_with fail
    go_loopg [11] (mu c s0 + 1) (fun gk n wz => ∃ s own1 sl1, n = .int .i64 (nextV s) ∧ Hid (mu c s < gk ∧ loopD c (mu c s0 + 1) s0 = loopD c gk s ∧ LkM c B3 v3 own1 sl1 s wz ∧ Inv c s ∧ AInv s ∧ Below B3 w3 wz))
    case atStart => exact ⟨s0, own0, sl0, rfl, Nat.lt_succ_self _, rfl, HM6.out, HI6.out, HA6.out, HB6.out⟩
    case round =>
      rename Nat => gk
      rename World => wz
      obtain ⟨s, own1, sl1, rfl, HZ⟩ := hrel
      obtain ⟨gk', rfl⟩ : ∃ gk', gk = gk' + 1 := ⟨gk - 1, by have := HZ.out.1; omega⟩
      have HLWz := mkHid (HLW.out.below HZ.out.2.2.2.2.2)
      have HMz := mkHid HZ.out.2.2.1
      have HBz : Hid (Below w.heap.size w wz) := HB3.out.trans (HZ.out.2.2.2.2.2.mono HBS.out)
      cases hnx : nextD s with
      | none =>
        have hnv : nextV s = -1 := by unfold nextV; rw [hnx]
        have HRE : Hid (statesD d L m ci = some s) := by show _ = _; rw [HFIN.out, HZ.out.2.1, loop_end hnx]
        have HSTS := mkHid ((HMz.out.states HNL.out).monoSt (M' := fun k => w.heap.size ≤ k ∧ k < wz.heap.size) fun k hk => ⟨Nat.le_trans HBS.out hk.1, hk.2⟩)
        have q16 := cell_of HLWz.out.blk 16 (x := .slice (some ⟨v3.bS, 0, none⟩) c.ins.length c.ins.length) rfl
        rw [hnv]
        clear hnx hnv
        go_wp2_with fail
        go_ret
        exact ⟨HBz.out, Or.inl ⟨s, _, HRE.out, rfl, HSTS.out⟩⟩
      | some n =>
        have hnv : nextV s = n := by unfold nextV; rw [hnx]
        obtain ⟨hnA, hon⟩ := next_some hnx
        have hnI : n < c.ins.length := by rw [← HMz.out.la]; exact hnA
        have hnS : n < s.S.length := by rw [HMz.out.ls]; exact hnI
        have HGO : Hid (loopD c (gk' + 1) s = (lookD c ⟨s.S, s.A.set n false⟩ n).bind (loopD c gk')) := loop_go hnx
        obtain ⟨hmu, hav, hcm⟩ := off_mu (c := c) HMz.out.ls HMz.out.la hnI HZ.out.2.2.2.2.1 (fun _ => hon)
        have HMU := mkHid hmu
        have HMK := mkHid (HMz.out.mark hnA false)
        have HIV : Hid (Inv c ⟨s.S, s.A.set n false⟩) := HZ.out.2.2.2.1
        have HAV := mkHid hav
        have HCM := mkHid hcm
        have q17 := cell_of HLWz.out.blk 17 (x := .slice (some ⟨v3.bA, 0, none⟩) c.ins.length c.ins.length) rfl
        have a0 := HMz.out.cA n hnA
        obtain ⟨hBA, csA, tyA, hbA⟩ := HMz.out.blk _ _ HMz.out.oA
        have fa := frz_of hbA
        have HBK : Hid (Below B3 w3 (wz.setCell ⟨v3.bA, n, none⟩ (.bool false))) := HZ.out.2.2.2.2.2.setCell hBA _
        have HLWk := mkHid (HLW.out.below HBK.out)
        have HLOOK := mkHid (look_any HWC.out _ HLWk.out HNP.out HMK.out HIV.out n hnI (hcm hnS) (by have h9 := HRC.out B3 P v3 n (by rw [← HCI3.out.1]; exact hnI); rw [← HCI3.out.1] at h9; exact h9) (fun x lo st lo' st' h => run_len h))
        have n00 : (0 : Int) ≤ n := by omega
        have n01 : (n : Int) < c.ins.length := by omega
        rw [hnv]
        clear hnx hnv hbA hmu hav hcm hBA
        go_wp2_with fail
        refine HLOOK.out.mono ?_
        rintro r w8 ⟨hk8, ⟨s8, own8, sl8, hr8, rfl, ho8, hs8, hm8⟩ | ⟨hr8, e8, p8, he8, rfl⟩⟩
        rotate_left
        · refine ⟨rfl, ?_, Or.inr ⟨by rw [HFIN.out, HZ.out.2.1, HGO.out, hr8]; rfl, e8, p8, he8, rfl⟩⟩
          have h9 : Below w.heap.size w (wz.setCell ⟨v3.bA, n, none⟩ (.bool false)) := HB3.out.trans (HBK.out.mono HBS.out)
          exact h9.trans (hk8.below (fun b hb => Nat.le_trans HBS.out (HMK.out.geN hb)) h9.size)
        have hG8 := look_go HWC.out HNP.out HMK.out.ls HMK.out.la hnI HIV.out HAV.out (fun h => HCM.out h) hr8
        have HB8 : Hid (Below B3 w3 w8) := HBK.out.trans (hk8.below (fun b hb => HMK.out.geN hb) HLWk.out.bw)
        have HLW8 := mkHid (HLW.out.below HB8.out)
        have HM8 := mkHid hm8
        have HZ8 : Hid (mu c s8 < gk' ∧ loopD c (mu c s0 + 1) s0 = loopD c gk' s8 ∧ Inv c s8 ∧ AInv s8) := ⟨by have h1 := hG8.mu; have h2 := HMU.out; have h3 := HZ.out.1; omega, by rw [HZ.out.2.1, HGO.out, hr8]; rfl, hG8.iv, hG8.av⟩
        clear hk8 hr8 ho8 hs8 hm8 hG8
        go_wp2_with fail
        refine (next_any HWC.out w8 HLW8.out HM8.out).mono ?_
        rintro r w9 ⟨rfl, hw9⟩
        rw [hw9]
        clear hw9 w9
        go_wp2_with fail
        go_roundg gk'
        case measure => omega
        case rel => exact ⟨s8, own8, sl8, rfl, HZ8.out.1, HZ8.out.2.1, HM8.out, HZ8.out.2.2.1, HZ8.out.2.2.2, HB8.out⟩
end Go.Proofs.YtkhconnebiiboaaGreatDoor
/- verify.Method, where there is such a method. -/
namespace Go.Proofs.YtkhconnebiiboaaGreatDoor
open Go.RowKit Go.Maps

set_option maxRecDepth 100000 in
set_option maxHeartbeats 8000000 in
theorem method1_any (w : World) (B : Nat) (aC aS aF aN aT : Option Addr) (cC cS cF cN cT : Nat) (d : LinkD) (hk : RLk (· < B) w (.slice aC d.classes.length cC) (.slice aS d.supers.length cS) (.slice aF d.fields.length cF) (.slice aN d.names.length cN) (.slice aT d.targets.length cT) d) (hB : B ≤ w.heap.size) (hg : GlK w) (hT : Cd.Tabs w) (h0 : chkRes d [] = 0) (hN : d.classes.length ≤ 10) (P0 P1 P2 : Nat)
    (k0 : w.heap[P0]? = some (.cells #[.slice aC d.classes.length cC, .slice aS d.supers.length cS, .slice aF d.fields.length cF, .slice aN d.names.length cN, .slice aT d.targets.length cT] 31 (0, 0))) (L : ByteArray → List ByteArray) (ci mi : Nat) (hci : ci < d.classes.length) (hmi : mi < d.classes[ci].meths.length) (m : MethD) (hm : m = d.classes[ci].meths[mi])
    (hcls : Cls d L) (hlc : m.locals ≤ 10) (hag : m.args.length ≤ 4) (hga : ∀ k ∈ m.args, GdK (fun s => 0 ≤ num d.classes s) k) (hwf : ∀ l, Cd.full m.code = .ok l → Wf ⟨d, L, m, l⟩)
    (hrun : ∀ l B P v n, Cd.full m.code = .ok l → n < l.length → RunOk ⟨d, L, m, l⟩ B P v (Cd.get4 l n)) (hch : ∀ l, Cd.full m.code = .ok l → ∀ h ∈ m.hands, HandOk ⟨d, L, m, l⟩ h) (k1 : w.cell? ⟨P1, 0, none⟩ = some (.int .i64 (ci : Int))) (k2 : w.cell? ⟨P2, 0, none⟩ = some (.int .i64 (mi : Int))) :
    Calls Tryz.prog 23 #[.pointer (some ⟨P0, 0, none⟩), .pointer (some ⟨P1, 0, none⟩), .pointer (some ⟨P2, 0, none⟩)] w fun r w' => StsOut (statesD d L m ci) r w w' := by
  have HAB := mkHid (about_any w B _ _ _ _ _ d hk hB hg h0 hN (.slice none 0 0) [] ⟨none, 0, rfl, Nat.le_refl _, Nat.zero_le _, fun k hk => by cases hk⟩)
  have HG := mkHid hg
  have HT := mkHid hT
  have HST : Hid (∀ (W : World) (kC kS kF kN kT : Value) (Bm : Nat), Kd W.heap.size W kC kS kF kN kT Bm d → GlK W → Cd.Tabs W → Calls Tryz.prog 25 #[kdV kC kS kF kN kT Bm, .int .i64 (ci : Int), .int .i64 (mi : Int)] W fun r w' => StsOut (statesD d L m ci) r W w') := fun W kC kS kF kN kT Bm hkd hgW hTW => statesOf_any W kC kS kF kN kT Bm d L hkd hgW hTW ci mi hci hmi m hm hcls hlc hag hga hwf hrun hch
  have hC := hk.C
  obtain ⟨bC, oC, vf, vm, e9, hbC, -, -, -, g3, -, hM, -, -⟩ := hC.atC ci hci
  subst e9
  obtain ⟨aM, cM, rfl, -, hlM, -⟩ := hM
  have l0 := lt_of k0
  have l1 : P1 < w.heap.size := World.block_lt_of_cell? _ _ k1
  have l2 : P2 < w.heap.size := World.block_lt_of_cell? _ _ k2
  have x0 := cell_of k0 0 (x := .slice (some ⟨bC, oC, none⟩) d.classes.length cC) rfl
  have x1 := cell_of k0 1 (x := .slice aS d.supers.length cS) rfl
  have x2 := cell_of k0 2 (x := .slice aF d.fields.length cF) rfl
  have x3 := cell_of k0 3 (x := .slice aN d.names.length cN) rfl
  have x4 := cell_of k0 4 (x := .slice aT d.targets.length cT) rfl
  have h00 : (0 : Int) ≤ ci := by omega
  have h01 : (ci : Int) < d.classes.length := by omega
  have h02 : (0 : Int) ≤ mi := by omega
  have h03 : (mi : Int) < d.classes[ci].meths.length := by omega
  clear hk hg hT h0 hcls hga hwf hrun hch hm hmi hC
  generalize d.classes[ci].meths.length = lm at *
  go_enter Tryz.func23, Tryz.ntmps23
  go_wp2_with fail
  refine HAB.out.mono ?_
  rintro r w1 ⟨hb1, ⟨-, Bm, rfl, hkd⟩ | ⟨h, -⟩⟩
  rotate_left
  · simp at h
  obtain ⟨W2, hW2, hB2, hs2, y0⟩ := boxes1 w1 #[.slice (some ⟨bC, oC, none⟩) d.classes.length cC, .slice aS d.supers.length cS, .slice aF d.fields.length cF, .slice aN d.names.length cN, .slice aT d.targets.length cT, .map (some Bm)] 63
  have hb2 : Below w.heap.size w W2 := hb1.trans (hB2.mono hb1.size)
  have HB2 := mkHid hb2
  have HKD : Hid (Kd W2.heap.size W2 (.slice (some ⟨bC, oC, none⟩) d.classes.length cC) (.slice aS d.supers.length cS) (.slice aF d.fields.length cF) (.slice aN d.names.length cN) (.slice aT d.targets.length cT) Bm d) := by
    have h9 := hkd.below hB2
    exact ⟨h9.lk.mono fun k hk => by omega, h9.nm, by have := h9.bm; omega⟩
  have q0 := (hb2.block P0 l0).trans k0
  have z0 := cell_of q0 0 (x := .slice (some ⟨bC, oC, none⟩) d.classes.length cC) rfl
  have z1 := (hb2.cell (p := ⟨P1, 0, none⟩) l1).trans k1
  have z2 := (hb2.cell (p := ⟨P2, 0, none⟩) l2).trans k2
  have z3 := (hb2.cell (p := ⟨bC, oC + ci * 4 + 3, none⟩) hbC).trans g3
  have yc := fun (j : Nat) (x : Value) (h : (#[.slice (some ⟨bC, oC, none⟩) d.classes.length cC, .slice aS d.supers.length cS, .slice aF d.fields.length cF, .slice aN d.names.length cN, .slice aT d.targets.length cT, .map (some Bm)] : Array Value)[j]? = some x) => cell_of y0 j h
  have y1 := yc 0 _ rfl
  have y2 := yc 1 _ rfl
  have y3 := yc 2 _ rfl
  have y4 := yc 3 _ rfl
  have y5 := yc 4 _ rfl
  have y6 := yc 5 _ rfl
  have m0 : P0 < W2.heap.size := lt_of q0
  have m1 : P1 < W2.heap.size := World.block_lt_of_cell? _ _ z1
  have m2 : P2 < W2.heap.size := World.block_lt_of_cell? _ _ z2
  have m3 : bC < W2.heap.size := World.block_lt_of_cell? _ _ z3
  have u0 := (hb1.block P0 l0).trans k0
  have v0 := cell_of u0 0 (x := .slice (some ⟨bC, oC, none⟩) d.classes.length cC) rfl
  have v1 := (hb1.cell (p := ⟨P1, 0, none⟩) l1).trans k1
  have n0 : P0 < w1.heap.size := lt_of u0
  have n1 : P1 < w1.heap.size := World.block_lt_of_cell? _ _ v1
  clear hb1 hkd hb2 q0 u0 y0 yc k0 k1 k2 g3 x0 x1 x2 x3 x4 HAB
  go_wp2_with fail
  refine (demand_any _ _ _).mono ?_
  rintro r w4 ⟨hw4, ⟨hb, rfl⟩ | ⟨hb, rfl⟩⟩
  · exact absurd hb (by simp)
  rw [hw4]
  clear hb hw4
  go_wp2_with fail
  rw [← hW2]
  clear hW2 v0 v1 hs2
  refine wp_region_held_drew (S := fun W' => ∀ p : Addr, p.block < W2.heap.size → W'.cell? p = W2.cell? p) (by kernel_rfl) (fun p hp => rfl) fun hH => ?_
  refine wpAnyH_take (i := 0) (v := .int .i64 (mi : Int)) rfl (by kernel_rfl) (by kernel_rfl) (by kernel_rfl) (fun _ _ _ h => h) (Or.inl ⟨by kernel_rfl, ?_⟩) hH ?_
  · intro w hSw
    go_simp
  refine wpAnyH_take (i := 1) (v := .bool true) rfl (by kernel_rfl) (by kernel_rfl) (by kernel_rfl) (fun _ _ _ h => h) (Or.inl ⟨by kernel_rfl, ?_⟩) hH ?_
  · intro w hSw
    go_simp
  refine wpAnyH_take (i := 2) (v := .bool true) rfl (by kernel_rfl) (by kernel_rfl) (by kernel_rfl) (fun _ _ _ h => h) (Or.inl ⟨by kernel_rfl, ?_⟩) hH ?_
  · intro w hSw
    go_simp
  refine wpAnyH_take (i := 3) (v := .int .i64 (mi : Int)) rfl (by kernel_rfl) (by kernel_rfl) (by kernel_rfl) (fun _ _ _ h => h) (Or.inl ⟨by kernel_rfl, ?_⟩) hH ?_
  · intro w hSw
    go_simp
  refine wpAnyH_take (i := 4) (v := .pointer (some ⟨P0, 0, none⟩)) rfl (by kernel_rfl) (by kernel_rfl) (by kernel_rfl) (fun _ _ _ h => h) (Or.inl ⟨by kernel_rfl, ?_⟩) hH ?_
  · intro w hSw
    go_simp
  refine wpAnyH_take (i := 5) (v := .slice (some ⟨bC, oC, none⟩) d.classes.length cC) rfl (by kernel_rfl) (by kernel_rfl) (by kernel_rfl) (fun _ _ _ h => h) (Or.inl ⟨by kernel_rfl, ?_⟩) hH ?_
  · intro w hSw
    go_simp
  refine wpAnyH_take (i := 6) (v := .int .i64 (ci : Int)) rfl (by kernel_rfl) (by kernel_rfl) (by kernel_rfl) (fun _ _ _ h => h) (Or.inl ⟨by kernel_rfl, ?_⟩) hH ?_
  · intro w hSw
    go_simp
  refine wpAnyH_take (i := 7) (v := .pointer (some ⟨bC, oC + ci * 4, none⟩)) rfl (by kernel_rfl) (by kernel_rfl) (by kernel_rfl) (fun _ _ _ h => h) (Or.inl ⟨by kernel_rfl, ?_⟩) hH ?_
  · intro w hSw
    go_simp
  refine wpAnyH_take (i := 8) (v := .pointer (some ⟨bC, oC + ci * 4 + 3, none⟩)) rfl (by kernel_rfl) (by kernel_rfl) (by kernel_rfl) (fun _ _ _ h => h) (Or.inl ⟨by kernel_rfl, ?_⟩) hH ?_
  · intro w hSw
    go_simp
  refine wpAnyH_take (i := 9) (v := .slice aM lm cM) rfl (by kernel_rfl) (by kernel_rfl) (by kernel_rfl) (fun _ _ _ h => h) (Or.inl ⟨by kernel_rfl, ?_⟩) hH ?_
  · intro w hSw
    go_simp
  refine wpAnyH_take (i := 10) (v := .int .i64 lm) rfl (by kernel_rfl) (by kernel_rfl) (by kernel_rfl) (fun _ _ _ h => h) (Or.inl ⟨by kernel_rfl, ?_⟩) hH ?_
  · intro w hSw
    go_simp
  refine wpAnyH_take (i := 11) (v := .bool true) rfl (by kernel_rfl) (by kernel_rfl) (by kernel_rfl) (fun _ _ _ h => h) (Or.inl ⟨by kernel_rfl, ?_⟩) hH ?_
  · intro w hSw
    go_simp
  refine wpAnyH_take (i := 12) (v := .bool true) rfl (by kernel_rfl) (by kernel_rfl) (by kernel_rfl) (fun _ _ _ h => h) (Or.inl ⟨by kernel_rfl, ?_⟩) hH ?_
  · intro w hSw
    go_simp
  refine wpAnyH_ready (rs := [13]) (by kernel_rfl) (by simp) ?_
  refine AllReadyH.cons rfl (fun K13 hK13 => ?_) AllReadyH.nil
  go_simp
  refine (demand_any _ _ _).mono ?_
  rintro r w5 ⟨hw5, ⟨hb, rfl⟩ | ⟨hb, rfl⟩⟩
  · exact absurd hb (by simp)
  rw [hw5]
  clear hb hw5
  refine hK13.out _ _ (fun p hp => rfl) fun hH => ?_
  refine wpAnyH_done (by kernel_rfl) ?_ _
  clear hH
  try simp only [Act.put, List.setIfInBounds_toArray, List.set_cons_zero, List.set_cons_succ, List.getElem_toArray, List.getElem_cons_zero, List.getElem_cons_succ]
  go_wp2_with fail
  refine (HST.out W2.drew _ _ _ _ _ Bm (HKD.out.below (Below.refl _ _).drew) (HG.out.below HB2.out.drew) (HT.out.below HB2.out.drew)).mono ?_
  rintro r w6 ⟨hb6, ⟨s6, v6, hr6, rfl, hs6⟩ | ⟨hr6, e6, p6, he6, rfl⟩⟩
  rotate_left
  · exact ⟨rfl, HB2.out.drew.trans (hb6.mono HB2.out.size), Or.inr ⟨hr6, e6, p6, he6, rfl⟩⟩
  have HB6 := mkHid (HB2.out.drew.trans (hb6.mono HB2.out.size))
  have HR6 := mkHid hr6
  have HS6 := mkHid (hs6.monoSt (M' := fun k => w.heap.size ≤ k ∧ k < w6.heap.size) fun k hk => ⟨Nat.le_trans HB2.out.size hk.1, hk.2⟩)
  obtain ⟨a6, c6, rfl, -⟩ := hs6
  clear hb6 hr6
  go_wp2_with fail
  go_ret
  exact ⟨HB6.out, Or.inl ⟨s6, _, HR6.out, rfl, HS6.out⟩⟩
end Go.Proofs.YtkhconnebiiboaaGreatDoor
/- verify.Method, whole, where there is such a method. -/
namespace Go.Proofs.YtkhconnebiiboaaGreatDoor
open Go.RowKit Go.Maps

theorem callMethod1 (args : Array Value) (w : World) : (callFunc 23 args).run Tryz.prog w = .ok (.enter 23 args) w := by kernel_rfl
/-- What Method answers. -/
def MthOut (res : Option SA) (r : Ending) (w w' : World) : Prop := Below w.heap.size w w' ∧ ((∃ s v, res = some s ∧ r = .returned (.tuple #[v, .agg #[.int .i64 0, .int .i64 0]]) ∧ SL 3 RSt (fun k => w.heap.size ≤ k ∧ k < w'.heap.size) w' v s.S) ∨ (res = none ∧ ∃ e p, e ≠ 0 ∧ r = .returned (.tuple #[.slice none 0 0, .agg #[.int .i64 e, .int .i64 p]])))
theorem two_sets {W : World} {P : Nat} {x y : Value} (h0 : W.cell? ⟨P, 0, none⟩ = some x) (h1 : W.cell? ⟨P, 1, none⟩ = some y) (u v : Value) : ((W.setCell ⟨P, 0, none⟩ u).setCell ⟨P, 1, none⟩ v).cell? ⟨P, 0, none⟩ = some u ∧ ((W.setCell ⟨P, 0, none⟩ u).setCell ⟨P, 1, none⟩ v).cell? ⟨P, 1, none⟩ = some v :=
  ⟨(World.cell?_setCell_other _ _ _ _ (by simp)).trans (World.cell?_setCell_same _ _ _ h0), World.cell?_setCell_same _ _ _ ((World.cell?_setCell_other _ _ _ _ (by simp)).trans h1)⟩
set_option maxRecDepth 100000 in
set_option maxHeartbeats 4000000 in
theorem Method_any (w : World) (B : Nat) (aC aS aF aN aT : Option Addr) (cC cS cF cN cT : Nat) (d : LinkD) (hk : RLk (· < B) w (.slice aC d.classes.length cC) (.slice aS d.supers.length cS) (.slice aF d.fields.length cF) (.slice aN d.names.length cN) (.slice aT d.targets.length cT) d) (hB : B ≤ w.heap.size) (hg : GlK w) (hT : Cd.Tabs w) (h0 : chkRes d [] = 0) (hN : d.classes.length ≤ 10) (L : ByteArray → List ByteArray) (ci mi : Nat) (hci : ci < d.classes.length) (hmi : mi < d.classes[ci].meths.length) (m : MethD) (hm : m = d.classes[ci].meths[mi])
    (hcls : Cls d L) (hlc : m.locals ≤ 10) (hag : m.args.length ≤ 4) (hga : ∀ k ∈ m.args, GdK (fun s => 0 ≤ num d.classes s) k) (hwf : ∀ l, Cd.full m.code = .ok l → Wf ⟨d, L, m, l⟩)
    (hrun : ∀ l B P v n, Cd.full m.code = .ok l → n < l.length → RunOk ⟨d, L, m, l⟩ B P v (Cd.get4 l n)) (hch : ∀ l, Cd.full m.code = .ok l → ∀ h ∈ m.hands, HandOk ⟨d, L, m, l⟩ h) :
    Calls Tryz.prog 10 #[.agg #[.slice aC d.classes.length cC, .slice aS d.supers.length cS, .slice aF d.fields.length cF, .slice aN d.names.length cN, .slice aT d.targets.length cT], .int .i64 (ci : Int), .int .i64 (mi : Int)] w fun r w' => MthOut (statesD d L m ci) r w w' := by
  have hmf : ∀ (fn : Fn) (first cap : Array Value) (w : World), (Instr.makeFunc fn first cap).run Tryz.prog w = .ok (.func fn first cap) w := fun _ _ _ _ => rfl
  obtain ⟨W0, hW0, hB0, hs0, q0, q1, q2, q3⟩ := boxes4 w #[.slice aC d.classes.length cC, .slice aS d.supers.length cS, .slice aF d.fields.length cF, .slice aN d.names.length cN, .slice aT d.targets.length cT] #[.int .i64 (ci : Int)] #[.int .i64 (mi : Int)] #[.int .i64 0, .int .i64 0] 31 3 3 43
  have HB0 := mkHid hB0
  have HS0 := mkHid hs0
  have HQ3 := mkHid q3
  have HM : Hid (Calls Tryz.prog 22 #[.func (.func 23) #[] #[.pointer (some ⟨w.heap.size, 0, none⟩), .pointer (some ⟨w.heap.size + 1, 0, none⟩), .pointer (some ⟨w.heap.size + 1 + 1, 0, none⟩)]] W0 fun r w' => Below W0.heap.size W0 w' ∧ W0.heap.size + 4 ≤ w'.heap.size ∧
      ((∃ v, r = .returned (.tuple #[v, .agg #[.int .i64 0, .int .i64 0]]) ∧ (∃ z : Option Addr × Nat × Nat, v = .slice z.1 z.2.1 z.2.2) ∧ ∃ s, statesD d L m ci = some s ∧ SL 3 RSt (fun k => W0.heap.size + 4 ≤ k ∧ k < w'.heap.size) w' v s.S) ∨ (∃ e p, r = .returned (.tuple #[.slice none 0 0, .agg #[.int .i64 e, .int .i64 p]]) ∧ statesD d L m ci = none ∧ e ≠ 0))) := by
    refine madeSt_any W0 23 _ (fun v W => ∃ s, statesD d L m ci = some s ∧ SL 3 RSt (fun k => W0.heap.size + 4 ≤ k ∧ k < W.heap.size) W v s.S) (fun e _ => statesD d L m ci = none ∧ e ≠ 0) callMethod1 ?hc ?hst
    case hc =>
      intro W hW hWs
      have hb := hB0.trans (hW.mono hB0.size)
      refine (method1_any W B _ _ _ _ _ _ _ _ _ _ d (hk.kept (Kp.below (hb.mono hB))) (Nat.le_trans hB hb.size) (hg.below hb) (hT.below hb) h0 hN w.heap.size (w.heap.size + 1) (w.heap.size + 1 + 1) ((hW.block _ (lt_of q0)).trans q0) L ci mi hci hmi m hm hcls hlc hag hga hwf hrun hch (cell_of ((hW.block _ (lt_of q1)).trans q1) 0 rfl) (cell_of ((hW.block _ (lt_of q2)).trans q2) 0 rfl)).mono ?_
      rintro r w' ⟨hb', ⟨s, v, hr, rfl, hs⟩ | ⟨hr, e, p, he, rfl⟩⟩
      · refine ⟨hb', Or.inl ⟨v, rfl, ?_, s, hr, hs.monoSt fun k hk => ⟨by rw [← hWs]; exact hk.1, hk.2⟩⟩⟩
        obtain ⟨a, c, rfl, -⟩ := hs
        exact ⟨⟨a, _, c⟩, rfl⟩
      · exact ⟨hb', Or.inr ⟨e, p, rfl, hr, he⟩⟩
    case hst =>
      rintro v W W' hz hf ⟨s, hr, hs⟩
      exact ⟨s, hr, (hs.keptSt ⟨hf.size, fun b hb hl => hf.block b hl (Or.inr hb.1)⟩).monoSt fun k hk => ⟨hk.1, Nat.lt_of_lt_of_le hk.2 hf.size⟩⟩
  clear hk hg hT h0 hcls hga hwf hrun hch hm hB0 hs0 q0 q1 q2 q3
  go_enter Tryz.func10, Tryz.ntmps10
  go_wp2_with fail
  rw [← hW0]
  clear hW0
  refine HM.out.mono ?_
  rintro r w1 ⟨hb1, hz1, ⟨v, rfl, ⟨⟨a1, n1, c1⟩, hv⟩, s, hr, hs⟩ | ⟨e, p, rfl, hr, he⟩⟩
  · subst hv
    have h3 := (hb1.block _ (lt_of HQ3.out)).trans HQ3.out
    have z0 := cell_of h3 0 (x := .int .i64 0) rfl
    have z1 := cell_of h3 1 (x := .int .i64 0) rfl
    have zf := frz_of h3
    have HTS := mkHid (two_sets z0 z1 (.int .i64 0) (.int .i64 0))
    have hbw := HB0.out.trans (hb1.mono HB0.out.size)
    have HBF : Hid (Below w.heap.size w ((w1.setCell ⟨w.heap.size + 1 + 1 + 1, 0, none⟩ (.int .i64 0)).setCell ⟨w.heap.size + 1 + 1 + 1, 1, none⟩ (.int .i64 0))) := (hbw.setCell (by simp; omega) _).setCell (by simp; omega) _
    have HSF : Hid (SL 3 RSt (fun k => w.heap.size ≤ k ∧ k < ((w1.setCell ⟨w.heap.size + 1 + 1 + 1, 0, none⟩ (.int .i64 0)).setCell ⟨w.heap.size + 1 + 1 + 1, 1, none⟩ (.int .i64 0)).heap.size) ((w1.setCell ⟨w.heap.size + 1 + 1 + 1, 0, none⟩ (.int .i64 0)).setCell ⟨w.heap.size + 1 + 1 + 1, 1, none⟩ (.int .i64 0)) (.slice a1 n1 c1) s.S) := by
      refine (hs.keptSt ⟨by simp [World.setCell], fun b hb _ => ?_⟩).monoSt fun k hk => ⟨by have := HS0.out; omega, by simp [World.setCell]; exact hk.2⟩
      have := HS0.out
      rw [Below.heap_setCell _ _ _ _ (by show b ≠ w.heap.size + 1 + 1 + 1; omega), Below.heap_setCell _ _ _ _ (by show b ≠ w.heap.size + 1 + 1 + 1; omega)]
    have HR := mkHid hr
    clear h3 hs hr hb1 hbw HM HQ3
    go_wp2_with fail
    obtain ⟨t0, t1⟩ := HTS.out
    exact bodyPost_ret (v := .tuple #[.slice a1 n1 c1, .agg #[.int .i64 0, .int .i64 0]]) (by simp [results, Tryz.results10, go_sem, t0, t1]) rfl ⟨HBF.out, Or.inl ⟨s, _, HR.out, rfl, HSF.out⟩⟩
  · have h3 := (hb1.block _ (lt_of HQ3.out)).trans HQ3.out
    have z0 := cell_of h3 0 (x := .int .i64 0) rfl
    have z1 := cell_of h3 1 (x := .int .i64 0) rfl
    have zf := frz_of h3
    have HTS := mkHid (two_sets z0 z1 (.int .i64 e) (.int .i64 p))
    have hbw := HB0.out.trans (hb1.mono HB0.out.size)
    have HBF : Hid (Below w.heap.size w ((w1.setCell ⟨w.heap.size + 1 + 1 + 1, 0, none⟩ (.int .i64 e)).setCell ⟨w.heap.size + 1 + 1 + 1, 1, none⟩ (.int .i64 p))) := (hbw.setCell (by simp; omega) _).setCell (by simp; omega) _
    have HR := mkHid hr
    have HE := mkHid he
    clear h3 hr he hb1 hbw HM HQ3
    go_wp2_with fail
    obtain ⟨t0, t1⟩ := HTS.out
    exact bodyPost_ret (v := .tuple #[.slice none 0 0, .agg #[.int .i64 e, .int .i64 p]]) (by simp [results, Tryz.results10, go_sem, t0, t1]) rfl ⟨HBF.out, Or.inr ⟨HR.out, e, p, HE.out, rfl⟩⟩
end Go.Proofs.YtkhconnebiiboaaGreatDoor
