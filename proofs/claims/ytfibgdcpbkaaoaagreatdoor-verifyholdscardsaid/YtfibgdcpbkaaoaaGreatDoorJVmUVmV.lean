/- Looking ends: plain. -/
import Derived.Test.YtfibgdcpbkaaoaaGreatDoorVmQ
import Derived.Test.YtfibgdcpbkaaoaaGreatDoorJVmKVmC
namespace Go.Proofs.YtfibgdcpbkaaoaaGreatDoor
def AInv (s : SA) : Prop := ∀ n (h : n < s.A.length) (h' : n < s.S.length), s.A[n] = true → s.S[n].comes = true
def rmax (c : Lkr) : Nat := (c.d.classes.map fun k => (c.L k.name).length).foldl max 0 + 3
def rank (c : Lkr) (k : KindD) : Nat := if sameK k anyK then 0 else if sameK k nulK then rmax c else if k.kind = 3 then (c.L k.cls).length else if sameK k numK then 1 else 2
theorem foldl_max (l : List Nat) : ∀ a, a ≤ l.foldl max a ∧ ∀ x ∈ l, x ≤ l.foldl max a := by
  induction l with
  | nil => intro a; exact ⟨Nat.le_refl _, fun x hx => by cases hx⟩
  | cons y l ih =>
    intro a
    obtain ⟨h1, h2⟩ := ih (max a y)
    refine ⟨Nat.le_trans (Nat.le_max_left _ _) h1, fun x hx => ?_⟩
    rcases List.mem_cons.1 hx with rfl | hx
    · exact Nat.le_trans (Nat.le_max_right _ _) h1
    · exact h2 x hx
theorem rank_any {c : Lkr} : rank c anyK = 0 := by unfold rank; rw [if_pos (sameK_self _)]
theorem rank_obj {c : Lkr} {k : KindD} (hk : k.kind = 3) : rank c k = (c.L k.cls).length := by
  unfold rank
  rw [if_neg (by rw [eqK_iff]; exact fun e => absurd (anyK_kind e) (by omega)), if_neg (by rw [eqK_iff]; exact fun e => absurd (nulK_kind e) (by omega)), if_pos hk]
theorem rank_nul {c : Lkr} : rank c nulK = rmax c := by
  unfold rank
  rw [if_neg (by decide), if_pos (sameK_self _)]
section
variable {c : Lkr}
theorem lnn_le (hc : Cls c.d c.L) {s : ByteArray} (h : Kn c s) : (c.L s).length + 3 ≤ rmax c := by
  obtain ⟨n, hn, -, e⟩ := hc.nm s h
  have := (foldl_max (c.d.classes.map fun k => (c.L k.name).length) 0).2 (c.L s).length (List.mem_map.2 ⟨_, List.getElem_mem hn, by rw [e]⟩)
  unfold rmax
  omega
theorem lnn_pos (hc : Cls c.d c.L) {s : ByteArray} (h : Kn c s) : 1 ≤ (c.L s).length := by
  have := hc.lin.self h
  exact List.length_pos_of_mem this
theorem lnn_top (hc : Cls c.d c.L) : (c.L topName).length = 1 := by
  rcases hc.lin.up topName hc.kt with ⟨-, e⟩ | ⟨s, hs, e⟩
  · rw [e]; rfl
  · exfalso
    have key : ∀ x, Kn c x → (c.L topName).length ≤ (c.L x).length := hc.lin.ind _ (fun _ => Nat.le_refl _) (fun x y _ _ e ih => by rw [e]; simp; omega)
    have h1 := key s hs
    have h2 := congrArg List.length e
    simp at h2
    omega
theorem lnn_mem (hc : Cls c.d c.L) {b : ByteArray} : ∀ a, Kn c a → b ∈ c.L a → (c.L b).length ≤ (c.L a).length ∧ (a ≠ b → (c.L b).length < (c.L a).length) :=
  hc.lin.ind _ (fun e hb => by
    rw [e] at hb
    simp at hb
    subst hb
    exact ⟨Nat.le_refl _, fun h => absurd rfl h⟩) (fun a s _ _ e ih hb => by
    rw [e] at hb
    rcases List.mem_cons.1 hb with rfl | hb
    · exact ⟨Nat.le_refl _, fun h => absurd rfl h⟩
    · have := (ih hb).1
      rw [e]
      simp
      exact ⟨by omega, fun _ => by omega⟩)
theorem lnn_two (hc : Cls c.d c.L) {s : ByteArray} (h : Kn c s) (hne : s ≠ topName) : 2 ≤ (c.L s).length := by
  have := (lnn_mem hc s h (hc.lin.tops s h)).2 hne
  rw [lnn_top hc] at this
  omega
theorem rank_le (hc : Cls c.d c.L) {k : KindD} (h : GdK (Kn c) k) : rank c k ≤ rmax c := by
  unfold rank
  have h3 : 3 ≤ rmax c := by unfold rmax; omega
  split
  · omega
  · split
    · omega
    · split
      · rename_i h'
        have := lnn_le hc (h.cls h')
        omega
      · split <;> omega
theorem rank_pos (hc : Cls c.d c.L) {k : KindD} (h : GdK (Kn c) k) (hne : k ≠ anyK) : 1 ≤ rank c k := by
  unfold rank
  rw [if_neg (by rw [eqK_iff]; exact hne)]
  split
  · unfold rmax; omega
  · split
    · rename_i h'
      exact lnn_pos hc (h.cls h')
    · split <;> omega
theorem rank_two (hc : Cls c.d c.L) {k : KindD} (h : GdK (Kn c) k) (h1 : k ≠ anyK) (h2 : k ≠ numK) (h3 : k ≠ ⟨3, topName⟩) : 2 ≤ rank c k := by
  unfold rank
  rw [if_neg (by rw [eqK_iff]; exact h1)]
  split
  · unfold rmax; omega
  · split
    · rename_i h'
      exact lnn_two hc (h.cls h') (fun e => h3 (by cases k; simp at e h'; rw [e, h']))
    · rw [if_neg (by rw [eqK_iff]; exact h2)]
      omega
theorem rank_lt_nul (hc : Cls c.d c.L) {k : KindD} (h : GdK (Kn c) k) (hne : k ≠ nulK) : rank c k < rmax c := by
  have h3 : 3 ≤ rmax c := by unfold rmax; omega
  unfold rank
  split
  · omega
  · rw [if_neg (by rw [eqK_iff]; exact hne)]
    split
    · rename_i h'
      have := lnn_le hc (h.cls h')
      omega
    · split <;> omega
theorem rank_join (hc : Cls c.d c.L) {a b : KindD} (ha : GdK (Kn c) a) (hb : GdK (Kn c) b) (hne : c.join a b ≠ a) : rank c (c.join a b) < rank c a := by
  have hlin := hc.lin
  obtain ⟨hg, hfa, hfb, -⟩ := joinB_spec hlin ha hb
  change GdK (Kn c) (c.join a b) at hg
  change FitK topName c.L a (c.join a b) at hfa
  rcases hfa with e | e | ⟨e, -⟩ | ⟨e, e2, e3, e4⟩ | ⟨e, e2, e3, e4, e5⟩
  · exact absurd e.symm hne
  · rw [e, rank_any]
    exact rank_pos hc ha (fun e' => hne (by rw [e, e']))
  · rw [show rank c a = rmax c by rw [e, rank_nul]]
    exact rank_lt_nul hc hg (fun e' => hne (by rw [e', e]))
  · rw [e2, rank_obj rfl, lnn_top hc]
    exact rank_two hc ha e4 e3 (fun e' => hne (by rw [e2, e']))
  · rw [rank_obj e4, rank_obj e3]
    refine (lnn_mem hc _ (ha.cls e3) e5).2 fun e' => hne ?_
    generalize c.join a b = j at *
    cases a
    cases j
    simp at e' e3 e4
    rw [e', e3, e4]
end
def rankL (c : Lkr) (l : List KindD) : Nat := (l.map (rank c)).sum
theorem rankL_le {c : Lkr} (hc : Cls c.d c.L) : ∀ {l : List KindD}, (∀ k ∈ l, GdK (Kn c) k) → rankL c l ≤ l.length * rmax c
  | [], _ => by simp [rankL]
  | x :: l, h => by
    have h1 := rank_le hc (h x (by simp))
    have h2 := rankL_le hc (l := l) fun k hk => h k (by simp [hk])
    simp only [rankL, List.map_cons, List.sum_cons, List.length_cons] at *
    rw [Nat.add_mul]
    omega
theorem rankL_join {c : Lkr} (hc : Cls c.d c.L) : ∀ {a b : List KindD}, a.length = b.length → (∀ k ∈ a, GdK (Kn c) k) → (∀ k ∈ b, GdK (Kn c) k) → rankL c (joinL c a b) ≤ rankL c a ∧ (chgL c a b = true → rankL c (joinL c a b) < rankL c a)
  | [], [], _, _, _ => by simp [rankL, joinL, chgL]
  | [], _ :: _, h, _, _ => by simp at h
  | _ :: _, [], h, _, _ => by simp at h
  | x :: a, y :: b, h, ha, hb => by
    obtain ⟨h1, h2⟩ := rankL_join hc (a := a) (b := b) (by simpa using h) (fun k hk => ha k (by simp [hk])) (fun k hk => hb k (by simp [hk]))
    have e : joinL c (x :: a) (y :: b) = c.join x y :: joinL c a b := by simp [joinL]
    have e2 : chgL c (x :: a) (y :: b) = (!sameK (c.join x y) x || chgL c a b) := by simp [chgL]
    have hr : rank c (c.join x y) ≤ rank c x ∧ (c.join x y ≠ x → rank c (c.join x y) < rank c x) := by
      by_cases hx : c.join x y = x
      · rw [hx]; exact ⟨Nat.le_refl _, fun h => absurd rfl h⟩
      · have := rank_join hc (ha x (by simp)) (hb y (by simp)) hx
        exact ⟨Nat.le_of_lt this, fun _ => this⟩
    rw [e, e2]
    simp only [rankL, List.map_cons, List.sum_cons] at *
    refine ⟨by omega, fun hh => ?_⟩
    rcases Bool.or_eq_true _ _ ▸ hh with hh | hh
    · have := hr.2 (by rw [Bool.not_eq_true'] at hh; exact eqK_not.1 hh)
      omega
    · have := h2 hh
      omega
def big (c : Lkr) : Nat := 2 * (20 * rmax c) + 2
def muO (c : Lkr) (s : StD) (b : Bool) : Nat := if s.comes then 2 * (rankL c s.locals + rankL c s.stack) + (if b then 1 else 0) else big c
def mu (c : Lkr) (s : SA) : Nat := (List.zipWith (muO c) s.S s.A).sum
theorem sum_set {l : List Nat} {n x : Nat} (hn : n < l.length) : (l.set n x).sum + l[n] = l.sum + x := by
  induction l generalizing n with
  | nil => cases hn
  | cons y l ih =>
    cases n with
    | zero => simp; omega
    | succ n =>
      have := ih (n := n) (by simpa using hn)
      simp at *
      omega
theorem zip_set {α β γ : Type} (f : α → β → γ) : ∀ (a : List α) (b : List β) (n : Nat) (x : α) (y : β), n < a.length → n < b.length → List.zipWith f (a.set n x) (b.set n y) = (List.zipWith f a b).set n (f x y)
  | [], _, _, _, _, h, _ => by cases h
  | _ :: _, [], _, _, _, _, h => by cases h
  | p :: a, q :: b, 0, x, y, _, _ => by simp
  | p :: a, q :: b, n + 1, x, y, h, h' => by simp [zip_set f a b n x y (by simpa using h) (by simpa using h')]
theorem mu_set {c : Lkr} {S : List StD} {A : List Bool} {n : Nat} (hS : n < S.length) (hA : n < A.length) (x : StD) (y : Bool) : mu c ⟨S.set n x, A.set n y⟩ + muO c S[n] A[n] = mu c ⟨S, A⟩ + muO c x y := by
  have hz : n < (List.zipWith (muO c) S A).length := by rw [List.length_zipWith]; omega
  have := sum_set (l := List.zipWith (muO c) S A) (n := n) (x := muO c x y) hz
  rw [List.getElem_zipWith] at this
  unfold mu
  rw [zip_set _ _ _ _ _ _ hS hA]
  exact this
theorem set_own {α : Type} {l : List α} {n : Nat} (hn : n < l.length) : l.set n l[n] = l := List.set_getElem_self hn
theorem come_mu {c : Lkr} (hw : Wf c) {s s' : SA} {n : Nat} {lo st : List KindD} (hn : n < s.S.length) (hnA : n < s.A.length) (hi : Inv c s) (hlo : lo.length = c.m.locals.toNat) (gl : ∀ k ∈ lo, GdK (Kn c) k) (gs : ∀ k ∈ st, GdK (Kn c) k) (h : comeD c s n lo st = some s') : mu c s' ≤ mu c s := by
  have h10 := hw.st.2
  have hl10 := hw.lc.2
  cases h0 : s.S[n].comes with
  | true =>
    rw [come_old hn h0] at h
    split at h
    · rename_i hh
      rw [Bool.and_eq_true, decide_eq_true_iff, decide_eq_true_iff] at hh
      obtain ⟨i1, i2, i3⟩ := hi n hn
      have hL := rankL_join hw.cls (a := s.S[n].locals) (b := lo) (by rw [(i1 h0).1, hlo]) i2 gl
      have hS := rankL_join hw.cls (a := s.S[n].stack) (b := st) hh.1 i3 gs
      cases h
      cases hch : (chgL c s.S[n].locals lo || chgL c s.S[n].stack st) with
      | true =>
        rw [if_pos rfl]
        have := mu_set (c := c) (S := s.S) (A := s.A) hn hnA ⟨true, joinL c s.S[n].locals lo, joinL c s.S[n].stack st⟩ true
        have e : mu c ⟨s.S, s.A⟩ = mu c s := rfl
        unfold muO at this
        rw [h0] at this
        simp only [if_true] at this
        have h9 : rankL c (joinL c s.S[n].locals lo) + rankL c (joinL c s.S[n].stack st) < rankL c s.S[n].locals + rankL c s.S[n].stack := by
          rcases Bool.or_eq_true _ _ ▸ hch with h | h
          · have := hL.2 h; have := hS.1; omega
          · have := hS.2 h; have := hL.1; omega
        split at this <;> omega
      | false =>
        rw [if_neg (by decide)]
        have := mu_set (c := c) (S := s.S) (A := s.A) hn hnA ⟨true, joinL c s.S[n].locals lo, joinL c s.S[n].stack st⟩ s.A[n]
        rw [set_own hnA] at this
        have e : mu c ⟨s.S, s.A⟩ = mu c s := rfl
        unfold muO at this
        rw [h0] at this
        simp only [if_true] at this
        have := hL.1
        have := hS.1
        omega
    · cases h
  | false =>
    rw [come_new hn h0] at h
    split at h
    · rename_i hh
      have hh := of_decide_eq_true hh
      cases h
      have := mu_set (c := c) (S := s.S) (A := s.A) hn hnA ⟨true, lo, st⟩ true
      have e : mu c ⟨s.S, s.A⟩ = mu c s := rfl
      unfold muO at this
      rw [h0] at this
      simp only [if_true] at this
      have r1 := rankL_le hw.cls gl
      have r2 := rankL_le hw.cls gs
      have r3 : lo.length * rmax c + st.length * rmax c ≤ 20 * rmax c := by
        rw [← Nat.add_mul]
        exact Nat.mul_le_mul_right _ (by omega)
      simp at this
      unfold big at this
      omega
    · cases h
theorem come_a {c : Lkr} {s s' : SA} {n : Nat} {lo st : List KindD} (hn : n < s.S.length) (hA : AInv s) (h : comeD c s n lo st = some s') : AInv s' := by
  have hcm := come_comes hn h
  have hl := come_len h
  have key : ∀ k (h : k < s'.A.length), s'.A[k] = true → k = n ∨ ∃ h' : k < s.A.length, s.A[k] = true := fun k hk e => by
    by_cases ek : k = n
    · exact Or.inl ek
    · refine Or.inr ⟨by rw [← hl.2]; exact hk, ?_⟩
      have hne : n ≠ k := fun e => ek e.symm
      unfold comeD at h
      split at h
      · cases h
        revert e
        split
        · split
          · simp [hne]
          · exact fun h => h
        · simp [hne]
      · cases h
  intro k hk hk' e
  rcases key k hk e with rfl | ⟨h1, h2⟩
  · obtain ⟨-, h2⟩ := come_st hn h
    rcases h2 with ⟨-, -, e⟩ | ⟨-, e⟩ <;> simp [e]
  · obtain ⟨h3, h4⟩ := hcm k (by rw [← hl.1]; exact hk') (hA k h1 (by rw [← hl.1]; exact hk') h2)
    exact h4
end Go.Proofs.YtfibgdcpbkaaoaaGreatDoor
/- What looking leaves: plain. -/
namespace Go.Proofs.YtfibgdcpbkaaoaaGreatDoor
theorem tp_out {c : Lkr} {lo st asked : List KindD} {puts : List KindD → Option (List KindD)} {r : LS} (h : tpD c lo st asked puts = some r) : r.1 = lo ∧ ∃ t rest p, takeD c st asked = some (t, rest) ∧ puts t = some p ∧ r.2 = rest ++ p := by
  unfold tpD at h
  obtain ⟨⟨t, rest⟩, h1, h2⟩ := Option.bind_eq_some_iff.1 h
  obtain ⟨p, h3, h4⟩ := Option.map_eq_some_iff.1 h2
  subst h4
  exact ⟨rfl, t, rest, p, h1, h3, rfl⟩
section
variable {c : Lkr} {lo st : List KindD} {r : LS}
def LG (c : Lkr) (lo : List KindD) (r : LS) : Prop := r.1.length = lo.length ∧ (∀ k ∈ r.1, GdK (Kn c) k) ∧ ∀ k ∈ r.2, GdK (Kn c) k
theorem tp_gd {asked : List KindD} {puts : List KindD → Option (List KindD)} (gl : ∀ k ∈ lo, GdK (Kn c) k) (gs : ∀ k ∈ st, GdK (Kn c) k) (hp : ∀ t p, (∀ k ∈ t, GdK (Kn c) k) → t.length = asked.length → puts t = some p → ∀ k ∈ p, GdK (Kn c) k) (h : tpD c lo st asked puts = some r) : LG c lo r := by
  obtain ⟨e1, t, rest, p, h1, h2, e2⟩ := tp_out h
  obtain ⟨l1, l2, l3, l4⟩ := take_len h1
  refine ⟨by rw [e1], by rw [e1]; exact gl, fun k hk => ?_⟩
  rw [e2] at hk
  rcases List.mem_append.1 hk with hk | hk
  · exact gs k (l4 k hk)
  · exact hp t p (fun k hk => gs k (l3 k hk)) l1 h2 k hk
theorem put_gd {p : List KindD} (gl : ∀ k ∈ lo, GdK (Kn c) k) (gs : ∀ k ∈ st, GdK (Kn c) k) (gp : ∀ k ∈ p, GdK (Kn c) k) (h : some (lo, st ++ p) = some r) : LG c lo r := by
  cases h
  exact ⟨rfl, gl, fun k hk => by
    rcases List.mem_append.1 hk with hk | hk
    · exact gs k hk
    · exact gp k hk⟩
theorem none_gd (gl : ∀ k ∈ lo, GdK (Kn c) k) (gs : ∀ k ∈ st, GdK (Kn c) k) (h : some (lo, st) = some r) : LG c lo r := by
  cases h
  exact ⟨rfl, gl, gs⟩
theorem kAt_gd {l : List KindD} (g : ∀ k ∈ l, GdK (Kn c) k) (n : Nat) : GdK (Kn c) (kAt l n) := by
  unfold kAt
  cases h : l[n]? with
  | none => exact numK_gd c
  | some k => exact g k (List.mem_of_getElem? h)
theorem one_gd {a : KindD} (h : GdK (Kn c) a) : ∀ k ∈ [a], GdK (Kn c) k := fun k hk => by simp at hk; rw [hk]; exact h
theorem two_gd {a b : KindD} (ha : GdK (Kn c) a) (hb : GdK (Kn c) b) : ∀ k ∈ [a, b], GdK (Kn c) k := fun k hk => by
  simp at hk
  rcases hk with rfl | rfl
  · exact ha
  · exact hb
theorem some_gd {a : KindD} (h : a.kind = 0 ∨ GdK (Kn c) a) : ∀ k ∈ someD a, GdK (Kn c) k := fun k hk => by
  unfold someD at hk
  split at hk
  · cases hk
  · rename_i h0
    simp at hk
    rw [hk]
    exact h.resolve_left h0
theorem nil_gd : ∀ k ∈ ([] : List KindD), GdK (Kn c) k := fun k hk => by cases hk
theorem place_gd {a p : KindD} (ha : GdK (Kn c) a) (h : placeOfD a = some p) : GdK (Kn c) p := by
  unfold placeOfD at h
  split at h
  · cases h; exact nulK_gd c
  · split at h
    · cases h; exact numK_gd c
    · split at h
      · rename_i h4
        cases h
        rcases ha with ⟨-, h⟩ | e | e | e | e
        · exact Or.inl ⟨Or.inl rfl, h⟩
        · exact absurd (numK_kind e) (by omega)
        · exact absurd (rowK_kind e) (by omega)
        · exact absurd (nulK_kind e) (by omega)
        · exact absurd (anyK_kind e) (by omega)
      · cases h
theorem stack_gd {x : Cd.Op4} (gl : ∀ k ∈ lo, GdK (Kn c) k) (gs : ∀ k ∈ st, GdK (Kn c) k) (h : stackD c x lo st = some r) : LG c lo r := by
  unfold stackD at h
  split at h
  · exact put_gd gl gs (one_gd (numK_gd c)) h
  split at h
  · exact put_gd gl gs (one_gd (nulK_gd c)) h
  split at h
  · split at h
    · cases h
    · exact put_gd gl gs (one_gd (kAt_gd gl _)) h
  split at h
  · obtain ⟨⟨t, rest⟩, h1, h2⟩ := Option.map_eq_some_iff.1 h
    subst h2
    obtain ⟨l1, l2, l3, l4⟩ := take_len h1
    refine ⟨by simp, fun k hk => ?_, fun k hk => gs k (l4 k hk)⟩
    rcases List.mem_or_eq_of_mem_set hk with hk | rfl
    · exact gl k hk
    · exact kAt_gd (fun k hk => gs k (l3 k hk)) 0
  split at h
  · exact tp_gd gl gs (fun t p _ _ e => by cases e; exact nil_gd) h
  split at h
  · exact tp_gd gl gs (fun t p g _ e => by cases e; exact two_gd (kAt_gd g 0) (kAt_gd g 0)) h
  split at h
  · exact tp_gd gl gs (fun t p g _ e => by cases e; exact two_gd (kAt_gd g 1) (kAt_gd g 0)) h
  · exact none_gd gl gs h
theorem branch_gd {x : Cd.Op4} (gl : ∀ k ∈ lo, GdK (Kn c) k) (gs : ∀ k ∈ st, GdK (Kn c) k) (h : branchD c x lo st = some r) : LG c lo r := by
  unfold branchD at h
  split at h
  · exact tp_gd gl gs (fun t p _ _ e => by cases e; exact nil_gd) h
  split at h
  · exact tp_gd gl gs (fun t p _ _ e => by cases e; exact nil_gd) h
  split at h
  · exact tp_gd gl gs (fun t p _ _ e => by cases e; exact nil_gd) h
  split at h
  · exact tp_gd gl gs (fun t p _ _ e => by cases e; exact nil_gd) h
  · exact none_gd gl gs h
theorem row_gd (hw : Wf c) {x : Cd.Op4} (ha : 0 ≤ x.a) (ht : tellsD c x lo.length = true) (gl : ∀ k ∈ lo, GdK (Kn c) k) (gs : ∀ k ∈ st, GdK (Kn c) k) (h : rowD c x lo st = some r) : LG c lo r := by
  unfold rowD at h
  split at h
  · exact tp_gd gl gs (fun t p _ _ e => by cases e; exact one_gd (rowK_gd c)) h
  split at h
  · rename_i ho
    have h1 : x.a < c.d.classes.length := by
      unfold tellsD at ht
      rw [ho] at ht
      exact of_decide_eq_true ht
    refine tp_gd gl gs (fun t p _ _ e => by
      cases e
      refine one_gd (Or.inl ⟨Or.inr rfl, ?_⟩)
      rcases ofC_gd hw ha h1 with ⟨-, h⟩ | e | e | e | e
      · exact h
      · exact absurd (numK_kind e) (by show ¬ (3 : Int) = 1; decide)
      · exact absurd (rowK_kind e) (by show ¬ (3 : Int) = 2; decide)
      · exact absurd (nulK_kind e) (by show ¬ (3 : Int) = 5; decide)
      · exact absurd (anyK_kind e) (by show ¬ (3 : Int) = 6; decide)) h
  split at h
  · exact tp_gd gl gs (fun t p g _ e => by
      obtain ⟨q, h1, h2⟩ := Option.map_eq_some_iff.1 e
      subst h2
      exact one_gd (place_gd (kAt_gd g 0) h1)) h
  split at h
  · exact tp_gd gl gs (fun t p g _ e => by
      obtain ⟨q, h1, h2⟩ := Option.bind_eq_some_iff.1 e
      split at h2
      · cases h2; exact nil_gd
      · cases h2) h
  split at h
  · exact tp_gd gl gs (fun t p g _ e => by
      obtain ⟨q, h1, h2⟩ := Option.map_eq_some_iff.1 e
      subst h2
      exact one_gd (numK_gd c)) h
  · exact none_gd gl gs h
theorem fld_gd (hw : Wf c) {x : Cd.Op4} (h0 : 0 ≤ x.a) (h1 : x.a < c.d.classes.length) (h2 : 0 ≤ x.b) (h3 : x.b < (c.flds x).length) : GdK (Kn c) (c.fld x) := by
  obtain ⟨n, hn, hl, hN⟩ := Cd_nat h0 h1
  have hnf : n < c.d.fields.length := by rw [hw.fl]; exact hl
  have hfs : c.flds x = c.d.fields[n] := by unfold Lkr.flds; rw [hN, List.getElem?_eq_getElem hnf]; rfl
  rw [hfs] at h3
  obtain ⟨k, hk, hkl, hK⟩ := Cd_nat h2 h3
  unfold Lkr.fld
  rw [hfs, hK, List.getElem?_eq_getElem hkl]
  exact hw.fk _ (List.getElem_mem hnf) _ (List.getElem_mem hkl)
theorem thing_gd (hw : Wf c) {x : Cd.Op4} (ha : 0 ≤ x.a) (hb : 0 ≤ x.b) (ht : tellsD c x lo.length = true) (gl : ∀ k ∈ lo, GdK (Kn c) k) (gs : ∀ k ∈ st, GdK (Kn c) k) (h : thingD c x lo st = some r) : LG c lo r := by
  unfold thingD at h
  split at h
  · rename_i ho
    exact put_gd gl gs (one_gd (ofC_gd hw ha (by unfold tellsD at ht; rw [ho] at ht; exact of_decide_eq_true ht))) h
  split at h
  · rename_i ho
    have h1 : x.a < c.d.classes.length ∧ x.b < (c.flds x).length := by
      unfold tellsD at ht
      rw [ho] at ht
      have := Bool.and_eq_true _ _ ▸ ht
      exact ⟨of_decide_eq_true this.1, of_decide_eq_true this.2⟩
    exact tp_gd gl gs (fun t p _ _ e => by cases e; exact one_gd (fld_gd hw ha h1.1 hb h1.2)) h
  split at h
  · exact tp_gd gl gs (fun t p _ _ e => by cases e; exact nil_gd) h
  split at h
  · exact tp_gd gl gs (fun t p _ _ e => by cases e; exact one_gd (numK_gd c)) h
  split at h
  · rename_i ho
    exact tp_gd gl gs (fun t p _ _ e => by cases e; exact one_gd (ofC_gd hw ha (by unfold tellsD at ht; rw [ho] at ht; exact of_decide_eq_true ht))) h
  split at h
  · exact tp_gd gl gs (fun t p _ _ e => by cases e; exact nil_gd) h
  · exact none_gd gl gs h
theorem told_ret (hw : Wf c) {x : Cd.Op4} (h0 : 0 ≤ x.a) (h1 : x.a < c.d.classes.length) (h2 : 0 ≤ x.b) (h3 : x.b < (c.cls x).meths.length) : (c.told x).ret.kind = 0 ∨ GdK (Kn c) (c.told x).ret := by
  obtain ⟨n, hn, hl, hN⟩ := Cd_nat h0 h1
  have hcl : c.cls x = c.d.classes[n] := by unfold Lkr.cls; rw [hN, clsAt_eq hl]
  rw [hcl] at h3
  obtain ⟨k, hk, hkl, hK⟩ := Cd_nat h2 h3
  rw [told_is hl hkl hN hK]
  exact hw.mr _ (List.getElem_mem hl) _ (List.getElem_mem hkl)
theorem call_gd (hw : Wf c) {x : Cd.Op4} (ha : 0 ≤ x.a) (hb : 0 ≤ x.b) (ht : tellsD c x lo.length = true) (gl : ∀ k ∈ lo, GdK (Kn c) k) (gs : ∀ k ∈ st, GdK (Kn c) k) (h : callD c x lo st = some r) : LG c lo r := by
  unfold callD at h
  split at h
  · rename_i ho
    have h1 : x.a < c.d.classes.length ∧ x.b < (c.cls x).meths.length := by
      unfold tellsD at ht
      rw [ho] at ht
      have := Bool.and_eq_true _ _ ▸ ht
      exact ⟨of_decide_eq_true this.1, of_decide_eq_true this.2⟩
    exact tp_gd gl gs (fun t p _ _ e => by cases e; exact some_gd (told_ret hw ha h1.1 hb h1.2)) h
  split at h
  · exact tp_gd gl gs (fun t p _ _ e => by cases e; exact nil_gd) h
  split at h
  · exact tp_gd gl gs (fun t p _ _ e => by cases e; exact nil_gd) h
  split at h
  · exact tp_gd gl gs (fun t p _ _ e => by cases e; exact nil_gd) h
  split at h
  · exact tp_gd gl gs (fun t p _ _ e => by cases e; exact nil_gd) h
  split at h
  · exact put_gd gl gs (one_gd (numK_gd c)) h
  · exact none_gd gl gs h
theorem run_gd (hw : Wf c) {x : Cd.Op4} (ha : x.op ≠ 1 → 0 ≤ x.a) (hb : 0 ≤ x.b) (gl : ∀ k ∈ lo, GdK (Kn c) k) (gs : ∀ k ∈ st, GdK (Kn c) k) (h : runD c x lo st = some r) : LG c lo r ∧ (r.2.length : Int) ≤ c.m.stack := by
  unfold runD at h
  split at h
  · rename_i hts
    have ht := (Bool.and_eq_true _ _ ▸ hts).1
    obtain ⟨r', h1, h2⟩ := Option.bind_eq_some_iff.1 h
    split at h2
    · rename_i hst
      cases h2
      refine ⟨?_, of_decide_eq_true hst⟩
      unfold workD at h1
      split at h1
      · exact tp_gd gl gs (fun t p _ _ e => by cases e; exact one_gd (numK_gd c)) h1
      split at h1
      · exact branch_gd gl gs h1
      split at h1
      · rename_i hr
        exact row_gd hw (ha fun e => by rw [e] at hr; exact absurd hr (by decide)) ht gl gs h1
      split at h1
      · rename_i hr
        exact thing_gd hw (ha fun e => by rw [e] at hr; exact absurd hr (by decide)) hb ht gl gs h1
      split at h1
      · rename_i hr
        exact call_gd hw (ha fun e => by rw [e] at hr; exact absurd hr (by decide)) hb ht gl gs h1
      · exact stack_gd gl gs h1
    · cases h2
  · cases h
end
structure Go2 (c : Lkr) (s s' : SA) : Prop where
  ls : s'.S.length = s.S.length
  la : s'.A.length = s.A.length
  iv : Inv c s'
  av : AInv s'
  mu : mu c s' ≤ mu c s
  cm : ∀ k (hk : k < s.S.length), s.S[k].comes = true → ∃ h' : k < s'.S.length, s'.S[k].comes = true
theorem Go2.refl {c : Lkr} {s : SA} (hi : Inv c s) (ha : AInv s) : Go2 c s s := ⟨rfl, rfl, hi, ha, Nat.le_refl _, fun _ h hc => ⟨h, hc⟩⟩
theorem Go2.trans {c : Lkr} {a b d : SA} (h : Go2 c a b) (k : Go2 c b d) : Go2 c a d := ⟨k.ls.trans h.ls, k.la.trans h.la, k.iv, k.av, Nat.le_trans k.mu h.mu, fun n hn hc => by
  obtain ⟨h1, h2⟩ := h.cm n hn hc
  exact k.cm n h1 h2⟩
section
variable {c : Lkr} {s s' : SA} {lo st : List KindD}
theorem come_go (hw : Wf c) {n : Nat} (hS : s.S.length = c.ins.length) (hA : s.A.length = c.ins.length) (hn : n < c.ins.length) (hi : Inv c s) (ha : AInv s) (hlo : lo.length = c.m.locals.toNat) (gl : ∀ k ∈ lo, GdK (Kn c) k) (gs : ∀ k ∈ st, GdK (Kn c) k) (h : comeD c s n lo st = some s') : Go2 c s s' :=
  have hnS : n < s.S.length := by rw [hS]; exact hn
  have hnA : n < s.A.length := by rw [hA]; exact hn
  ⟨(come_len h).1, (come_len h).2, come_inv hw hnS hi hlo gl gs h, come_a hnS ha h, come_mu hw hnS hnA hi hlo gl gs h, come_comes hnS h⟩
theorem comeAt_go (hw : Wf c) (h1 : 0 < c.ins.length) {x : Int} (hS : s.S.length = c.ins.length) (hA : s.A.length = c.ins.length) (hi : Inv c s) (ha : AInv s) (hlo : lo.length = c.m.locals.toNat) (gl : ∀ k ∈ lo, GdK (Kn c) k) (gs : ∀ k ∈ st, GdK (Kn c) k) (h : comeAtD c s x lo st = some s') : Go2 c s s' := by
  obtain ⟨n, -, hn, hnt⟩ := placeN_nat c.ins x h1
  unfold comeAtD at h
  rw [hnt] at h
  exact come_go hw hS hA hn hi ha hlo gl gs h
theorem hands_go (hw : Wf c) (h1 : 0 < c.ins.length) {loc : Int} (hlo : lo.length = c.m.locals.toNat) (gl : ∀ k ∈ lo, GdK (Kn c) k) : ∀ (l : List HandD), (∀ h ∈ l, Kn c h.cls) → ∀ (s s' : SA), s.S.length = c.ins.length → s.A.length = c.ins.length → Inv c s → AInv s → handsD c loc lo l s = some s' → Go2 c s s'
  | [], _, s, s', _, _, hi, ha, h => by
    cases h
    exact Go2.refl hi ha
  | hd :: l, hk, s, s', hS, hA, hi, ha, h => by
    unfold handsD at h
    split at h
    · obtain ⟨s1, e1, e2⟩ := Option.bind_eq_some_iff.1 h
      have gs : ∀ k ∈ [(⟨3, hd.cls⟩ : KindD)], GdK (Kn c) k := one_gd (Or.inl ⟨Or.inl rfl, hk hd (by simp)⟩)
      have g1 := comeAt_go hw h1 hS hA hi ha hlo gl gs e1
      exact g1.trans (hands_go hw h1 hlo gl l (fun h hh => hk h (by simp [hh])) s1 s' (g1.ls.trans hS) (g1.la.trans hA) g1.iv g1.av e2)
    · exact hands_go hw h1 hlo gl l (fun h hh => hk h (by simp [hh])) s s' hS hA hi ha h
theorem look_go (hw : Wf c) (h1 : 0 < c.ins.length) {n : Nat} (hS : s.S.length = c.ins.length) (hA : s.A.length = c.ins.length) (hn : n < c.ins.length) (hi : Inv c s) (ha : AInv s) (hcm : ∀ h : n < s.S.length, s.S[n].comes = true) (h : lookD c s n = some s') : Go2 c s s' := by
  have hnS : n < s.S.length := by rw [hS]; exact hn
  have hx := Cd.get4_mem c.ins n hn
  obtain ⟨i1, i2, i3⟩ := hi n hnS
  have hl0 := (i1 (hcm hnS)).1
  cases hr : runD c (Cd.get4 c.ins n) s.S[n].locals s.S[n].stack with
  | none => rw [look_no hnS hr] at h; cases h
  | some r =>
    obtain ⟨⟨g1, g2, g3⟩, -⟩ := run_gd hw (hw.aa _ hx) (hw.bb _ hx) i2 i3 hr
    have hl1 : r.1.length = c.m.locals.toNat := g1.trans hl0
    by_cases hls : n + 1 = c.ins.length ∧ goesD (Cd.get4 c.ins n).op = true
    · rw [look_last hnS hr hls.1 hls.2] at h; cases h
    · have hls' : ¬ n + 1 = c.ins.length ∨ goesD (Cd.get4 c.ins n).op = false := by
        by_cases e : n + 1 = c.ins.length
        · exact Or.inr (by cases hg : goesD (Cd.get4 c.ins n).op with | false => rfl | true => exact absurd ⟨e, hg⟩ hls)
        · exact Or.inl e
      rw [look_eq hnS hr hls'] at h
      obtain ⟨s1, e1, h⟩ := Option.bind_eq_some_iff.1 h
      have q1 := hands_go hw h1 hl0 i2 c.m.hands hw.hk s s1 hS hA hi ha e1
      unfold look1 at h
      obtain ⟨s2, e2, h⟩ := Option.bind_eq_some_iff.1 h
      have q2 : Go2 c s1 s2 := by
        split at e2
        · exact hands_go hw h1 hl1 g2 c.m.hands hw.hk s1 s2 (q1.ls.trans hS) (q1.la.trans hA) q1.iv q1.av e2
        · cases e2; exact Go2.refl q1.iv q1.av
      have p2 := q1.trans q2
      unfold look2 at h
      obtain ⟨s3, e3, h⟩ := Option.bind_eq_some_iff.1 h
      have q3 : Go2 c s2 s3 := by
        split at e3
        · rename_i hg
          have hn1 : n + 1 < c.ins.length := by
            rcases hls' with e | e
            · omega
            · rw [e] at hg; cases hg
          exact come_go hw (p2.ls.trans hS) (p2.la.trans hA) hn1 p2.iv p2.av hl1 g2 g3 e3
        · cases e3; exact Go2.refl p2.iv p2.av
      have p3 := p2.trans q3
      unfold look3 at h
      split at h
      · exact p3.trans (comeAt_go hw h1 (p3.ls.trans hS) (p3.la.trans hA) p3.iv p3.av hl1 g2 g3 h)
      · cases h; exact p3
end
theorem off_mu {c : Lkr} {s : SA} {n : Nat} (hS : s.S.length = c.ins.length) (hA : s.A.length = c.ins.length) (hn : n < c.ins.length) (ha : AInv s) (hon : ∀ h : n < s.A.length, s.A[n] = true) : mu c ⟨s.S, s.A.set n false⟩ < mu c s ∧ AInv ⟨s.S, s.A.set n false⟩ ∧ ∀ h : n < s.S.length, s.S[n].comes = true := by
  have hnS : n < s.S.length := by rw [hS]; exact hn
  have hnA : n < s.A.length := by rw [hA]; exact hn
  have hc := ha n hnA hnS (hon hnA)
  refine ⟨?_, ?_, fun _ => hc⟩
  · have := mu_set (c := c) (S := s.S) (A := s.A) hnS hnA s.S[n] false
    rw [set_own hnS] at this
    have e : mu c ⟨s.S, s.A⟩ = mu c s := rfl
    unfold muO at this
    rw [hc, hon hnA] at this
    simp only [if_true] at this
    simp at this
    omega
  · intro k hk hk' e
    have hk2 : k < s.A.length := by simpa using hk
    by_cases ek : n = k
    · subst ek
      simp at e
    · have : s.A[k] = true := by simpa [ek] using e
      exact ha k hk2 hk' this
end Go.Proofs.YtfibgdcpbkaaoaaGreatDoor
