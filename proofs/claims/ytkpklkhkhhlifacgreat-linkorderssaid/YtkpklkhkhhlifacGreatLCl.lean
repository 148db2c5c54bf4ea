/- slices.Clone, at what classes hold. -/
import Derived.Test.YtkpklkhkhhlifacGreatLFld
import Derived.Test.YtkpklkhkhhlifacGreatLNone
namespace Go.Proofs.YtkpklkhkhhlifacGreat
open Go.RowKit

/-- What a slice holds, element by element. -/
theorem SL_zs {α : Type} {n : Nat} {R : (Nat → Prop) → World → List Value → α → Prop} {M : Nat → Prop} {w : World} {v : Value} {l : List α} (hn : 0 < n) (h : SL n R M w v l) :
    ∃ zs : List (List Value × α), zs.map (·.2) = l ∧ (∀ z ∈ zs, z.1.length = n ∧ R M w z.1 z.2) ∧ ∀ b off len cap, v = .slice (some ⟨b, off, none⟩) len cap → ∀ j u, (zs.flatMap (·.1))[j]? = some u → w.cell? ((⟨b, off, none⟩ : Addr).add j) = some u := by
  obtain ⟨ao, cap, hv, hc, hm, hk⟩ := h
  let cs : Fin l.length → List Value := fun k => Classical.choose (Classical.choose_spec (Classical.choose_spec (hk k.1 k.2)))
  have hcs : ∀ k : Fin l.length, ∃ b off, ao = some ⟨b, off, none⟩ ∧ M b ∧ b < w.heap.size ∧ (cs k).length = n ∧ (∀ j, j < n → w.cell? ⟨b, off + k.1 * n + j, none⟩ = (cs k)[j]?) ∧ R M w (cs k) l[k.1] := fun k =>
    ⟨_, _, Classical.choose_spec (Classical.choose_spec (Classical.choose_spec (hk k.1 k.2)))⟩
  let zs : List (List Value × α) := List.ofFn fun k : Fin l.length => (cs k, l[k.1])
  have hzl : zs.length = l.length := by simp [zs]
  have hzk : ∀ (k : Nat) (h : k < zs.length), zs[k] = (cs ⟨k, by omega⟩, l[k]'(by omega)) := fun k h => by simp [zs]
  have hz1 : ∀ z ∈ zs, z.1.length = n ∧ R M w z.1 z.2 := fun z hz => by
    obtain ⟨k, hk', rfl⟩ := List.mem_iff_getElem.1 hz
    rw [hzk k hk']
    obtain ⟨b, off, -, -, -, h1, -, h2⟩ := hcs ⟨k, by omega⟩
    exact ⟨h1, h2⟩
  refine ⟨zs, ?_, hz1, ?_⟩
  · refine List.ext_getElem (by simp [hzl]) fun k h1 h2 => ?_
    rw [List.getElem_map, hzk k (by simpa using h1)]
  · intro b off len cap' hv' j u hu
    have hfl : ∀ zs : List (List Value × α), (∀ z ∈ zs, z.1.length = n) → (zs.flatMap (·.1)).length = zs.length * n := fun zs => by
      induction zs with
      | nil => intro _; simp
      | cons x zs ih =>
        intro hf
        rw [List.flatMap_cons, List.length_append, ih (fun y hy => hf y (by simp [hy])), hf x (by simp), List.length_cons, Nat.add_mul]
        omega
    have hj : j < zs.length * n := by rw [← hfl zs fun z hz => (hz1 z hz).1]; exact (List.getElem?_eq_some_iff.1 hu).1
    have hq : j / n < zs.length := Nat.div_lt_of_lt_mul (by rw [Nat.mul_comm]; exact hj)
    have hr : j % n < n := Nat.mod_lt _ hn
    have hjd : j / n * n + j % n = j := by rw [Nat.mul_comm]; exact Nat.div_add_mod j n
    rw [← hjd, flat_get (n := n) (fun z : List Value × α => z.1) zs (j / n) (j % n) (fun z hz => (hz1 z hz).1) hq hr, hzk _ hq] at hu
    obtain ⟨b', off', e, -, -, -, hc', -⟩ := hcs ⟨j / n, by omega⟩
    rw [hv] at hv'
    rw [e] at hv'
    cases hv'
    have := hc' (j % n) hr
    rw [addr_add, ← hjd, ← Nat.add_assoc]
    exact this.trans hu
theorem zs_len {α : Type} {zs : List (List Value × α)} {n : Nat} (h : ∀ z ∈ zs, z.1.length = n) : (zs.flatMap (·.1)).length = zs.length * n := by
  induction zs with
  | nil => simp
  | cons x zs ih =>
    rw [List.flatMap_cons, List.length_append, ih (fun y hy => h y (by simp [hy])), h x (by simp), List.length_cons, Nat.add_mul]
    omega
theorem oneSL {α : Type} {n : Nat} {R : (Nat → Prop) → World → List Value → α → Prop} {M : Nat → Prop} {w : World} {v : Value} {l : List α} (h : SL n R M w v l) : v.oneCell' = true := by
  obtain ⟨ao, c, rfl, -⟩ := h
  rfl
theorem oneRK {M : Nat → Prop} {w : World} {cs : List Value} {x : KindD} (h : RK M w cs x) : ∀ u ∈ cs, u.oneCell' = true := by
  rw [h.1]; intro u hu; simp at hu; rcases hu with rfl | rfl <;> rfl
theorem oneRF {M : Nat → Prop} {w : World} {cs : List Value} {x : FieldD} (h : RF M w cs x) : ∀ u ∈ cs, u.oneCell' = true := by
  rw [h.1]; intro u hu; simp at hu; rcases hu with rfl | rfl | rfl <;> rfl
theorem oneRH {M : Nat → Prop} {w : World} {cs : List Value} {x : HandD} (h : RH M w cs x) : ∀ u ∈ cs, u.oneCell' = true := by
  rw [h.1]; intro u hu; simp at hu; rcases hu with rfl | rfl | rfl | rfl <;> rfl
theorem oneRM {M : Nat → Prop} {w : World} {cs : List Value} {x : MethD} (h : RM M w cs x) : ∀ u ∈ cs, u.oneCell' = true := by
  obtain ⟨va, vh, rfl, ha, hh, -⟩ := h
  intro u hu
  simp at hu
  rcases hu with rfl | rfl | rfl | rfl | rfl | rfl | rfl | rfl | rfl <;> first | rfl | exact oneSL ha | exact oneSL hh
theorem oneRC {M : Nat → Prop} {w : World} {cs : List Value} {x : ClassD} (h : RC M w cs x) : ∀ u ∈ cs, u.oneCell' = true := by
  obtain ⟨va, vh, rfl, ha, hh, -⟩ := h
  intro u hu
  simp at hu
  rcases hu with rfl | rfl | rfl | rfl <;> first | rfl | exact oneSL ha | exact oneSL hh
theorem own_empty (w : World) (e n : Nat) : (w.alloc (.cells #[] e)).ownsRow w.heap.size e n (.slice (some ⟨w.heap.size, 0, none⟩) 0 0) 0 [] :=
  ⟨by simp, Or.inr ⟨w.heap.size, 0, #[], rfl, Nat.le_refl _, heap_alloc_new w _, Nat.le_refl _, by unfold maxLen; omega, by simp, by simp⟩⟩

theorem Tryz.infoClK : (Tryz.prog.info? 60).map (fun i => (i.zero, i.size, i.bytes)) = some (some (.agg #[.int .i64 0, .string ⟨#[]⟩]), 2, 24) := by kernel_rfl
theorem nilEqlK (c : Nat) (w : World) : (binOp BinOp.eql 58 (.slice none 0 c) (.slice none 0 0)).run Tryz.prog w = .ok (.bool true) w := by kernel_rfl
theorem nilNotK (a : Addr) (n c : Nat) (w : World) : (binOp BinOp.eql 58 (.slice (some a) n c) (.slice none 0 0)).run Tryz.prog w = .ok (.bool false) w := by kernel_rfl
theorem nilGK : Tryz.prog.eqGuardType Tryz.prog.depth 58 = false := by kernel_rfl
set_option maxHeartbeats 1000000 in
theorem cloneK_any (w : World) (M : Nat → Prop) (v : Value) (l : List KindD) (hv : SL 2 RK M w v l) (hl : l.length ≤ 100000) :
    Calls Tryz.prog 55 #[v] w fun r w' => Below w.heap.size w w' ∧ ∃ (v' : Value) (zs : List (List Value × KindD)), r = .returned v' ∧ zs.map (·.2) = l ∧ (∀ z ∈ zs, z.1.length = 2 ∧ RK M w z.1 z.2) ∧ w'.ownsRow w.heap.size 60 2 v' zs.length (zs.flatMap (·.1)) := by
  obtain ⟨iI, hiI, hz0, hz1, hz2⟩ := info_parts Tryz.infoClK
  have hnE := nilEqlK
  have hnN := nilNotK
  have hnG := nilGK
  obtain ⟨zs, hzm, hzR, hzc⟩ := SL_zs (by decide) hv
  have hzl : zs.length = l.length := by rw [← hzm, List.length_map]
  have HLim := mkHid hl
  clear hl
  have HM := mkHid hzm
  have HR := mkHid hzR
  have HB0 := mkHid (fun o => (Below.refl w.heap.size w).alloc (Nat.le_refl _) o)
  obtain ⟨ao, cl, rfl, -, -, hel⟩ := hv
  cases ao with
  | none =>
    have hl0 : l = [] := by
      cases l with
      | nil => rfl
      | cons x l => obtain ⟨b, off, cs, e, -⟩ := hel 0 (by simp); cases e
    subst hl0
    have hz0' : zs = [] := List.eq_nil_of_length_eq_zero (by simpa using hzl)
    subst hz0'
    clear hel hzc hzm hzR hzl
    go_enter Tryz.func55, Tryz.ntmps55
    go_wp2_with fail
    go_ret
    exact ⟨Below.refl _ _, _, [], rfl, rfl, (fun z hz => by cases hz), World.ownsRow_nil _ _ _ _⟩
  | some ad =>
    cases l with
    | nil =>
      have hz0' : zs = [] := List.eq_nil_of_length_eq_zero (by simpa using hzl)
      subst hz0'
      have HE := mkHid (own_empty w 60 2)
      clear hel hzc hzm hzR hzl
      go_enter Tryz.func55, Tryz.ntmps55
      go_wp2_with (at_builtin; refine wpList_append_none _ rfl _ _ 58 rfl 60 iI Tryz.underlying58 hiI (some ⟨w.heap.size, 0, none⟩) 0 0 rfl (Nat.le_refl _) (Or.inr ⟨_, rfl⟩) (some ad) cl rfl ?_)
      go_ret
      exact ⟨HB0.out _, _, [], rfl, rfl, (fun z hz => by cases hz), HE.out⟩
    | cons x l0 =>
      generalize hL : x :: l0 = l at *
      have hpos : 0 < l.length := by rw [← hL]; simp
      clear hL
      obtain ⟨b, off, cs, e, -, hb, -⟩ := hel 0 hpos
      cases e
      have HC := mkHid (hzc b off _ _ rfl)
      have HLN : Hid ((zs.flatMap (·.1)).length = l.length * 2) := by show _ = _; rw [zs_len fun z hz => (hzR z hz).1, hzl]
      have H1 : Hid (∀ u ∈ zs.flatMap (·.1), u.oneCell' = true) := fun u hu => by
        obtain ⟨z, hz, hu⟩ := List.mem_flatMap.1 hu
        exact oneRK (hzR z hz).2 u hu
      have HZL := mkHid hzl
      have hfull : 0 < 0 + l.length := by omega
      have HBB : Hid (0 + l.length ≤ maxLen ∧ (0 + l.length) * 24 ≤ 140737488355328) := (by have hl := HLim.out; exact ⟨by unfold maxLen; omega, by omega⟩)
      clear hel hzc hzm hzR hzl
      go_enter Tryz.func55, Tryz.ntmps55
      go_wp2_with (at_builtin; refine wpList_append_grows _ rfl _ _ 58 rfl 60 iI (.agg #[.int .i64 0, .string ⟨#[]⟩]) 2 24 Tryz.underlying58 hiI hz0 hz1 hz2 rfl (by decide) (some ⟨w.heap.size, 0, none⟩) 0 0 [] rfl (fun e => by cases e) (by simp) (fun _ _ j u hu => by simp at hu) ⟨b, off, none⟩ l.length cl (zs.flatMap (·.1)) rfl HLN.out (fun j u hu => by rw [addr_add]; exact (World.cell?_alloc_past _ _ _ hb).trans (by have := HC.out j u hu; rwa [addr_add] at this)) H1.out hfull HBB.out.1 HBB.out.2 ?_; intro v9 w9 hown9 hgr9; have HO9 : Hid (w9.ownsRow w.heap.size 60 2 v9 zs.length (zs.flatMap (·.1))) := (by have h := own_lower hown9 (B' := w.heap.size) (by simp); rw [Nat.zero_add, List.nil_append, ← HZL.out] at h; exact h); have HB9 : Hid (Below w.heap.size w w9) := (HB0.out _).grown hgr9 (by simp) (fun q e => by cases e); obtain ⟨g9, c9, e9, -⟩ := hown9.form hfull; subst e9; have HO8 : Hid (w9.ownsRow w.heap.size 60 2 (.slice (some ⟨g9, 0, none⟩) l.length c9) zs.length (zs.flatMap (·.1))) := (by have h := HO9.out; rwa [Nat.zero_add] at h); clear hown9 hgr9 HO9)
      go_ret
      exact ⟨HB9.out, _, zs, rfl, HM.out, HR.out, HO8.out⟩

theorem Tryz.infoClH : (Tryz.prog.info? 96).map (fun i => (i.zero, i.size, i.bytes)) = some (some (.agg #[.int .i64 0, .int .i64 0, .int .i64 0, .string ⟨#[]⟩]), 4, 40) := by kernel_rfl
theorem nilEqlH (c : Nat) (w : World) : (binOp BinOp.eql 61 (.slice none 0 c) (.slice none 0 0)).run Tryz.prog w = .ok (.bool true) w := by kernel_rfl
theorem nilNotH (a : Addr) (n c : Nat) (w : World) : (binOp BinOp.eql 61 (.slice (some a) n c) (.slice none 0 0)).run Tryz.prog w = .ok (.bool false) w := by kernel_rfl
theorem nilGH : Tryz.prog.eqGuardType Tryz.prog.depth 61 = false := by kernel_rfl
set_option maxHeartbeats 1000000 in
theorem cloneH_any (w : World) (M : Nat → Prop) (v : Value) (l : List HandD) (hv : SL 4 RH M w v l) (hl : l.length ≤ 100000) :
    Calls Tryz.prog 56 #[v] w fun r w' => Below w.heap.size w w' ∧ ∃ (v' : Value) (zs : List (List Value × HandD)), r = .returned v' ∧ zs.map (·.2) = l ∧ (∀ z ∈ zs, z.1.length = 4 ∧ RH M w z.1 z.2) ∧ w'.ownsRow w.heap.size 96 4 v' zs.length (zs.flatMap (·.1)) := by
  obtain ⟨iI, hiI, hz0, hz1, hz2⟩ := info_parts Tryz.infoClH
  have hnE := nilEqlH
  have hnN := nilNotH
  have hnG := nilGH
  obtain ⟨zs, hzm, hzR, hzc⟩ := SL_zs (by decide) hv
  have hzl : zs.length = l.length := by rw [← hzm, List.length_map]
  have HLim := mkHid hl
  clear hl
  have HM := mkHid hzm
  have HR := mkHid hzR
  have HB0 := mkHid (fun o => (Below.refl w.heap.size w).alloc (Nat.le_refl _) o)
  obtain ⟨ao, cl, rfl, -, -, hel⟩ := hv
  cases ao with
  | none =>
    have hl0 : l = [] := by
      cases l with
      | nil => rfl
      | cons x l => obtain ⟨b, off, cs, e, -⟩ := hel 0 (by simp); cases e
    subst hl0
    have hz0' : zs = [] := List.eq_nil_of_length_eq_zero (by simpa using hzl)
    subst hz0'
    clear hel hzc hzm hzR hzl
    go_enter Tryz.func56, Tryz.ntmps56
    go_wp2_with fail
    go_ret
    exact ⟨Below.refl _ _, _, [], rfl, rfl, (fun z hz => by cases hz), World.ownsRow_nil _ _ _ _⟩
  | some ad =>
    cases l with
    | nil =>
      have hz0' : zs = [] := List.eq_nil_of_length_eq_zero (by simpa using hzl)
      subst hz0'
      have HE := mkHid (own_empty w 96 4)
      clear hel hzc hzm hzR hzl
      go_enter Tryz.func56, Tryz.ntmps56
      go_wp2_with (at_builtin; refine wpList_append_none _ rfl _ _ 61 rfl 96 iI Tryz.underlying61 hiI (some ⟨w.heap.size, 0, none⟩) 0 0 rfl (Nat.le_refl _) (Or.inr ⟨_, rfl⟩) (some ad) cl rfl ?_)
      go_ret
      exact ⟨HB0.out _, _, [], rfl, rfl, (fun z hz => by cases hz), HE.out⟩
    | cons x l0 =>
      generalize hL : x :: l0 = l at *
      have hpos : 0 < l.length := by rw [← hL]; simp
      clear hL
      obtain ⟨b, off, cs, e, -, hb, -⟩ := hel 0 hpos
      cases e
      have HC := mkHid (hzc b off _ _ rfl)
      have HLN : Hid ((zs.flatMap (·.1)).length = l.length * 4) := by show _ = _; rw [zs_len fun z hz => (hzR z hz).1, hzl]
      have H1 : Hid (∀ u ∈ zs.flatMap (·.1), u.oneCell' = true) := fun u hu => by
        obtain ⟨z, hz, hu⟩ := List.mem_flatMap.1 hu
        exact oneRH (hzR z hz).2 u hu
      have HZL := mkHid hzl
      have hfull : 0 < 0 + l.length := by omega
      have HBB : Hid (0 + l.length ≤ maxLen ∧ (0 + l.length) * 40 ≤ 140737488355328) := (by have hl := HLim.out; exact ⟨by unfold maxLen; omega, by omega⟩)
      clear hel hzc hzm hzR hzl
      go_enter Tryz.func56, Tryz.ntmps56
      go_wp2_with (at_builtin; refine wpList_append_grows _ rfl _ _ 61 rfl 96 iI (.agg #[.int .i64 0, .int .i64 0, .int .i64 0, .string ⟨#[]⟩]) 4 40 Tryz.underlying61 hiI hz0 hz1 hz2 rfl (by decide) (some ⟨w.heap.size, 0, none⟩) 0 0 [] rfl (fun e => by cases e) (by simp) (fun _ _ j u hu => by simp at hu) ⟨b, off, none⟩ l.length cl (zs.flatMap (·.1)) rfl HLN.out (fun j u hu => by rw [addr_add]; exact (World.cell?_alloc_past _ _ _ hb).trans (by have := HC.out j u hu; rwa [addr_add] at this)) H1.out hfull HBB.out.1 HBB.out.2 ?_; intro v9 w9 hown9 hgr9; have HO9 : Hid (w9.ownsRow w.heap.size 96 4 v9 zs.length (zs.flatMap (·.1))) := (by have h := own_lower hown9 (B' := w.heap.size) (by simp); rw [Nat.zero_add, List.nil_append, ← HZL.out] at h; exact h); have HB9 : Hid (Below w.heap.size w w9) := (HB0.out _).grown hgr9 (by simp) (fun q e => by cases e); obtain ⟨g9, c9, e9, -⟩ := hown9.form hfull; subst e9; have HO8 : Hid (w9.ownsRow w.heap.size 96 4 (.slice (some ⟨g9, 0, none⟩) l.length c9) zs.length (zs.flatMap (·.1))) := (by have h := HO9.out; rwa [Nat.zero_add] at h); clear hown9 hgr9 HO9)
      go_ret
      exact ⟨HB9.out, _, zs, rfl, HM.out, HR.out, HO8.out⟩

theorem Tryz.infoClF : (Tryz.prog.info? 69).map (fun i => (i.zero, i.size, i.bytes)) = some (some (.agg #[.string ⟨#[]⟩, .int .i64 0, .string ⟨#[]⟩]), 3, 40) := by kernel_rfl
theorem nilEqlF (c : Nat) (w : World) : (binOp BinOp.eql 65 (.slice none 0 c) (.slice none 0 0)).run Tryz.prog w = .ok (.bool true) w := by kernel_rfl
theorem nilNotF (a : Addr) (n c : Nat) (w : World) : (binOp BinOp.eql 65 (.slice (some a) n c) (.slice none 0 0)).run Tryz.prog w = .ok (.bool false) w := by kernel_rfl
theorem nilGF : Tryz.prog.eqGuardType Tryz.prog.depth 65 = false := by kernel_rfl
set_option maxHeartbeats 1000000 in
theorem cloneF_any (w : World) (M : Nat → Prop) (v : Value) (l : List FieldD) (hv : SL 3 RF M w v l) (hl : l.length ≤ 100000) :
    Calls Tryz.prog 28 #[v] w fun r w' => Below w.heap.size w w' ∧ ∃ (v' : Value) (zs : List (List Value × FieldD)), r = .returned v' ∧ zs.map (·.2) = l ∧ (∀ z ∈ zs, z.1.length = 3 ∧ RF M w z.1 z.2) ∧ w'.ownsRow w.heap.size 69 3 v' zs.length (zs.flatMap (·.1)) := by
  obtain ⟨iI, hiI, hz0, hz1, hz2⟩ := info_parts Tryz.infoClF
  have hnE := nilEqlF
  have hnN := nilNotF
  have hnG := nilGF
  obtain ⟨zs, hzm, hzR, hzc⟩ := SL_zs (by decide) hv
  have hzl : zs.length = l.length := by rw [← hzm, List.length_map]
  have HLim := mkHid hl
  clear hl
  have HM := mkHid hzm
  have HR := mkHid hzR
  have HB0 := mkHid (fun o => (Below.refl w.heap.size w).alloc (Nat.le_refl _) o)
  obtain ⟨ao, cl, rfl, -, -, hel⟩ := hv
  cases ao with
  | none =>
    have hl0 : l = [] := by
      cases l with
      | nil => rfl
      | cons x l => obtain ⟨b, off, cs, e, -⟩ := hel 0 (by simp); cases e
    subst hl0
    have hz0' : zs = [] := List.eq_nil_of_length_eq_zero (by simpa using hzl)
    subst hz0'
    clear hel hzc hzm hzR hzl
    go_enter Tryz.func28, Tryz.ntmps28
    go_wp2_with fail
    go_ret
    exact ⟨Below.refl _ _, _, [], rfl, rfl, (fun z hz => by cases hz), World.ownsRow_nil _ _ _ _⟩
  | some ad =>
    cases l with
    | nil =>
      have hz0' : zs = [] := List.eq_nil_of_length_eq_zero (by simpa using hzl)
      subst hz0'
      have HE := mkHid (own_empty w 69 3)
      clear hel hzc hzm hzR hzl
      go_enter Tryz.func28, Tryz.ntmps28
      go_wp2_with (at_builtin; refine wpList_append_none _ rfl _ _ 65 rfl 69 iI Tryz.underlying65 hiI (some ⟨w.heap.size, 0, none⟩) 0 0 rfl (Nat.le_refl _) (Or.inr ⟨_, rfl⟩) (some ad) cl rfl ?_)
      go_ret
      exact ⟨HB0.out _, _, [], rfl, rfl, (fun z hz => by cases hz), HE.out⟩
    | cons x l0 =>
      generalize hL : x :: l0 = l at *
      have hpos : 0 < l.length := by rw [← hL]; simp
      clear hL
      obtain ⟨b, off, cs, e, -, hb, -⟩ := hel 0 hpos
      cases e
      have HC := mkHid (hzc b off _ _ rfl)
      have HLN : Hid ((zs.flatMap (·.1)).length = l.length * 3) := by show _ = _; rw [zs_len fun z hz => (hzR z hz).1, hzl]
      have H1 : Hid (∀ u ∈ zs.flatMap (·.1), u.oneCell' = true) := fun u hu => by
        obtain ⟨z, hz, hu⟩ := List.mem_flatMap.1 hu
        exact oneRF (hzR z hz).2 u hu
      have HZL := mkHid hzl
      have hfull : 0 < 0 + l.length := by omega
      have HBB : Hid (0 + l.length ≤ maxLen ∧ (0 + l.length) * 40 ≤ 140737488355328) := (by have hl := HLim.out; exact ⟨by unfold maxLen; omega, by omega⟩)
      clear hel hzc hzm hzR hzl
      go_enter Tryz.func28, Tryz.ntmps28
      go_wp2_with (at_builtin; refine wpList_append_grows _ rfl _ _ 65 rfl 69 iI (.agg #[.string ⟨#[]⟩, .int .i64 0, .string ⟨#[]⟩]) 3 40 Tryz.underlying65 hiI hz0 hz1 hz2 rfl (by decide) (some ⟨w.heap.size, 0, none⟩) 0 0 [] rfl (fun e => by cases e) (by simp) (fun _ _ j u hu => by simp at hu) ⟨b, off, none⟩ l.length cl (zs.flatMap (·.1)) rfl HLN.out (fun j u hu => by rw [addr_add]; exact (World.cell?_alloc_past _ _ _ hb).trans (by have := HC.out j u hu; rwa [addr_add] at this)) H1.out hfull HBB.out.1 HBB.out.2 ?_; intro v9 w9 hown9 hgr9; have HO9 : Hid (w9.ownsRow w.heap.size 69 3 v9 zs.length (zs.flatMap (·.1))) := (by have h := own_lower hown9 (B' := w.heap.size) (by simp); rw [Nat.zero_add, List.nil_append, ← HZL.out] at h; exact h); have HB9 : Hid (Below w.heap.size w w9) := (HB0.out _).grown hgr9 (by simp) (fun q e => by cases e); obtain ⟨g9, c9, e9, -⟩ := hown9.form hfull; subst e9; have HO8 : Hid (w9.ownsRow w.heap.size 69 3 (.slice (some ⟨g9, 0, none⟩) l.length c9) zs.length (zs.flatMap (·.1))) := (by have h := HO9.out; rwa [Nat.zero_add] at h); clear hown9 hgr9 HO9)
      go_ret
      exact ⟨HB9.out, _, zs, rfl, HM.out, HR.out, HO8.out⟩

theorem Tryz.infoClM : (Tryz.prog.info? 63).map (fun i => (i.zero, i.size, i.bytes)) = some (some (.agg #[.string ⟨#[]⟩, .bool false, .slice none 0 0, .int .i64 0, .string ⟨#[]⟩, .int .i64 0, .int .i64 0, .string ⟨#[]⟩, .slice none 0 0]), 9, 128) := by kernel_rfl
theorem nilEqlM (c : Nat) (w : World) : (binOp BinOp.eql 64 (.slice none 0 c) (.slice none 0 0)).run Tryz.prog w = .ok (.bool true) w := by kernel_rfl
theorem nilNotM (a : Addr) (n c : Nat) (w : World) : (binOp BinOp.eql 64 (.slice (some a) n c) (.slice none 0 0)).run Tryz.prog w = .ok (.bool false) w := by kernel_rfl
theorem nilGM : Tryz.prog.eqGuardType Tryz.prog.depth 64 = false := by kernel_rfl
set_option maxHeartbeats 1000000 in
theorem cloneM_any (w : World) (M : Nat → Prop) (v : Value) (l : List MethD) (hv : SL 9 RM M w v l) (hl : l.length ≤ 100000) :
    Calls Tryz.prog 54 #[v] w fun r w' => Below w.heap.size w w' ∧ ∃ (v' : Value) (zs : List (List Value × MethD)), r = .returned v' ∧ zs.map (·.2) = l ∧ (∀ z ∈ zs, z.1.length = 9 ∧ RM M w z.1 z.2) ∧ w'.ownsRow w.heap.size 63 9 v' zs.length (zs.flatMap (·.1)) := by
  obtain ⟨iI, hiI, hz0, hz1, hz2⟩ := info_parts Tryz.infoClM
  have hnE := nilEqlM
  have hnN := nilNotM
  have hnG := nilGM
  obtain ⟨zs, hzm, hzR, hzc⟩ := SL_zs (by decide) hv
  have hzl : zs.length = l.length := by rw [← hzm, List.length_map]
  have HLim := mkHid hl
  clear hl
  have HM := mkHid hzm
  have HR := mkHid hzR
  have HB0 := mkHid (fun o => (Below.refl w.heap.size w).alloc (Nat.le_refl _) o)
  obtain ⟨ao, cl, rfl, -, -, hel⟩ := hv
  cases ao with
  | none =>
    have hl0 : l = [] := by
      cases l with
      | nil => rfl
      | cons x l => obtain ⟨b, off, cs, e, -⟩ := hel 0 (by simp); cases e
    subst hl0
    have hz0' : zs = [] := List.eq_nil_of_length_eq_zero (by simpa using hzl)
    subst hz0'
    clear hel hzc hzm hzR hzl
    go_enter Tryz.func54, Tryz.ntmps54
    go_wp2_with fail
    go_ret
    exact ⟨Below.refl _ _, _, [], rfl, rfl, (fun z hz => by cases hz), World.ownsRow_nil _ _ _ _⟩
  | some ad =>
    cases l with
    | nil =>
      have hz0' : zs = [] := List.eq_nil_of_length_eq_zero (by simpa using hzl)
      subst hz0'
      have HE := mkHid (own_empty w 63 9)
      clear hel hzc hzm hzR hzl
      go_enter Tryz.func54, Tryz.ntmps54
      go_wp2_with (at_builtin; refine wpList_append_none _ rfl _ _ 64 rfl 63 iI Tryz.underlying64 hiI (some ⟨w.heap.size, 0, none⟩) 0 0 rfl (Nat.le_refl _) (Or.inr ⟨_, rfl⟩) (some ad) cl rfl ?_)
      go_ret
      exact ⟨HB0.out _, _, [], rfl, rfl, (fun z hz => by cases hz), HE.out⟩
    | cons x l0 =>
      generalize hL : x :: l0 = l at *
      have hpos : 0 < l.length := by rw [← hL]; simp
      clear hL
      obtain ⟨b, off, cs, e, -, hb, -⟩ := hel 0 hpos
      cases e
      have HC := mkHid (hzc b off _ _ rfl)
      have HLN : Hid ((zs.flatMap (·.1)).length = l.length * 9) := by show _ = _; rw [zs_len fun z hz => (hzR z hz).1, hzl]
      have H1 : Hid (∀ u ∈ zs.flatMap (·.1), u.oneCell' = true) := fun u hu => by
        obtain ⟨z, hz, hu⟩ := List.mem_flatMap.1 hu
        exact oneRM (hzR z hz).2 u hu
      have HZL := mkHid hzl
      have hfull : 0 < 0 + l.length := by omega
      have HBB : Hid (0 + l.length ≤ maxLen ∧ (0 + l.length) * 128 ≤ 140737488355328) := (by have hl := HLim.out; exact ⟨by unfold maxLen; omega, by omega⟩)
      clear hel hzc hzm hzR hzl
      go_enter Tryz.func54, Tryz.ntmps54
      go_wp2_with (at_builtin; refine wpList_append_grows _ rfl _ _ 64 rfl 63 iI (.agg #[.string ⟨#[]⟩, .bool false, .slice none 0 0, .int .i64 0, .string ⟨#[]⟩, .int .i64 0, .int .i64 0, .string ⟨#[]⟩, .slice none 0 0]) 9 128 Tryz.underlying64 hiI hz0 hz1 hz2 rfl (by decide) (some ⟨w.heap.size, 0, none⟩) 0 0 [] rfl (fun e => by cases e) (by simp) (fun _ _ j u hu => by simp at hu) ⟨b, off, none⟩ l.length cl (zs.flatMap (·.1)) rfl HLN.out (fun j u hu => by rw [addr_add]; exact (World.cell?_alloc_past _ _ _ hb).trans (by have := HC.out j u hu; rwa [addr_add] at this)) H1.out hfull HBB.out.1 HBB.out.2 ?_; intro v9 w9 hown9 hgr9; have HO9 : Hid (w9.ownsRow w.heap.size 63 9 v9 zs.length (zs.flatMap (·.1))) := (by have h := own_lower hown9 (B' := w.heap.size) (by simp); rw [Nat.zero_add, List.nil_append, ← HZL.out] at h; exact h); have HB9 : Hid (Below w.heap.size w w9) := (HB0.out _).grown hgr9 (by simp) (fun q e => by cases e); obtain ⟨g9, c9, e9, -⟩ := hown9.form hfull; subst e9; have HO8 : Hid (w9.ownsRow w.heap.size 63 9 (.slice (some ⟨g9, 0, none⟩) l.length c9) zs.length (zs.flatMap (·.1))) := (by have h := HO9.out; rwa [Nat.zero_add] at h); clear hown9 hgr9 HO9)
      go_ret
      exact ⟨HB9.out, _, zs, rfl, HM.out, HR.out, HO8.out⟩

theorem Tryz.infoClC : (Tryz.prog.info? 67).map (fun i => (i.zero, i.size, i.bytes)) = some (some (.agg #[.string ⟨#[]⟩, .string ⟨#[]⟩, .slice none 0 0, .slice none 0 0]), 4, 80) := by kernel_rfl
theorem nilEqlC (c : Nat) (w : World) : (binOp BinOp.eql 22 (.slice none 0 c) (.slice none 0 0)).run Tryz.prog w = .ok (.bool true) w := by kernel_rfl
theorem nilNotC (a : Addr) (n c : Nat) (w : World) : (binOp BinOp.eql 22 (.slice (some a) n c) (.slice none 0 0)).run Tryz.prog w = .ok (.bool false) w := by kernel_rfl
theorem nilGC : Tryz.prog.eqGuardType Tryz.prog.depth 22 = false := by kernel_rfl
set_option maxHeartbeats 1000000 in
theorem cloneC_any (w : World) (M : Nat → Prop) (v : Value) (l : List ClassD) (hv : SL 4 RC M w v l) (hl : l.length ≤ 100000) :
    Calls Tryz.prog 27 #[v] w fun r w' => Below w.heap.size w w' ∧ ∃ (v' : Value) (zs : List (List Value × ClassD)), r = .returned v' ∧ zs.map (·.2) = l ∧ (∀ z ∈ zs, z.1.length = 4 ∧ RC M w z.1 z.2) ∧ w'.ownsRow w.heap.size 67 4 v' zs.length (zs.flatMap (·.1)) := by
  obtain ⟨iI, hiI, hz0, hz1, hz2⟩ := info_parts Tryz.infoClC
  have hnE := nilEqlC
  have hnN := nilNotC
  have hnG := nilGC
  obtain ⟨zs, hzm, hzR, hzc⟩ := SL_zs (by decide) hv
  have hzl : zs.length = l.length := by rw [← hzm, List.length_map]
  have HLim := mkHid hl
  clear hl
  have HM := mkHid hzm
  have HR := mkHid hzR
  have HB0 := mkHid (fun o => (Below.refl w.heap.size w).alloc (Nat.le_refl _) o)
  obtain ⟨ao, cl, rfl, -, -, hel⟩ := hv
  cases ao with
  | none =>
    have hl0 : l = [] := by
      cases l with
      | nil => rfl
      | cons x l => obtain ⟨b, off, cs, e, -⟩ := hel 0 (by simp); cases e
    subst hl0
    have hz0' : zs = [] := List.eq_nil_of_length_eq_zero (by simpa using hzl)
    subst hz0'
    clear hel hzc hzm hzR hzl
    go_enter Tryz.func27, Tryz.ntmps27
    go_wp2_with fail
    go_ret
    exact ⟨Below.refl _ _, _, [], rfl, rfl, (fun z hz => by cases hz), World.ownsRow_nil _ _ _ _⟩
  | some ad =>
    cases l with
    | nil =>
      have hz0' : zs = [] := List.eq_nil_of_length_eq_zero (by simpa using hzl)
      subst hz0'
      have HE := mkHid (own_empty w 67 4)
      clear hel hzc hzm hzR hzl
      go_enter Tryz.func27, Tryz.ntmps27
      go_wp2_with (at_builtin; refine wpList_append_none _ rfl _ _ 22 rfl 67 iI Tryz.underlying22 hiI (some ⟨w.heap.size, 0, none⟩) 0 0 rfl (Nat.le_refl _) (Or.inr ⟨_, rfl⟩) (some ad) cl rfl ?_)
      go_ret
      exact ⟨HB0.out _, _, [], rfl, rfl, (fun z hz => by cases hz), HE.out⟩
    | cons x l0 =>
      generalize hL : x :: l0 = l at *
      have hpos : 0 < l.length := by rw [← hL]; simp
      clear hL
      obtain ⟨b, off, cs, e, -, hb, -⟩ := hel 0 hpos
      cases e
      have HC := mkHid (hzc b off _ _ rfl)
      have HLN : Hid ((zs.flatMap (·.1)).length = l.length * 4) := by show _ = _; rw [zs_len fun z hz => (hzR z hz).1, hzl]
      have H1 : Hid (∀ u ∈ zs.flatMap (·.1), u.oneCell' = true) := fun u hu => by
        obtain ⟨z, hz, hu⟩ := List.mem_flatMap.1 hu
        exact oneRC (hzR z hz).2 u hu
      have HZL := mkHid hzl
      have hfull : 0 < 0 + l.length := by omega
      have HBB : Hid (0 + l.length ≤ maxLen ∧ (0 + l.length) * 80 ≤ 140737488355328) := (by have hl := HLim.out; exact ⟨by unfold maxLen; omega, by omega⟩)
      clear hel hzc hzm hzR hzl
      go_enter Tryz.func27, Tryz.ntmps27
      go_wp2_with (at_builtin; refine wpList_append_grows _ rfl _ _ 22 rfl 67 iI (.agg #[.string ⟨#[]⟩, .string ⟨#[]⟩, .slice none 0 0, .slice none 0 0]) 4 80 Tryz.underlying22 hiI hz0 hz1 hz2 rfl (by decide) (some ⟨w.heap.size, 0, none⟩) 0 0 [] rfl (fun e => by cases e) (by simp) (fun _ _ j u hu => by simp at hu) ⟨b, off, none⟩ l.length cl (zs.flatMap (·.1)) rfl HLN.out (fun j u hu => by rw [addr_add]; exact (World.cell?_alloc_past _ _ _ hb).trans (by have := HC.out j u hu; rwa [addr_add] at this)) H1.out hfull HBB.out.1 HBB.out.2 ?_; intro v9 w9 hown9 hgr9; have HO9 : Hid (w9.ownsRow w.heap.size 67 4 v9 zs.length (zs.flatMap (·.1))) := (by have h := own_lower hown9 (B' := w.heap.size) (by simp); rw [Nat.zero_add, List.nil_append, ← HZL.out] at h; exact h); have HB9 : Hid (Below w.heap.size w w9) := (HB0.out _).grown hgr9 (by simp) (fun q e => by cases e); obtain ⟨g9, c9, e9, -⟩ := hown9.form hfull; subst e9; have HO8 : Hid (w9.ownsRow w.heap.size 67 4 (.slice (some ⟨g9, 0, none⟩) l.length c9) zs.length (zs.flatMap (·.1))) := (by have h := HO9.out; rwa [Nat.zero_add] at h); clear hown9 hgr9 HO9)
      go_ret
      exact ⟨HB9.out, _, zs, rfl, HM.out, HR.out, HO8.out⟩
end Go.Proofs.YtkpklkhkhhlifacGreat
