/- slices.Clone, at what classes hold. -/
import Derived.Test.YtkhconnebiiboaaGreatDoorJLLineLFld
namespace Go.Proofs.YtkhconnebiiboaaGreatDoor
open Go.RowKit

/-- What a slice holds, element by element. -/
theorem SL_zs {α : Type} {n : Nat} {R : (Nat → Prop) → World → List Value → α → Prop} {M : Nat → Prop} {w : World} {v : Value} {l : List α} (hn : 0 < n) (h : SL n R M w v l) :
    ∃ zs : List (List Value × α), zs.map (·.2) = l ∧ (∀ z ∈ zs, z.1.length = n ∧ R M w z.1 z.2) ∧ ∀ b off len cap, v = .slice (some ⟨b, off, none⟩) len cap → ∀ j u, (zs.flatMap (·.1))[j]? = some u → w.cell? ((⟨b, off, none⟩ : Addr).add j) = some u := by
  obtain ⟨ao, cap, hv, hc, hm, hk⟩ := h
  let cs : Fin l.length → List Value := fun k => Classical.choose (Classical.choose_spec (Classical.choose_spec (hk k.1 k.2)))
  have hcs : ∀ k : Fin l.length, ∃ b off, ao = some ⟨b, off, none⟩ ∧ M b ∧ b < w.heap.size ∧ (cs k).length = n ∧ (∀ j, j < n → w.cell? ⟨b, off + k.1 * n + j, none⟩ = (cs k)[j]?) ∧ R M w (cs k) l[k.1] := fun k =>
    ⟨_, _, Classical.choose_spec (Classical.choose_spec (Classical.choose_spec (hk k.1 k.2)))⟩
  let zs : List (List Value × α) := List.ofFn fun k : Fin l.length => (cs k, l[k.1])
  have hzl : zs.length = l.length := by simp [zs]
  have hzk : ∀ (k : Nat) (h : k < zs.length), zs[k] = (cs ⟨k, by omega⟩, l[k]'(by omega)) := fun k h => by simp [zs]
  have hz1 : ∀ z ∈ zs, z.1.length = n ∧ R M w z.1 z.2 := fun z hz => by
    obtain ⟨k, hk', rfl⟩ := List.mem_iff_getElem.1 hz
    rw [hzk k hk']
    obtain ⟨b, off, -, -, -, h1, -, h2⟩ := hcs ⟨k, by omega⟩
    exact ⟨h1, h2⟩
  refine ⟨zs, ?_, hz1, ?_⟩
  · refine List.ext_getElem (by simp [hzl]) fun k h1 h2 => ?_
    rw [List.getElem_map, hzk k (by simpa using h1)]
  · intro b off len cap' hv' j u hu
    have hfl : ∀ zs : List (List Value × α), (∀ z ∈ zs, z.1.length = n) → (zs.flatMap (·.1)).length = zs.length * n := fun zs => by
      induction zs with
      | nil => intro _; simp
      | cons x zs ih =>
        intro hf
        rw [List.flatMap_cons, List.length_append, ih (fun y hy => hf y (by simp [hy])), hf x (by simp), List.length_cons, Nat.add_mul]
        omega
    have hj : j < zs.length * n := by rw [← hfl zs fun z hz => (hz1 z hz).1]; exact (List.getElem?_eq_some_iff.1 hu).1
    have hq : j / n < zs.length := Nat.div_lt_of_lt_mul (by rw [Nat.mul_comm]; exact hj)
    have hr : j % n < n := Nat.mod_lt _ hn
    have hjd : j / n * n + j % n = j := by rw [Nat.mul_comm]; exact Nat.div_add_mod j n
    rw [← hjd, flat_get (n := n) (fun z : List Value × α => z.1) zs (j / n) (j % n) (fun z hz => (hz1 z hz).1) hq hr, hzk _ hq] at hu
    obtain ⟨b', off', e, -, -, -, hc', -⟩ := hcs ⟨j / n, by omega⟩
    rw [hv] at hv'
    rw [e] at hv'
    cases hv'
    have := hc' (j % n) hr
    rw [addr_add, ← hjd, ← Nat.add_assoc]
    exact this.trans hu
theorem zs_len {α : Type} {zs : List (List Value × α)} {n : Nat} (h : ∀ z ∈ zs, z.1.length = n) : (zs.flatMap (·.1)).length = zs.length * n := by
  induction zs with
  | nil => simp
  | cons x zs ih =>
    rw [List.flatMap_cons, List.length_append, ih (fun y hy => h y (by simp [hy])), h x (by simp), List.length_cons, Nat.add_mul]
    omega
theorem oneSL {α : Type} {n : Nat} {R : (Nat → Prop) → World → List Value → α → Prop} {M : Nat → Prop} {w : World} {v : Value} {l : List α} (h : SL n R M w v l) : v.oneCell' = true := by
  obtain ⟨ao, c, rfl, -⟩ := h
  rfl
theorem oneRK {M : Nat → Prop} {w : World} {cs : List Value} {x : KindD} (h : RK M w cs x) : ∀ u ∈ cs, u.oneCell' = true := by
  rw [h.1]; intro u hu; simp at hu; rcases hu with rfl | rfl <;> rfl
theorem oneRF {M : Nat → Prop} {w : World} {cs : List Value} {x : FieldD} (h : RF M w cs x) : ∀ u ∈ cs, u.oneCell' = true := by
  rw [h.1]; intro u hu; simp at hu; rcases hu with rfl | rfl | rfl <;> rfl
theorem oneRH {M : Nat → Prop} {w : World} {cs : List Value} {x : HandD} (h : RH M w cs x) : ∀ u ∈ cs, u.oneCell' = true := by
  rw [h.1]; intro u hu; simp at hu; rcases hu with rfl | rfl | rfl | rfl <;> rfl
theorem oneRM {M : Nat → Prop} {w : World} {cs : List Value} {x : MethD} (h : RM M w cs x) : ∀ u ∈ cs, u.oneCell' = true := by
  obtain ⟨va, vh, rfl, ha, hh, -⟩ := h
  intro u hu
  simp at hu
  rcases hu with rfl | rfl | rfl | rfl | rfl | rfl | rfl | rfl | rfl <;> first | rfl | exact oneSL ha | exact oneSL hh
theorem oneRC {M : Nat → Prop} {w : World} {cs : List Value} {x : ClassD} (h : RC M w cs x) : ∀ u ∈ cs, u.oneCell' = true := by
  obtain ⟨va, vh, rfl, ha, hh, -⟩ := h
  intro u hu
  simp at hu
  rcases hu with rfl | rfl | rfl | rfl <;> first | rfl | exact oneSL ha | exact oneSL hh
theorem own_empty (w : World) (e n : Nat) : (w.alloc (.cells #[] e)).ownsRow w.heap.size e n (.slice (some ⟨w.heap.size, 0, none⟩) 0 0) 0 [] :=
  ⟨by simp, Or.inr ⟨w.heap.size, 0, #[], rfl, Nat.le_refl _, heap_alloc_new w _, Nat.le_refl _, by unfold maxLen; omega, by simp, by simp⟩⟩

set_option maxRecDepth 100000 in
set_option maxHeartbeats 1000000 in
theorem cloneG {α : Type} {f a e : Nat} {F : Func} {q0 q1 q2 q3 q4 q5 q6 q7 : String} {x0 x1 x2 x3 x4 x5 x6 x7 : Array Edge} (hf : Tryz.prog.funcs[f]? = some F) (hn : F.ntmps = 8) (hr : F.results = #[ResultVar.tmp 2])
    (hb : F.body = some (((Code.region 0 #[⟨some 2, Op.assign (Operand.const (Value.slice none 0 0)), a, q0, x0, none⟩] false).seq (((Code.region 1 #[⟨some 3, Op.move (Operand.tmp 0), a, q1, x1, none⟩, ⟨some 4, Op.binOp BinOp.eql a (Operand.tmp 3) (Operand.const (Value.slice none 0 0)) a, 4, q2, x2, none⟩] false).seq (Code.cond (Operand.tmp 4) ((Code.region 2 #[⟨some 2, Op.assign (Operand.const (Value.slice none 0 0)), a, q3, x3, none⟩] false).seq Code.ret) Code.skip)).seq ((Code.region 3 #[⟨some 5, Op.buildSlice a 0 #[], a, q4, x4, none⟩, ⟨some 6, Op.move (Operand.tmp 0), a, q5, x5, none⟩, ⟨some 7, Op.call { callee := Callee.builtin Builtin.append, args := #[Operand.tmp 5, Operand.tmp 6], argTypes := #[a, a] }, a, q6, x6, none⟩, ⟨some 2, Op.assign (Operand.tmp 7), a, q7, x7, none⟩] false).seq Code.ret)))))
    (hund : Tryz.prog.underlying a = some (.slice e)) {Z : Value} {n by8 : Nat} (hinf : (Tryz.prog.info? e).map (fun i => (i.zero, i.size, i.bytes)) = some (some Z, n, by8)) (hZ : Z.cells.size = n) (hn0 : 0 < n) (h8 : by8 ≤ 1000)
    (hnE : ∀ (c : Nat) (w : World), (binOp BinOp.eql a (.slice none 0 c) (.slice none 0 0)).run Tryz.prog w = .ok (.bool true) w) (hnN : ∀ (d : Addr) (n c : Nat) (w : World), (binOp BinOp.eql a (.slice (some d) n c) (.slice none 0 0)).run Tryz.prog w = .ok (.bool false) w)
    {R : (Nat → Prop) → World → List Value → α → Prop} (h1c : ∀ {M w cs x}, R M w cs x → ∀ u ∈ cs, u.oneCell' = true) (w : World) (M : Nat → Prop) (v : Value) (l : List α) (hv : SL n R M w v l) (hl : l.length ≤ 100000) :
    Calls Tryz.prog f #[v] w fun r w' => Below w.heap.size w w' ∧ ∃ (v' : Value) (zs : List (List Value × α)), r = .returned v' ∧ zs.map (·.2) = l ∧ (∀ z ∈ zs, z.1.length = n ∧ R M w z.1 z.2) ∧ w'.ownsRow w.heap.size e n v' zs.length (zs.flatMap (·.1)) := by
  obtain ⟨iI, hiI, hz0, hz1, hz2⟩ := info_parts hinf
  have hur : ∀ V, (underlying a).run Tryz.prog V = .ok (.slice e) V := run_underlying hund
  have hsr : ∀ V, (sizeOf e).run Tryz.prog V = .ok n V := fun V => by simp [sizeOf, typeInfo, hiI, hz1, Sem.run_bind]
  obtain ⟨zs, hzm, hzR, hzc⟩ := SL_zs hn0 hv
  have hzl : zs.length = l.length := by rw [← hzm, List.length_map]
  have HLim := mkHid hl
  clear hl
  have HM := mkHid hzm
  have HR := mkHid hzR
  have HB0 := mkHid (fun o => (Below.refl w.heap.size w).alloc (Nat.le_refl _) o)
  obtain ⟨ao, cl, rfl, -, -, hel⟩ := hv
  cases ao with
  | none =>
    have hl0 : l = [] := by
      cases l with
      | nil => rfl
      | cons x l => obtain ⟨b, off, cs, e9, -⟩ := hel 0 (by simp); cases e9
    subst hl0
    have hz0' : zs = [] := List.eq_nil_of_length_eq_zero (by simpa using hzl)
    subst hz0'
    clear hel hzc hzm hzR hzl
    refine calls_of_wp hf hb ?_
    simp only [hn, List.size_toArray, List.length_cons, List.length_nil, Nat.reduceAdd, Nat.reduceSub, Array.replicate_succ, Array.replicate_zero, List.push_toArray, List.append_toArray, List.nil_append, List.cons_append]
    go_wp2_with fail
    refine bodyPost_ret (results_tmp hr _ _ _) rfl ?_
    exact ⟨Below.refl _ _, _, [], rfl, rfl, (fun z hz => by cases hz), World.ownsRow_nil _ _ _ _⟩
  | some ad =>
    cases l with
    | nil =>
      have hz0' : zs = [] := List.eq_nil_of_length_eq_zero (by simpa using hzl)
      subst hz0'
      have HE := mkHid (own_empty w e n)
      clear hel hzc hzm hzR hzl
      refine calls_of_wp hf hb ?_
      simp only [hn, List.size_toArray, List.length_cons, List.length_nil, Nat.reduceAdd, Nat.reduceSub, Array.replicate_succ, Array.replicate_zero, List.push_toArray, List.append_toArray, List.nil_append, List.cons_append]
      go_wp2_with (at_builtin; refine wpList_append_none _ rfl _ _ a rfl e iI hund hiI (some ⟨w.heap.size, 0, none⟩) 0 0 rfl (Nat.le_refl _) (Or.inr ⟨_, rfl⟩) (some ad) cl rfl ?_)
      refine bodyPost_ret (results_tmp hr _ _ _) rfl ?_
      exact ⟨HB0.out _, _, [], rfl, rfl, (fun z hz => by cases hz), HE.out⟩
    | cons x l0 =>
      generalize hL : x :: l0 = l at *
      have hpos : 0 < l.length := by rw [← hL]; simp
      clear hL
      obtain ⟨b, off, cs, e9, -, hbl, -⟩ := hel 0 hpos
      cases e9
      have HC := mkHid (hzc b off _ _ rfl)
      have HLN : Hid ((zs.flatMap (·.1)).length = l.length * n) := by show _ = _; rw [zs_len fun z hz => (hzR z hz).1, hzl]
      have H1 : Hid (∀ u ∈ zs.flatMap (·.1), u.oneCell' = true) := fun u hu => by
        obtain ⟨z, hz, hu⟩ := List.mem_flatMap.1 hu
        exact h1c (hzR z hz).2 u hu
      have HZL := mkHid hzl
      have hfull : 0 < 0 + l.length := by omega
      have HBB : Hid (0 + l.length ≤ maxLen ∧ (0 + l.length) * by8 ≤ 140737488355328) := (by have hl := HLim.out; exact ⟨by unfold maxLen; omega, by rw [Nat.zero_add]; exact Nat.le_trans (Nat.mul_le_mul hl h8) (by decide)⟩)
      clear hel hzc hzm hzR hzl
      refine calls_of_wp hf hb ?_
      simp only [hn, List.size_toArray, List.length_cons, List.length_nil, Nat.reduceAdd, Nat.reduceSub, Array.replicate_succ, Array.replicate_zero, List.push_toArray, List.append_toArray, List.nil_append, List.cons_append]
      go_wp2_with (at_builtin; refine wpList_append_grows _ rfl _ _ a rfl e iI Z n by8 hund hiI hz0 hz1 hz2 hZ hn0 (some ⟨w.heap.size, 0, none⟩) 0 0 [] rfl (fun e => by cases e) (by simp) (fun _ _ j u hu => by simp at hu) ⟨b, off, none⟩ l.length cl (zs.flatMap (·.1)) rfl HLN.out (fun j u hu => by rw [addr_add]; exact (World.cell?_alloc_past _ _ _ hbl).trans (by have := HC.out j u hu; rwa [addr_add] at this)) H1.out hfull HBB.out.1 HBB.out.2 ?_; intro v9 w9 hown9 hgr9; have HO9 : Hid (w9.ownsRow w.heap.size e n v9 zs.length (zs.flatMap (·.1))) := (by have h := own_lower hown9 (B' := w.heap.size) (by simp); rw [Nat.zero_add, List.nil_append, ← HZL.out] at h; exact h); have HB9 : Hid (Below w.heap.size w w9) := (HB0.out _).grown hgr9 (by simp) (fun q e => by cases e); obtain ⟨g9, c9, e9, -⟩ := hown9.form hfull; subst e9; have HO8 : Hid (w9.ownsRow w.heap.size e n (.slice (some ⟨g9, 0, none⟩) l.length c9) zs.length (zs.flatMap (·.1))) := (by have h := HO9.out; rwa [Nat.zero_add] at h); clear hown9 hgr9 HO9)
      refine bodyPost_ret (results_tmp hr _ _ _) rfl ?_
      exact ⟨HB9.out, _, zs, rfl, HM.out, HR.out, HO8.out⟩
theorem Tryz.infoClK : (Tryz.prog.info? 24).map (fun i => (i.zero, i.size, i.bytes)) = some (some (.agg #[.int .i64 0, .string ⟨#[]⟩]), 2, 24) := by kernel_rfl
theorem cloneK_any (w : World) (M : Nat → Prop) (v : Value) (l : List KindD) (hv : SL 2 RK M w v l) (hl : l.length ≤ 100000) :
    Calls Tryz.prog 81 #[v] w fun r w' => Below w.heap.size w w' ∧ ∃ (v' : Value) (zs : List (List Value × KindD)), r = .returned v' ∧ zs.map (·.2) = l ∧ (∀ z ∈ zs, z.1.length = 2 ∧ RK M w z.1 z.2) ∧ w'.ownsRow w.heap.size 24 2 v' zs.length (zs.flatMap (·.1)) :=
  cloneG Tryz.func81 rfl rfl rfl Tryz.underlying46 Tryz.infoClK rfl (by decide) (by decide) (fun _ _ => by kernel_rfl) (fun _ _ _ _ => by kernel_rfl) oneRK w M v l hv hl
theorem Tryz.infoClH : (Tryz.prog.info? 111).map (fun i => (i.zero, i.size, i.bytes)) = some (some (.agg #[.int .i64 0, .int .i64 0, .int .i64 0, .string ⟨#[]⟩]), 4, 40) := by kernel_rfl
theorem cloneH_any (w : World) (M : Nat → Prop) (v : Value) (l : List HandD) (hv : SL 4 RH M w v l) (hl : l.length ≤ 100000) :
    Calls Tryz.prog 82 #[v] w fun r w' => Below w.heap.size w w' ∧ ∃ (v' : Value) (zs : List (List Value × HandD)), r = .returned v' ∧ zs.map (·.2) = l ∧ (∀ z ∈ zs, z.1.length = 4 ∧ RH M w z.1 z.2) ∧ w'.ownsRow w.heap.size 111 4 v' zs.length (zs.flatMap (·.1)) :=
  cloneG Tryz.func82 rfl rfl rfl Tryz.underlying70 Tryz.infoClH rfl (by decide) (by decide) (fun _ _ => by kernel_rfl) (fun _ _ _ _ => by kernel_rfl) oneRH w M v l hv hl
theorem Tryz.infoClF : (Tryz.prog.info? 78).map (fun i => (i.zero, i.size, i.bytes)) = some (some (.agg #[.string ⟨#[]⟩, .int .i64 0, .string ⟨#[]⟩]), 3, 40) := by kernel_rfl
theorem cloneF_any (w : World) (M : Nat → Prop) (v : Value) (l : List FieldD) (hv : SL 3 RF M w v l) (hl : l.length ≤ 100000) :
    Calls Tryz.prog 38 #[v] w fun r w' => Below w.heap.size w w' ∧ ∃ (v' : Value) (zs : List (List Value × FieldD)), r = .returned v' ∧ zs.map (·.2) = l ∧ (∀ z ∈ zs, z.1.length = 3 ∧ RF M w z.1 z.2) ∧ w'.ownsRow w.heap.size 78 3 v' zs.length (zs.flatMap (·.1)) :=
  cloneG Tryz.func38 rfl rfl rfl Tryz.underlying74 Tryz.infoClF rfl (by decide) (by decide) (fun _ _ => by kernel_rfl) (fun _ _ _ _ => by kernel_rfl) oneRF w M v l hv hl
theorem Tryz.infoClM : (Tryz.prog.info? 72).map (fun i => (i.zero, i.size, i.bytes)) = some (some (.agg #[.string ⟨#[]⟩, .bool false, .slice none 0 0, .int .i64 0, .string ⟨#[]⟩, .int .i64 0, .int .i64 0, .string ⟨#[]⟩, .slice none 0 0]), 9, 128) := by kernel_rfl
theorem cloneM_any (w : World) (M : Nat → Prop) (v : Value) (l : List MethD) (hv : SL 9 RM M w v l) (hl : l.length ≤ 100000) :
    Calls Tryz.prog 80 #[v] w fun r w' => Below w.heap.size w w' ∧ ∃ (v' : Value) (zs : List (List Value × MethD)), r = .returned v' ∧ zs.map (·.2) = l ∧ (∀ z ∈ zs, z.1.length = 9 ∧ RM M w z.1 z.2) ∧ w'.ownsRow w.heap.size 72 9 v' zs.length (zs.flatMap (·.1)) :=
  cloneG Tryz.func80 rfl rfl rfl Tryz.underlying73 Tryz.infoClM rfl (by decide) (by decide) (fun _ _ => by kernel_rfl) (fun _ _ _ _ => by kernel_rfl) oneRM w M v l hv hl
theorem Tryz.infoClC : (Tryz.prog.info? 76).map (fun i => (i.zero, i.size, i.bytes)) = some (some (.agg #[.string ⟨#[]⟩, .string ⟨#[]⟩, .slice none 0 0, .slice none 0 0]), 4, 80) := by kernel_rfl
theorem cloneC_any (w : World) (M : Nat → Prop) (v : Value) (l : List ClassD) (hv : SL 4 RC M w v l) (hl : l.length ≤ 100000) :
    Calls Tryz.prog 37 #[v] w fun r w' => Below w.heap.size w w' ∧ ∃ (v' : Value) (zs : List (List Value × ClassD)), r = .returned v' ∧ zs.map (·.2) = l ∧ (∀ z ∈ zs, z.1.length = 4 ∧ RC M w z.1 z.2) ∧ w'.ownsRow w.heap.size 76 4 v' zs.length (zs.flatMap (·.1)) :=
  cloneG Tryz.func37 rfl rfl rfl Tryz.underlying22 Tryz.infoClC rfl (by decide) (by decide) (fun _ _ => by kernel_rfl) (fun _ _ _ _ => by kernel_rfl) oneRC w M v l hv hl
end Go.Proofs.YtkhconnebiiboaaGreatDoor
