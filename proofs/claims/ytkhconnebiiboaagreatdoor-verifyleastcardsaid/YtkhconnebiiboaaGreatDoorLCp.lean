/- The contracts of what copies methods and classes. -/
import Derived.Test.YtkhconnebiiboaaGreatDoorLCl
import Derived.Test.YtkhconnebiiboaaGreatDoorLNam
namespace Go.Proofs.YtkhconnebiiboaaGreatDoor
open Go.RowKit

theorem flat_set {α : Type} {n : Nat} : ∀ (zs : List (List Value × α)) (k j : Nat) (v : Value), (∀ z ∈ zs, z.1.length = n) → (hk : k < zs.length) → j < n → (zs.flatMap (·.1)).set (k * n + j) v = (zs.set k (zs[k].1.set j v, zs[k].2)).flatMap (·.1)
  | [], k, j, v, _, hk, _ => by simp at hk
  | x :: zs, 0, j, v, h, _, hj => by
    have hx := h x (List.mem_cons_self ..)
    simp [hx, hj]
  | x :: zs, k + 1, j, v, h, hk, hj => by
    have hx := h x (List.mem_cons_self ..)
    have hk' : k < zs.length := by simpa using hk
    have ih := flat_set zs k j v (fun z hz => h z (List.mem_cons_of_mem _ hz)) hk' hj
    have hlt : ¬ (k + 1) * n + j < x.1.length := by rw [hx, Nat.add_mul]; omega
    have he : (k + 1) * n + j - x.1.length = k * n + j := by rw [hx, Nat.add_mul]; omega
    simp only [List.flatMap_cons, List.set_append, hlt, if_false, he, ih, List.set_cons_succ, List.getElem_cons_succ]

theorem cloneKs_any (w : World) (M : Nat → Prop) (v : Value) (l : List KindD) (hv : SL 2 RK M w v l) (hl : l.length ≤ 100000) :
    Calls Tryz.prog 81 #[v] w fun r w' => Below w.heap.size w w' ∧ ∃ v', r = .returned v' ∧ SL 2 RK (MT w.heap.size [24] w') w' v' l :=
  (cloneK_any w M v l hv hl).mono fun _ w' ⟨hb, v', zs, hr, hm, hz, ho⟩ => ⟨hb, v', hr, by
    rw [← hm]
    exact own_SL (T := [24]) ho hz (by simp) (by have hz : zs.length = l.length := (by rw [← hm, List.length_map]); unfold maxLen; omega)⟩

theorem cloneHs_any (w : World) (M : Nat → Prop) (v : Value) (l : List HandD) (hv : SL 4 RH M w v l) (hl : l.length ≤ 100000) :
    Calls Tryz.prog 82 #[v] w fun r w' => Below w.heap.size w w' ∧ ∃ v', r = .returned v' ∧ SL 4 RH (MT w.heap.size [111] w') w' v' l :=
  (cloneH_any w M v l hv hl).mono fun _ w' ⟨hb, v', zs, hr, hm, hz, ho⟩ => ⟨hb, v', hr, by
    rw [← hm]
    exact own_SL (T := [111]) ho hz (by simp) (by have hz : zs.length = l.length := (by rw [← hm, List.length_map]); unfold maxLen; omega)⟩

theorem cloneFs_any (w : World) (M : Nat → Prop) (v : Value) (l : List FieldD) (hv : SL 3 RF M w v l) (hl : l.length ≤ 100000) :
    Calls Tryz.prog 38 #[v] w fun r w' => Below w.heap.size w w' ∧ ∃ v', r = .returned v' ∧ SL 3 RF (MT w.heap.size [78] w') w' v' l :=
  (cloneF_any w M v l hv hl).mono fun _ w' ⟨hb, v', zs, hr, hm, hz, ho⟩ => ⟨hb, v', hr, by
    rw [← hm]
    exact own_SL (T := [78]) ho hz (by simp) (by have hz : zs.length = l.length := (by rw [← hm, List.length_map]); unfold maxLen; omega)⟩

set_option maxRecDepth 100000 in
set_option maxHeartbeats 4000000 in
theorem copyMethods_any (w : World) (B : Nat) (v : Value) (l : List MethD) (hv : SL 9 RM (· < B) w v l) (hB : B ≤ w.heap.size) (hl : l.length ≤ 100000) (hf : ∀ x ∈ l, x.args.length ≤ 100000 ∧ x.hands.length ≤ 100000) :
    Calls Tryz.prog 39 #[v] w fun r w' => Below w.heap.size w w' ∧ ∃ v', r = .returned v' ∧ SL 9 RM (MT w.heap.size [72, 24, 111] w') w' v' l := by
  have HV := mkHid hv
  have HCL := mkHid (cloneM_any w (· < B) v l hv hl)
  have HLim := mkHid hl
  have HF := mkHid hf
  obtain ⟨ao, ca, rfl, -⟩ := hv
  clear hl hf
  go_enter Tryz.func39, Tryz.ntmps39
  go_wp2_with (go_at_call 80; refine HCL.out.mono ?_; rintro r w1 ⟨hb1, v', zs0, rfl, hzm, hzR, hown⟩; have HB1 := mkHid hb1; have HZM := mkHid hzm; have HZR := mkHid hzR; have hzl0 : zs0.length = l.length := (by rw [← hzm, List.length_map]); rw [hzl0] at hown; have HOW := mkHid hown; obtain ⟨a0, c0, e0⟩ : ∃ a0 c0, v' = .slice a0 l.length c0 := (by rcases hown.2 with ⟨e, h0⟩ | ⟨g, cap, cur, e, -⟩; (exact ⟨none, 0, by rw [e, h0]⟩); (exact ⟨_, _, e⟩)); subst e0; clear hb1 hzm hzR hown)
  clear HCL
  go_loopw [9] (fun i wr => ∃ (k : Nat) (zs : List (List Value × MethD)), k ≤ l.length ∧ i = .int .i64 k ∧ Hid (zs.map (·.2) = l ∧ (∀ z ∈ zs, z.1.length = 9) ∧ (∀ (j : Nat) (h : j < zs.length), j < k → RM (MT w.heap.size [24, 111] wr) wr zs[j].1 zs[j].2) ∧ (∀ (j : Nat) (h : j < zs.length), k ≤ j → RM (· < B) w zs[j].1 zs[j].2) ∧ wr.ownsRow w.heap.size 72 9 (.slice a0 l.length c0) l.length (zs.flatMap (·.1)) ∧ Below w.heap.size w wr)) (fun i _ => l.length - (intOf i).toNat)
  case atStart => exact ⟨0, zs0, Nat.zero_le _, rfl, HZM.out, (fun z hz => (HZR.out z hz).1), (fun j h hj => by omega), (fun j h _ => (HZR.out _ (List.getElem_mem h)).2), HOW.out, HB1.out⟩
  case round =>
    clear HZM HZR HOW HB1
    obtain ⟨k, zs, hk, rfl, HI⟩ := hrel
    obtain ⟨hzm, hz9, hdone, htodo, hown, hBr⟩ := HI.out
    have hzl : zs.length = l.length := by rw [← hzm, List.length_map]
    have hsr : w.heap.size ≤ wr.heap.size := hBr.size
    by_cases hlt : k < l.length
    · have hkz : k < zs.length := by omega
      obtain ⟨g, cap, cur, eg, hgX, hgb, hgc, hgm, hgs, hgt⟩ : ∃ g cap cur, Value.slice a0 l.length c0 = .slice (some ⟨g, 0, none⟩) l.length cap ∧ w.heap.size ≤ g ∧ wr.heap[g]? = some (.cells cur 72 (0, 0)) ∧ l.length ≤ cap ∧ cap ≤ maxLen ∧ cur.size = cap * 9 ∧ cur.toList.take (l.length * 9) = zs.flatMap (·.1) := by
        rcases hown.2 with ⟨e, h0⟩ | h
        · omega
        · exact h
      obtain ⟨rfl, rfl⟩ : a0 = some ⟨g, 0, none⟩ ∧ c0 = cap := by injection eg with h1 h2 h3; exact ⟨h1, h3⟩
      have hlk : zs[k].2 = l[k] := by
        have := List.getElem_map (f := fun z : List Value × MethD => z.2) (l := zs) (i := k) (h := by simpa using hkz)
        rw [← this]
        congr 1
      have htk := htodo k hkz (Nat.le_refl _)
      rw [hlk] at htk
      obtain ⟨va, vh, hcs, s1, s2, hsz⟩ := htk
      have hcell : ∀ j u, zs[k].1[j]? = some u → wr.cell? ⟨g, k * 9 + j, none⟩ = some u := fun j u hu => by
        have hj : j < 9 := by have := (List.getElem?_eq_some_iff.1 hu).1; rw [hz9 _ (List.getElem_mem hkz)] at this; exact this
        have := hown.cells (g := g) rfl (k * 9 + j) u (by rw [flat_get (n := 9) (fun z : List Value × MethD => z.1) zs k j hz9 hkz hj]; exact hu)
        rwa [addr_add, Nat.zero_add] at this
      rw [hcs] at hcell
      have q0 : wr.cell? ⟨g, k * 9, none⟩ = some (.string l[k].name) := hcell 0 _ rfl
      have q1 : wr.cell? ⟨g, k * 9 + 1, none⟩ = some (.bool l[k].static) := hcell 1 _ rfl
      have q2 : wr.cell? ⟨g, k * 9 + 2, none⟩ = some (va) := hcell 2 _ rfl
      have q3 : wr.cell? ⟨g, k * 9 + 3, none⟩ = some (.int .i64 l[k].ret.kind) := hcell 3 _ rfl
      have q4 : wr.cell? ⟨g, k * 9 + 4, none⟩ = some (.string l[k].ret.cls) := hcell 4 _ rfl
      have q5 : wr.cell? ⟨g, k * 9 + 5, none⟩ = some (.int .i64 l[k].stack) := hcell 5 _ rfl
      have q6 : wr.cell? ⟨g, k * 9 + 6, none⟩ = some (.int .i64 l[k].locals) := hcell 6 _ rfl
      have q7 : wr.cell? ⟨g, k * 9 + 7, none⟩ = some (.string l[k].code) := hcell 7 _ rfl
      have q8 : wr.cell? ⟨g, k * 9 + 8, none⟩ = some (vh) := hcell 8 _ rfl
      have hgl : g < wr.heap.size := lt_of hgb
      have HS1 := mkHid s1
      have HS2 := mkHid s2
      obtain ⟨o1, d1, rfl, -⟩ := s1
      obtain ⟨o2, d2, rfl, -⟩ := s2
      have hfk := HF.out l[k] (List.getElem_mem hlt)
      have HFK := mkHid hfk
      have HHC := mkHid hcs
      have HOW := mkHid hown
      have HGB := mkHid hgb
      have HHL := mkHid hlk
      have HSZ := mkHid hsz
      have h00 : (0 : Int) ≤ k := by omega
      have h01 : (k : Int) < l.length := by omega
      clear hfk hcell hcs hown hgb hgc hgm hgs hgt hdone htodo hz9 hzm hlk eg hsz
      have hYg : wr.heap.size ≠ g := by omega
      have hB1 : Below w.heap.size w (wr.alloc (.cells #[.string l[k].name, .bool l[k].static, .slice o1 l[k].args.length d1, .int .i64 l[k].ret.kind, .string l[k].ret.cls, .int .i64 l[k].stack, .int .i64 l[k].locals, .string l[k].code, .slice o2 l[k].hands.length d2] 72)) := hBr.alloc hsr _
      have HB1 := mkHid hB1
      have HC1 := mkHid (cloneKs_any (wr.alloc (.cells #[.string l[k].name, .bool l[k].static, .slice o1 l[k].args.length d1, .int .i64 l[k].ret.kind, .string l[k].ret.cls, .int .i64 l[k].stack, .int .i64 l[k].locals, .string l[k].code, .slice o2 l[k].hands.length d2] 72)) (· < B) _ _ (HS1.out.keptK (Kp.below (hB1.mono hB))) HFK.out.1)
      clear hB1
      go_wp2_with fail
      refine HC1.out.mono ?_
      rintro r w2 ⟨hb2, v1, rfl, sv1⟩
      have HB2 := mkHid hb2
      have HV1 := mkHid sv1
      obtain ⟨p1, e1, rfl, -⟩ := sv1
      have hg2 : w2.heap[g]? = some (.cells cur 72 (0, 0)) := ((hb2.block g (by simp; omega)).trans ((Below.heap_alloc _ _ _ hgl).trans HGB.out))
      have m2 : w2.cell? ⟨g, k * 9 + 2, none⟩ = some (.slice o1 l[k].args.length d1) := ((hb2.cell (p := ⟨g, k * 9 + 2, none⟩) (by simp; omega)).trans ((World.cell?_alloc_past _ _ _ hgl).trans q2))
      have z2 : w2.frozen? ⟨g, k * 9 + 2, none⟩ = false := frz_of hg2 _
      have y2 : w2.cell? ⟨wr.heap.size, 8, none⟩ = some (.slice o2 l[k].hands.length d2) := ((hb2.cell (p := ⟨wr.heap.size, 8, none⟩) (by simp)).trans (by simp [go_sem]))
      have lg2 : g < w2.heap.size := lt_of hg2
      have lY2 : wr.heap.size < w2.heap.size := (by have := hb2.size; simp at this; omega)
      have x2 : w2.cell? ⟨g, k * 9 + 8, none⟩ = some (.slice o2 l[k].hands.length d2) := ((hb2.cell (p := ⟨g, k * 9 + 8, none⟩) (by simp; omega)).trans ((World.cell?_alloc_past _ _ _ hgl).trans q8))
      have HG2 := mkHid hg2
      clear hb2 hg2
      go_wp2_with fail
      have hB3 : Below w.heap.size w (w2.setCell ⟨g, k * 9 + 2, none⟩ (.slice p1 l[k].args.length e1)) := (HB1.out.trans (HB2.out.mono HB1.out.size)).setCell hgX _
      have HB3 := mkHid hB3
      have hg3 := heap_set (j := k * 9 + 2) HG2.out (.slice p1 l[k].args.length e1)
      have x3 : (w2.setCell ⟨g, k * 9 + 2, none⟩ (.slice p1 l[k].args.length e1)).cell? ⟨g, k * 9 + 8, none⟩ = some (.slice o2 l[k].hands.length d2) := (World.cell?_setCell_other _ _ _ _ (by simp)).trans x2
      have HW3 : Hid (Stp w.heap.size [24, 111] w2 (w2.setCell ⟨g, k * 9 + 2, none⟩ (.slice p1 l[k].args.length e1))) := Stp.set HG2.out (by decide) _ _
      have HO3 := mkHid (own_set (own_below (HOW.out.alloc _) HB2.out) (k * 9 + 2) (.slice p1 l[k].args.length e1))
      clear m2 z2 y2 lY2 x2 lg2 HG2
      clear q0 q1 q2 q3 q4 q5 q6 q7 q8
      generalize hw3 : w2.setCell ⟨g, k * 9 + 2, none⟩ (.slice p1 l[k].args.length e1) = w3 at *
      clear hw3
      refine (cloneHs_any w3 (· < B) _ _ (HS2.out.keptH (Kp.below (hB3.mono hB))) HFK.out.2).mono ?_
      rintro r w4 ⟨hb4, v2, rfl, sv2⟩
      have HV2 := mkHid sv2
      obtain ⟨p2, e2, rfl, -⟩ := sv2
      have hg4 := (hb4.block g (lt_of hg3)).trans hg3
      have m4 : w4.cell? ⟨g, k * 9 + 8, none⟩ = some (.slice o2 l[k].hands.length d2) := (hb4.cell (p := ⟨g, k * 9 + 8, none⟩) (lt_of hg3)).trans x3
      have z4 : w4.frozen? ⟨g, k * 9 + 8, none⟩ = false := frz_of hg4 _
      have lg4 : g < w4.heap.size := lt_of hg4
      have HFIN : Hid (∃ zs' : List (List Value × MethD), zs'.map (·.2) = l ∧ (∀ z ∈ zs', z.1.length = 9) ∧ (∀ (j : Nat) (h : j < zs'.length), j < k + 1 → RM (MT w.heap.size [24, 111] (w4.setCell ⟨g, k * 9 + 8, none⟩ (.slice p2 l[k].hands.length e2))) (w4.setCell ⟨g, k * 9 + 8, none⟩ (.slice p2 l[k].hands.length e2)) zs'[j].1 zs'[j].2) ∧ (∀ (j : Nat) (h : j < zs'.length), k + 1 ≤ j → RM (· < B) w zs'[j].1 zs'[j].2) ∧ (w4.setCell ⟨g, k * 9 + 8, none⟩ (.slice p2 l[k].hands.length e2)).ownsRow w.heap.size 72 9 (.slice (some ⟨g, 0, none⟩) l.length c0) l.length (zs'.flatMap (·.1)) ∧ Below w.heap.size w (w4.setCell ⟨g, k * 9 + 8, none⟩ (.slice p2 l[k].hands.length e2))) := by
        obtain ⟨hzm, hz9, hdone, htodo, -, -⟩ := HI.out
        have s45 : Stp w.heap.size [24, 111] w4 (w4.setCell ⟨g, k * 9 + 8, none⟩ (.slice p2 l[k].hands.length e2)) := Stp.set hg4 (by decide) _ _
        have s34 : Stp w.heap.size [24, 111] w3 w4 := Stp.below hb4
        have s12 : Stp w.heap.size [24, 111] wr w2 := (Stp.alloc (Stp.refl _ _ _) _).trans (Stp.below HB2.out)
        have s25 := (HW3.out.trans s34).trans s45
        have ho5 := own_set (own_below HO3.out hb4) (k * 9 + 8) (.slice p2 l[k].hands.length e2)
        have hz1 : ∀ z ∈ zs.set k (zs[k].1.set 2 (.slice p1 l[k].args.length e1), zs[k].2), z.1.length = 9 := fun z hz => by
          rcases List.mem_or_eq_of_mem_set hz with h | h
          · exact hz9 z h
          · rw [h, List.length_set]; exact hz9 _ (List.getElem_mem hkz)
        rw [flat_set zs k 2 _ hz9 hkz (by decide), flat_set _ k 8 _ hz1 (by rw [List.length_set]; exact hkz) (by decide), List.set_set, List.getElem_set_self] at ho5
        refine ⟨zs.set k ((zs[k].1.set 2 (.slice p1 l[k].args.length e1)).set 8 (.slice p2 l[k].hands.length e2), zs[k].2), ?_, ?_, ?_, ?_, ho5, (HB3.out.trans (hb4.mono HB3.out.size)).setCell hgX _⟩
        · rw [List.map_set]
          refine (congrArg (fun x => (zs.map (·.2)).set k x) (List.getElem_map (f := fun z : List Value × MethD => z.2) (h := by simpa using hkz)).symm).trans ?_
          rw [List.set_getElem_self, hzm]
        · intro z hz
          rcases List.mem_or_eq_of_mem_set hz with h | h
          · exact hz9 z h
          · rw [h, List.length_set, List.length_set]; exact hz9 _ (List.getElem_mem hkz)
        · intro j h hj
          have h' : j < zs.length := by simpa using h
          by_cases hjk : j = k
          · subst hjk
            rw [List.getElem_set_self, HHC.out, HHL.out]
            exact ⟨_, _, rfl, (HV1.out.monoK (fun _ hk => hk.more (T' := [24, 111]) HB1.out.size (fun _ ht => by simp at ht; simp [ht]))).stpK s25, (HV2.out.monoH (fun _ hk => hk.more (T' := [24, 111]) HB3.out.size (fun _ ht => by simp at ht; simp [ht]))).stpH s45, HSZ.out⟩
          · rw [List.getElem_set_ne (by omega)]
            exact ((hdone j h' (by omega)).stp s12).stp s25
        · intro j h hj
          have h' : j < zs.length := by simpa using h
          rw [List.getElem_set_ne (by omega)]
          exact htodo j h' (by omega)
      clear HB3 HW3 HO3 HV1 HV2 HS1 HS2 HFK HHC HOW HGB HHL HSZ hg3 hg4 x3 hb4 hB3 HB2 HI
      have hll : l.length ≤ 9223372036854775807 := by have := HLim.out; omega
      go_wp2_with fail
      go_roundw
      case rel => exact ⟨k + 1, HFIN.out.choose, by omega, by go_num, HFIN.out.choose_spec⟩
      case measure => simp [intOf]; omega
    · have hkl : k = l.length := by omega
      have HFIN : Hid (SL 9 RM (MT w.heap.size [72, 24, 111] wr) wr (.slice a0 l.length c0) l) := by
        have := own_SL (R := RM) (T := [72, 24, 111]) (zs := zs) (n := 9) (by rw [hzl]; exact hown) (fun z hz => ⟨hz9 z hz, by
          obtain ⟨j, hj, rfl⟩ := List.mem_iff_getElem.1 hz
          exact (hdone j hj (by omega)).mono fun _ hk => hk.more (Nat.le_refl _) (fun _ ht => List.mem_cons_of_mem _ ht)⟩) (by simp) (by have := HLim.out; unfold maxLen; omega)
        rw [hzm] at this
        exact this
      have HBE := mkHid hBr
      clear hown hdone htodo hz9 HI
      go_wp2_with fail
      go_ret
      exact ⟨HBE.out, _, rfl, HFIN.out⟩

set_option maxRecDepth 100000 in
set_option maxHeartbeats 4000000 in
theorem copyClasses_any (w : World) (B : Nat) (v : Value) (l : List ClassD) (hv : SL 4 RC (· < B) w v l) (hB : B ≤ w.heap.size) (hl : l.length ≤ 100000) (hf : ∀ x ∈ l, x.fields.length ≤ 100000 ∧ x.meths.length ≤ 100000 ∧ ∀ m ∈ x.meths, m.args.length ≤ 100000 ∧ m.hands.length ≤ 100000) :
    Calls Tryz.prog 14 #[v] w fun r w' => Below w.heap.size w w' ∧ ∃ v', r = .returned v' ∧ SL 4 RC (MT w.heap.size [76, 78, 72, 24, 111] w') w' v' l := by
  have HV := mkHid hv
  have HCL := mkHid (cloneC_any w (· < B) v l hv hl)
  have HLim := mkHid hl
  have HF := mkHid hf
  obtain ⟨ao, ca, rfl, -⟩ := hv
  clear hl hf
  go_enter Tryz.func14, Tryz.ntmps14
  go_wp2_with (go_at_call 37; refine HCL.out.mono ?_; rintro r w1 ⟨hb1, v', zs0, rfl, hzm, hzR, hown⟩; have HB1 := mkHid hb1; have HZM := mkHid hzm; have HZR := mkHid hzR; have hzl0 : zs0.length = l.length := (by rw [← hzm, List.length_map]); rw [hzl0] at hown; have HOW := mkHid hown; obtain ⟨a0, c0, e0⟩ : ∃ a0 c0, v' = .slice a0 l.length c0 := (by rcases hown.2 with ⟨e, h0⟩ | ⟨g, cap, cur, e, -⟩; (exact ⟨none, 0, by rw [e, h0]⟩); (exact ⟨_, _, e⟩)); subst e0; clear hb1 hzm hzR hown)
  clear HCL
  go_loopw [9] (fun i wr => ∃ (k : Nat) (zs : List (List Value × ClassD)), k ≤ l.length ∧ i = .int .i64 k ∧ Hid (zs.map (·.2) = l ∧ (∀ z ∈ zs, z.1.length = 4) ∧ (∀ (j : Nat) (h : j < zs.length), j < k → RC (MT w.heap.size [78, 72, 24, 111] wr) wr zs[j].1 zs[j].2) ∧ (∀ (j : Nat) (h : j < zs.length), k ≤ j → RC (· < B) w zs[j].1 zs[j].2) ∧ wr.ownsRow w.heap.size 76 4 (.slice a0 l.length c0) l.length (zs.flatMap (·.1)) ∧ Below w.heap.size w wr)) (fun i _ => l.length - (intOf i).toNat)
  case atStart => exact ⟨0, zs0, Nat.zero_le _, rfl, HZM.out, (fun z hz => (HZR.out z hz).1), (fun j h hj => by omega), (fun j h _ => (HZR.out _ (List.getElem_mem h)).2), HOW.out, HB1.out⟩
  case round =>
    clear HZM HZR HOW HB1
    obtain ⟨k, zs, hk, rfl, HI⟩ := hrel
    obtain ⟨hzm, hz9, hdone, htodo, hown, hBr⟩ := HI.out
    have hzl : zs.length = l.length := by rw [← hzm, List.length_map]
    have hsr : w.heap.size ≤ wr.heap.size := hBr.size
    by_cases hlt : k < l.length
    · have hkz : k < zs.length := by omega
      obtain ⟨g, cap, cur, eg, hgX, hgb, hgc, hgm, hgs, hgt⟩ : ∃ g cap cur, Value.slice a0 l.length c0 = .slice (some ⟨g, 0, none⟩) l.length cap ∧ w.heap.size ≤ g ∧ wr.heap[g]? = some (.cells cur 76 (0, 0)) ∧ l.length ≤ cap ∧ cap ≤ maxLen ∧ cur.size = cap * 4 ∧ cur.toList.take (l.length * 4) = zs.flatMap (·.1) := by
        rcases hown.2 with ⟨e, h0⟩ | h
        · omega
        · exact h
      obtain ⟨rfl, rfl⟩ : a0 = some ⟨g, 0, none⟩ ∧ c0 = cap := by injection eg with h1 h2 h3; exact ⟨h1, h3⟩
      have hlk : zs[k].2 = l[k] := by
        have := List.getElem_map (f := fun z : List Value × ClassD => z.2) (l := zs) (i := k) (h := by simpa using hkz)
        rw [← this]
        congr 1
      have htk := htodo k hkz (Nat.le_refl _)
      rw [hlk] at htk
      obtain ⟨va, vh, hcs, s1, s2, hsz⟩ := htk
      have hcell : ∀ j u, zs[k].1[j]? = some u → wr.cell? ⟨g, k * 4 + j, none⟩ = some u := fun j u hu => by
        have hj : j < 4 := by have := (List.getElem?_eq_some_iff.1 hu).1; rw [hz9 _ (List.getElem_mem hkz)] at this; exact this
        have := hown.cells (g := g) rfl (k * 4 + j) u (by rw [flat_get (n := 4) (fun z : List Value × ClassD => z.1) zs k j hz9 hkz hj]; exact hu)
        rwa [addr_add, Nat.zero_add] at this
      rw [hcs] at hcell
      have q0 : wr.cell? ⟨g, k * 4, none⟩ = some (.string l[k].name) := hcell 0 _ rfl
      have q1 : wr.cell? ⟨g, k * 4 + 1, none⟩ = some (.string l[k].super) := hcell 1 _ rfl
      have q2 : wr.cell? ⟨g, k * 4 + 2, none⟩ = some (va) := hcell 2 _ rfl
      have q3 : wr.cell? ⟨g, k * 4 + 3, none⟩ = some (vh) := hcell 3 _ rfl
      have hgl : g < wr.heap.size := lt_of hgb
      have HS1 := mkHid s1
      have HS2 := mkHid s2
      obtain ⟨o1, d1, rfl, -⟩ := s1
      obtain ⟨o2, d2, rfl, -⟩ := s2
      have hfk := HF.out l[k] (List.getElem_mem hlt)
      have HFK := mkHid hfk
      have HHC := mkHid hcs
      have HOW := mkHid hown
      have HGB := mkHid hgb
      have HHL := mkHid hlk
      have HSZ := mkHid hsz
      have h00 : (0 : Int) ≤ k := by omega
      have h01 : (k : Int) < l.length := by omega
      clear hfk hcell hcs hown hgb hgc hgm hgs hgt hdone htodo hz9 hzm hlk eg hsz
      have hYg : wr.heap.size ≠ g := by omega
      have hB1 : Below w.heap.size w (wr.alloc (.cells #[.string l[k].name, .string l[k].super, .slice o1 l[k].fields.length d1, .slice o2 l[k].meths.length d2] 76)) := hBr.alloc hsr _
      have HB1 := mkHid hB1
      have HC1 := mkHid (cloneFs_any (wr.alloc (.cells #[.string l[k].name, .string l[k].super, .slice o1 l[k].fields.length d1, .slice o2 l[k].meths.length d2] 76)) (· < B) _ _ (HS1.out.keptF (Kp.below (hB1.mono hB))) HFK.out.1)
      clear hB1
      go_wp2_with fail
      refine HC1.out.mono ?_
      rintro r w2 ⟨hb2, v1, rfl, sv1⟩
      have HB2 := mkHid hb2
      have HV1 := mkHid sv1
      obtain ⟨p1, e1, rfl, -⟩ := sv1
      have hg2 : w2.heap[g]? = some (.cells cur 76 (0, 0)) := ((hb2.block g (by simp; omega)).trans ((Below.heap_alloc _ _ _ hgl).trans HGB.out))
      have m2 : w2.cell? ⟨g, k * 4 + 2, none⟩ = some (.slice o1 l[k].fields.length d1) := ((hb2.cell (p := ⟨g, k * 4 + 2, none⟩) (by simp; omega)).trans ((World.cell?_alloc_past _ _ _ hgl).trans q2))
      have z2 : w2.frozen? ⟨g, k * 4 + 2, none⟩ = false := frz_of hg2 _
      have y2 : w2.cell? ⟨wr.heap.size, 3, none⟩ = some (.slice o2 l[k].meths.length d2) := ((hb2.cell (p := ⟨wr.heap.size, 3, none⟩) (by simp)).trans (by simp [go_sem]))
      have lg2 : g < w2.heap.size := lt_of hg2
      have lY2 : wr.heap.size < w2.heap.size := (by have := hb2.size; simp at this; omega)
      have x2 : w2.cell? ⟨g, k * 4 + 3, none⟩ = some (.slice o2 l[k].meths.length d2) := ((hb2.cell (p := ⟨g, k * 4 + 3, none⟩) (by simp; omega)).trans ((World.cell?_alloc_past _ _ _ hgl).trans q3))
      have HG2 := mkHid hg2
      clear hb2 hg2
      go_wp2_with fail
      have hB3 : Below w.heap.size w (w2.setCell ⟨g, k * 4 + 2, none⟩ (.slice p1 l[k].fields.length e1)) := (HB1.out.trans (HB2.out.mono HB1.out.size)).setCell hgX _
      have HB3 := mkHid hB3
      have hg3 := heap_set (j := k * 4 + 2) HG2.out (.slice p1 l[k].fields.length e1)
      have x3 : (w2.setCell ⟨g, k * 4 + 2, none⟩ (.slice p1 l[k].fields.length e1)).cell? ⟨g, k * 4 + 3, none⟩ = some (.slice o2 l[k].meths.length d2) := (World.cell?_setCell_other _ _ _ _ (by simp)).trans x2
      have HW3 : Hid (Stp w.heap.size [78, 72, 24, 111] w2 (w2.setCell ⟨g, k * 4 + 2, none⟩ (.slice p1 l[k].fields.length e1))) := Stp.set HG2.out (by decide) _ _
      have HO3 := mkHid (own_set (own_below (HOW.out.alloc _) HB2.out) (k * 4 + 2) (.slice p1 l[k].fields.length e1))
      clear m2 z2 y2 lY2 x2 lg2 HG2
      clear q0 q1 q2 q3
      generalize hw3 : w2.setCell ⟨g, k * 4 + 2, none⟩ (.slice p1 l[k].fields.length e1) = w3 at *
      clear hw3
      refine (copyMethods_any w3 B _ _ (HS2.out.keptM (Kp.below (hB3.mono hB))) (Nat.le_trans hB hB3.size) HFK.out.2.1 HFK.out.2.2).mono ?_
      rintro r w4 ⟨hb4, v2, rfl, sv2⟩
      have HV2 := mkHid sv2
      obtain ⟨p2, e2, rfl, -⟩ := sv2
      have hg4 := (hb4.block g (lt_of hg3)).trans hg3
      have m4 : w4.cell? ⟨g, k * 4 + 3, none⟩ = some (.slice o2 l[k].meths.length d2) := (hb4.cell (p := ⟨g, k * 4 + 3, none⟩) (lt_of hg3)).trans x3
      have z4 : w4.frozen? ⟨g, k * 4 + 3, none⟩ = false := frz_of hg4 _
      have lg4 : g < w4.heap.size := lt_of hg4
      have HFIN : Hid (∃ zs' : List (List Value × ClassD), zs'.map (·.2) = l ∧ (∀ z ∈ zs', z.1.length = 4) ∧ (∀ (j : Nat) (h : j < zs'.length), j < k + 1 → RC (MT w.heap.size [78, 72, 24, 111] (w4.setCell ⟨g, k * 4 + 3, none⟩ (.slice p2 l[k].meths.length e2))) (w4.setCell ⟨g, k * 4 + 3, none⟩ (.slice p2 l[k].meths.length e2)) zs'[j].1 zs'[j].2) ∧ (∀ (j : Nat) (h : j < zs'.length), k + 1 ≤ j → RC (· < B) w zs'[j].1 zs'[j].2) ∧ (w4.setCell ⟨g, k * 4 + 3, none⟩ (.slice p2 l[k].meths.length e2)).ownsRow w.heap.size 76 4 (.slice (some ⟨g, 0, none⟩) l.length c0) l.length (zs'.flatMap (·.1)) ∧ Below w.heap.size w (w4.setCell ⟨g, k * 4 + 3, none⟩ (.slice p2 l[k].meths.length e2))) := by
        obtain ⟨hzm, hz9, hdone, htodo, -, -⟩ := HI.out
        have s45 : Stp w.heap.size [78, 72, 24, 111] w4 (w4.setCell ⟨g, k * 4 + 3, none⟩ (.slice p2 l[k].meths.length e2)) := Stp.set hg4 (by decide) _ _
        have s34 : Stp w.heap.size [78, 72, 24, 111] w3 w4 := Stp.below hb4
        have s12 : Stp w.heap.size [78, 72, 24, 111] wr w2 := (Stp.alloc (Stp.refl _ _ _) _).trans (Stp.below HB2.out)
        have s25 := (HW3.out.trans s34).trans s45
        have ho5 := own_set (own_below HO3.out hb4) (k * 4 + 3) (.slice p2 l[k].meths.length e2)
        have hz1 : ∀ z ∈ zs.set k (zs[k].1.set 2 (.slice p1 l[k].fields.length e1), zs[k].2), z.1.length = 4 := fun z hz => by
          rcases List.mem_or_eq_of_mem_set hz with h | h
          · exact hz9 z h
          · rw [h, List.length_set]; exact hz9 _ (List.getElem_mem hkz)
        rw [flat_set zs k 2 _ hz9 hkz (by decide), flat_set _ k 3 _ hz1 (by rw [List.length_set]; exact hkz) (by decide), List.set_set, List.getElem_set_self] at ho5
        refine ⟨zs.set k ((zs[k].1.set 2 (.slice p1 l[k].fields.length e1)).set 3 (.slice p2 l[k].meths.length e2), zs[k].2), ?_, ?_, ?_, ?_, ho5, (HB3.out.trans (hb4.mono HB3.out.size)).setCell hgX _⟩
        · rw [List.map_set]
          refine (congrArg (fun x => (zs.map (·.2)).set k x) (List.getElem_map (f := fun z : List Value × ClassD => z.2) (h := by simpa using hkz)).symm).trans ?_
          rw [List.set_getElem_self, hzm]
        · intro z hz
          rcases List.mem_or_eq_of_mem_set hz with h | h
          · exact hz9 z h
          · rw [h, List.length_set, List.length_set]; exact hz9 _ (List.getElem_mem hkz)
        · intro j h hj
          have h' : j < zs.length := by simpa using h
          by_cases hjk : j = k
          · subst hjk
            rw [List.getElem_set_self, HHC.out, HHL.out]
            exact ⟨_, _, rfl, (HV1.out.monoF (fun _ hk => hk.more (T' := [78, 72, 24, 111]) HB1.out.size (fun _ ht => by simp at ht; simp [ht]))).stpF s25, (HV2.out.monoM (fun _ hk => hk.more (T' := [78, 72, 24, 111]) HB3.out.size (fun _ ht => by simp at ht; simp [ht]))).stpM s45, HSZ.out⟩
          · rw [List.getElem_set_ne (by omega)]
            exact ((hdone j h' (by omega)).stp s12).stp s25
        · intro j h hj
          have h' : j < zs.length := by simpa using h
          rw [List.getElem_set_ne (by omega)]
          exact htodo j h' (by omega)
      clear HB3 HW3 HO3 HV1 HV2 HS1 HS2 HFK HHC HOW HGB HHL HSZ hg3 hg4 x3 hb4 hB3 HB2 HI
      have hll : l.length ≤ 9223372036854775807 := by have := HLim.out; omega
      go_wp2_with fail
      go_roundw
      case rel => exact ⟨k + 1, HFIN.out.choose, by omega, by go_num, HFIN.out.choose_spec⟩
      case measure => simp [intOf]; omega
    · have hkl : k = l.length := by omega
      have HFIN : Hid (SL 4 RC (MT w.heap.size [76, 78, 72, 24, 111] wr) wr (.slice a0 l.length c0) l) := by
        have := own_SL (R := RC) (T := [76, 78, 72, 24, 111]) (zs := zs) (n := 4) (by rw [hzl]; exact hown) (fun z hz => ⟨hz9 z hz, by
          obtain ⟨j, hj, rfl⟩ := List.mem_iff_getElem.1 hz
          exact (hdone j hj (by omega)).mono fun _ hk => hk.more (Nat.le_refl _) (fun _ ht => List.mem_cons_of_mem _ ht)⟩) (by simp) (by have := HLim.out; unfold maxLen; omega)
        rw [hzm] at this
        exact this
      have HBE := mkHid hBr
      clear hown hdone htodo hz9 HI
      go_wp2_with fail
      go_ret
      exact ⟨HBE.out, _, rfl, HFIN.out⟩
end Go.Proofs.YtkhconnebiiboaaGreatDoor
