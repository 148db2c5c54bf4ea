/- What operations' runs are: on rows and things. -/
import Derived.Test.YtfibgdcpbkaaoaaGreatDoorTka
import Derived.Test.YtfibgdcpbkaaoaaGreatDoorVoB
import Derived.Test.YtfibgdcpbkaaoaaGreatDoorVoC
import Derived.Test.YtfibgdcpbkaaoaaGreatDoorJVoJVoK
import Derived.Test.YtfibgdcpbkaaoaaGreatDoorVmE
import Derived.Test.YtfibgdcpbkaaoaaGreatDoorVmG
import Derived.Test.YtfibgdcpbkaaoaaGreatDoorVmQ
namespace Go.Proofs.YtfibgdcpbkaaoaaGreatDoor
open Go.RowKit Go.Maps
theorem rowG {c : Lkr} {B F P Q : Nat} {x : Cd.Op4} {v : LkV} (hw : Wf c) (w : World) {vL vS : Value} {lo st : List KindD} (hl : LkW c B P v w) (hBF : B ≤ F) (h : Sp c F P Q x w vL vS lo st) (hst : st.length ≤ 10) {n : Int} (hn : n = 21 ∨ n = 22 ∨ n = 23 ∨ n = 24 ∨ n = 25) (hop : x.op = n) (hxa : x.op ≠ 1 → 0 ≤ x.a) (ht : tellsD c x lo.length = true) :
    Calls Tryz.prog 144 #[.pointer (some ⟨Q, 0, none⟩)] w fun r w' => SpOut c F P Q x (rowD c x lo st) r w w' := by
  have ha : x.op ≠ 1 → 0 ≤ x.a := hxa
  unfold tellsD at ht
  rcases hn with rfl | rfl | rfl | rfl | rfl <;> rw [hop] at ht
  · exact rowD_21 hw w hl hBF h hst hop
  · have h1 : x.a < c.d.classes.length := by simpa using ht
    exact rowD_22 hw w hl hBF h hst (ha (by rw [hop]; decide)) h1 hop
  · exact rowD_23 hw w hl hBF h hst hop
  · exact rowD_24 hw w hl hBF h hst hop
  · exact rowD_25 hw w hl hBF h hst hop
theorem thingH {c : Lkr} {B F P Q : Nat} {x : Cd.Op4} {v : LkV} (hw : Wf c) (w : World) {vL vS : Value} {lo st : List KindD} (hl : LkW c B P v w) (hBF : B ≤ F) (h : Sp c F P Q x w vL vS lo st) (hst : st.length ≤ 10) {n : Int} (hn : n = 18 ∨ n = 19 ∨ n = 20 ∨ n = 30) (hop : x.op = n) (hxa : x.op ≠ 1 → 0 ≤ x.a) (hxb : 0 ≤ x.b) (ht : tellsD c x lo.length = true) :
    Calls Tryz.prog 145 #[.pointer (some ⟨Q, 0, none⟩)] w fun r w' => SpOut c F P Q x (thingD c x lo st) r w w' := by
  have ha : x.op ≠ 1 → 0 ≤ x.a := hxa
  unfold tellsD at ht
  rcases hn with rfl | rfl | rfl | rfl <;> rw [hop] at ht
  · have h1 : x.a < c.d.classes.length := by simpa using ht
    exact thingD_18 hw w hl hBF h hst (ha (by rw [hop]; decide)) h1 (gd_small hw.cls hl.kd (ofC_gd hw (ha (by rw [hop]; decide)) h1)) (ofC_gd hw (ha (by rw [hop]; decide)) h1) hop
  · rw [if_neg (by decide), if_neg (by decide), if_pos (by decide)] at ht
    rw [Bool.and_eq_true, decide_eq_true_iff, decide_eq_true_iff] at ht
    have h1 := ht.1
    exact thingD_19 hw w hl hBF h hst (ha (by rw [hop]; decide)) h1 hxb ht.2 (gd_small hw.cls hl.kd (ofC_gd hw (ha (by rw [hop]; decide)) h1)) hop
  · rw [if_neg (by decide), if_neg (by decide), if_pos (by decide)] at ht
    rw [Bool.and_eq_true, decide_eq_true_iff, decide_eq_true_iff] at ht
    have h1 := ht.1
    exact thingD_20 hw w hl hBF h hst (ha (by rw [hop]; decide)) h1 hxb ht.2 (gd_small hw.cls hl.kd (ofC_gd hw (ha (by rw [hop]; decide)) h1)) hop
  · have h1 : x.a < c.d.classes.length := by simpa using ht
    exact thingD_30 hw w hl hBF h hst (ha (by rw [hop]; decide)) h1 (gd_small hw.cls hl.kd (ofC_gd hw (ha (by rw [hop]; decide)) h1)) (ofC_gd hw (ha (by rw [hop]; decide)) h1) hop
set_option maxRecDepth 100000 in
set_option maxHeartbeats 4000000 in
theorem run_row {c : Lkr} {B P : Nat} {v : LkV} (hw : Wf c) {x : Cd.Op4} {n : Int} (hn : n = 21 ∨ n = 22 ∨ n = 23 ∨ n = 24 ∨ n = 25) (hop : x.op = n) (hxa : x.op ≠ 1 → 0 ≤ x.a) : RunOk c B P v x := by
  rcases hn with rfl | rfl | rfl | rfl | rfl
  all_goals
    intro W F Q vL vS lo st hl hBF h hst hlo
    have HU := mkHid hlo
    clear HU
    have H := mkHid h
    have HL := mkHid hl
    have HW := mkHid hw
    have HTL := mkHid (tells_any W hl h hw.fl hxa)
    have HF : Hid (F ≤ W.heap.size) := h.ff
    have HBF := mkHid hBF
    cases ht : tellsD c x lo.length with
    | false =>
      have HRD : Hid (runD c x lo st = none) := by show _ = _; unfold runD; rw [ht]; rfl
      rw [ht] at HTL
      clear h hl
      go_enter Tryz.func92, Tryz.ntmps92
      go_wp2_with fail
      refine HTL.out.mono ?_
      rintro r w1 ⟨rfl, hb1⟩
      have HB1 := mkHid hb1
      clear hb1
      go_wp2_with fail
      refine (sdemand_any _ (H.out.up HB1.out) _ _).mono ?_
      rintro r w2 ⟨hw2, ⟨hb, rfl⟩ | ⟨hb, rfl⟩⟩
      · exact ⟨rfl, by rw [hw2]; exact SpOut.fail' HRD.out (HB1.out.mono HF.out) ⟨3, _, by decide, rfl⟩⟩
      · exact absurd hb (by simp)
    | true =>
      have HRD : Hid (runD c x lo st = (rowD c x lo st).bind fun r => if decide ((r.2.length : Int) ≤ c.m.stack) then some r else none) := by
        show _ = _
        unfold runD spawnD workD
        rw [ht, hop]
        rfl
      rw [ht] at HTL
      clear h hl
      go_enter Tryz.func92, Tryz.ntmps92
      go_wp2_with fail
      refine HTL.out.mono ?_
      rintro r w1 ⟨rfl, hb1⟩
      have HB1 := mkHid hb1
      have H1 := mkHid (H.out.up hb1)
      have HL1 := mkHid (HL.out.below (hb1.mono HL.out.bw))
      clear hb1
      go_wp2_with fail
      refine (sdemand_any _ H1.out _ _).mono ?_
      rintro r w2 ⟨hw2, ⟨hb, rfl⟩ | ⟨hb, rfl⟩⟩
      · exact absurd hb (by simp)
      rw [hw2]
      clear hb hw2 w2
      have c2 := cell_of H1.out.blk 2 (x := .int .i64 x.op) rfl
      rw [hop] at c2
      go_wp2_with fail
      refine (rowG hw w1 HL1.out hBF H1.out hst (by decide) hop hxa ht).mono ?_
      rintro r w3 ⟨hb3, ⟨⟨lo3, st3⟩, vL3, vS3, hr3, rfl, hp3⟩ | ⟨hr3, e3, p3, he3, rfl⟩⟩
      rotate_left
      · exact ⟨rfl, SpOut.fail' (by rw [HRD.out, hr3]; rfl) ((HB1.out.mono HF.out).trans hb3) ⟨e3, p3, he3, rfl⟩⟩
      have hres3 := mkHid hr3
      have HB3 := mkHid ((HB1.out.mono HF.out).trans hb3)
      have H3 := mkHid hp3
      have hp3' : Sp c F P Q x w3 vL3 vS3 lo3 st3 := hp3
      obtain ⟨aS3, cS3, rfl⟩ := own_shape hp3'.oS
      have HL3 := mkHid (HL1.out.below (hb3.mono HBF.out))
      have q0 := cell_of hp3'.blk 0 (x := .pointer (some ⟨P, 0, none⟩)) rfl
      have q6 := cell_of hp3'.blk 6 (x := .slice aS3 st3.length cS3) rfl
      have p11 := cell_of HL3.out.blk 11 (x := .int .i64 c.m.stack) rfl
      have lQ : Q < w3.heap.size := lt_of hp3'.blk
      have lP : P < w3.heap.size := lt_of HL3.out.blk
      clear hb3 hr3 hp3 hp3' c2 hop
      go_wp2_with fail
      refine wp_region_held_drew (S := fun W' => ∀ p : Addr, p.block < w3.heap.size → W'.cell? p = w3.cell? p) (by kernel_rfl) (fun p hp => rfl) fun hH => ?_
      refine ta 0 (.pointer (some ⟨Q, 0, none⟩)) rfl hH ?_
      refine ta 1 (.pointer (some ⟨Q, 0, none⟩)) rfl hH ?_
      refine ta 2 (.pointer (some ⟨Q, 0, none⟩)) rfl hH ?_
      refine ta 3 (.pointer (some ⟨Q, 6, none⟩)) rfl hH ?_
      refine ta 4 (.slice aS3 st3.length cS3) rfl hH ?_
      refine ta 5 (.int .i64 st3.length) rfl hH ?_
      refine ta 6 (.pointer (some ⟨Q, 0, none⟩)) rfl hH ?_
      refine ta 7 (.pointer (some ⟨Q, 0, none⟩)) rfl hH ?_
      refine ta 8 (.pointer (some ⟨Q, 0, none⟩)) rfl hH ?_
      refine ta 9 (.pointer (some ⟨P, 0, none⟩)) rfl hH ?_
      refine ta 10 (.pointer (some ⟨P, 0, none⟩)) rfl hH ?_
      refine ta 11 (.pointer (some ⟨P, 6, none⟩)) rfl hH ?_
      refine ta 12 (.pointer (some ⟨P, 11, none⟩)) rfl hH ?_
      refine ta 13 (.int .i64 c.m.stack) rfl hH ?_
      refine ta 14 (.bool (decide ((st3.length : Int) ≤ c.m.stack))) rfl hH ?_
      refine wpAnyH_ready (rs := [15]) (by kernel_rfl) (by simp) ?_
      refine AllReadyH.cons rfl (fun K15 hK15 => ?_) AllReadyH.nil
      go_simp
      refine (sdemand_any _ (H3.out.up (Below.refl _ _).drew) _ _).mono ?_
      rintro r w4 ⟨hw4, ⟨hb, rfl⟩ | ⟨hb, rfl⟩⟩
      · exact ⟨rfl, by rw [hw4]; exact SpOut.fail' (by rw [HRD.out, hres3.out]; show (if decide ((st3.length : Int) ≤ c.m.stack) = true then _ else _) = _; rw [hb]; rfl) HB3.out.drew ⟨2, _, by decide, rfl⟩⟩
      rw [hw4]
      have HOK4 := mkHid hb
      clear hb hw4 w4
      refine hK15.out _ _ (fun p hp => rfl) fun hH => ?_
      refine wpAnyH_done (by kernel_rfl) ?_ _
      clear hH
      try simp only [Act.put, List.setIfInBounds_toArray, List.set_cons_zero, List.set_cons_succ, List.getElem_toArray, List.getElem_cons_zero, List.getElem_cons_succ]
      go_wp2_with fail
      go_end0
      exact SpOut.ok (by rw [HRD.out, hres3.out]; show (if decide ((st3.length : Int) ≤ c.m.stack) = true then _ else _) = _; rw [HOK4.out]; rfl) HB3.out.drew (H3.out.up (Below.refl _ _).drew)
set_option maxRecDepth 100000 in
set_option maxHeartbeats 4000000 in
theorem run_thing2 {c : Lkr} {B P : Nat} {v : LkV} (hw : Wf c) {x : Cd.Op4} {n : Int} (hn : n = 18 ∨ n = 19 ∨ n = 20 ∨ n = 30) (hop : x.op = n) (hxa : x.op ≠ 1 → 0 ≤ x.a) (hxb : 0 ≤ x.b) : RunOk c B P v x := by
  rcases hn with rfl | rfl | rfl | rfl
  all_goals
    intro W F Q vL vS lo st hl hBF h hst hlo
    have HU := mkHid hlo
    clear HU
    have H := mkHid h
    have HL := mkHid hl
    have HW := mkHid hw
    have HTL := mkHid (tells_any W hl h hw.fl hxa)
    have HF : Hid (F ≤ W.heap.size) := h.ff
    have HBF := mkHid hBF
    cases ht : tellsD c x lo.length with
    | false =>
      have HRD : Hid (runD c x lo st = none) := by show _ = _; unfold runD; rw [ht]; rfl
      rw [ht] at HTL
      clear h hl
      go_enter Tryz.func92, Tryz.ntmps92
      go_wp2_with fail
      refine HTL.out.mono ?_
      rintro r w1 ⟨rfl, hb1⟩
      have HB1 := mkHid hb1
      clear hb1
      go_wp2_with fail
      refine (sdemand_any _ (H.out.up HB1.out) _ _).mono ?_
      rintro r w2 ⟨hw2, ⟨hb, rfl⟩ | ⟨hb, rfl⟩⟩
      · exact ⟨rfl, by rw [hw2]; exact SpOut.fail' HRD.out (HB1.out.mono HF.out) ⟨3, _, by decide, rfl⟩⟩
      · exact absurd hb (by simp)
    | true =>
      have HRD : Hid (runD c x lo st = (thingD c x lo st).bind fun r => if decide ((r.2.length : Int) ≤ c.m.stack) then some r else none) := by
        show _ = _
        unfold runD spawnD workD
        rw [ht, hop]
        rfl
      rw [ht] at HTL
      clear h hl
      go_enter Tryz.func92, Tryz.ntmps92
      go_wp2_with fail
      refine HTL.out.mono ?_
      rintro r w1 ⟨rfl, hb1⟩
      have HB1 := mkHid hb1
      have H1 := mkHid (H.out.up hb1)
      have HL1 := mkHid (HL.out.below (hb1.mono HL.out.bw))
      clear hb1
      go_wp2_with fail
      refine (sdemand_any _ H1.out _ _).mono ?_
      rintro r w2 ⟨hw2, ⟨hb, rfl⟩ | ⟨hb, rfl⟩⟩
      · exact absurd hb (by simp)
      rw [hw2]
      clear hb hw2 w2
      have c2 := cell_of H1.out.blk 2 (x := .int .i64 x.op) rfl
      rw [hop] at c2
      go_wp2_with fail
      refine (thingH hw w1 HL1.out hBF H1.out hst (by decide) hop hxa hxb ht).mono ?_
      rintro r w3 ⟨hb3, ⟨⟨lo3, st3⟩, vL3, vS3, hr3, rfl, hp3⟩ | ⟨hr3, e3, p3, he3, rfl⟩⟩
      rotate_left
      · exact ⟨rfl, SpOut.fail' (by rw [HRD.out, hr3]; rfl) ((HB1.out.mono HF.out).trans hb3) ⟨e3, p3, he3, rfl⟩⟩
      have hres3 := mkHid hr3
      have HB3 := mkHid ((HB1.out.mono HF.out).trans hb3)
      have H3 := mkHid hp3
      have hp3' : Sp c F P Q x w3 vL3 vS3 lo3 st3 := hp3
      obtain ⟨aS3, cS3, rfl⟩ := own_shape hp3'.oS
      have HL3 := mkHid (HL1.out.below (hb3.mono HBF.out))
      have q0 := cell_of hp3'.blk 0 (x := .pointer (some ⟨P, 0, none⟩)) rfl
      have q6 := cell_of hp3'.blk 6 (x := .slice aS3 st3.length cS3) rfl
      have p11 := cell_of HL3.out.blk 11 (x := .int .i64 c.m.stack) rfl
      have lQ : Q < w3.heap.size := lt_of hp3'.blk
      have lP : P < w3.heap.size := lt_of HL3.out.blk
      clear hb3 hr3 hp3 hp3' c2 hop
      go_wp2_with fail
      refine wp_region_held_drew (S := fun W' => ∀ p : Addr, p.block < w3.heap.size → W'.cell? p = w3.cell? p) (by kernel_rfl) (fun p hp => rfl) fun hH => ?_
      refine ta 0 (.pointer (some ⟨Q, 0, none⟩)) rfl hH ?_
      refine ta 1 (.pointer (some ⟨Q, 0, none⟩)) rfl hH ?_
      refine ta 2 (.pointer (some ⟨Q, 0, none⟩)) rfl hH ?_
      refine ta 3 (.pointer (some ⟨Q, 6, none⟩)) rfl hH ?_
      refine ta 4 (.slice aS3 st3.length cS3) rfl hH ?_
      refine ta 5 (.int .i64 st3.length) rfl hH ?_
      refine ta 6 (.pointer (some ⟨Q, 0, none⟩)) rfl hH ?_
      refine ta 7 (.pointer (some ⟨Q, 0, none⟩)) rfl hH ?_
      refine ta 8 (.pointer (some ⟨Q, 0, none⟩)) rfl hH ?_
      refine ta 9 (.pointer (some ⟨P, 0, none⟩)) rfl hH ?_
      refine ta 10 (.pointer (some ⟨P, 0, none⟩)) rfl hH ?_
      refine ta 11 (.pointer (some ⟨P, 6, none⟩)) rfl hH ?_
      refine ta 12 (.pointer (some ⟨P, 11, none⟩)) rfl hH ?_
      refine ta 13 (.int .i64 c.m.stack) rfl hH ?_
      refine ta 14 (.bool (decide ((st3.length : Int) ≤ c.m.stack))) rfl hH ?_
      refine wpAnyH_ready (rs := [15]) (by kernel_rfl) (by simp) ?_
      refine AllReadyH.cons rfl (fun K15 hK15 => ?_) AllReadyH.nil
      go_simp
      refine (sdemand_any _ (H3.out.up (Below.refl _ _).drew) _ _).mono ?_
      rintro r w4 ⟨hw4, ⟨hb, rfl⟩ | ⟨hb, rfl⟩⟩
      · exact ⟨rfl, by rw [hw4]; exact SpOut.fail' (by rw [HRD.out, hres3.out]; show (if decide ((st3.length : Int) ≤ c.m.stack) = true then _ else _) = _; rw [hb]; rfl) HB3.out.drew ⟨2, _, by decide, rfl⟩⟩
      rw [hw4]
      have HOK4 := mkHid hb
      clear hb hw4 w4
      refine hK15.out _ _ (fun p hp => rfl) fun hH => ?_
      refine wpAnyH_done (by kernel_rfl) ?_ _
      clear hH
      try simp only [Act.put, List.setIfInBounds_toArray, List.set_cons_zero, List.set_cons_succ, List.getElem_toArray, List.getElem_cons_zero, List.getElem_cons_succ]
      go_wp2_with fail
      go_end0
      exact SpOut.ok (by rw [HRD.out, hres3.out]; show (if decide ((st3.length : Int) ≤ c.m.stack) = true then _ else _) = _; rw [HOK4.out]; rfl) HB3.out.drew (H3.out.up (Below.refl _ _).drew)
end Go.Proofs.YtfibgdcpbkaaoaaGreatDoor
