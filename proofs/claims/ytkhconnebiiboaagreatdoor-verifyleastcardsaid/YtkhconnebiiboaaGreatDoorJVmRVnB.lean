/- What operations' runs are. -/
import Derived.Test.YtkhconnebiiboaaGreatDoorVmE
import Derived.Test.YtkhconnebiiboaaGreatDoorVmG
import Derived.Test.YtkhconnebiiboaaGreatDoorVmQ
import Derived.Test.YtkhconnebiiboaaGreatDoorJVmUVnN
import Derived.Test.YtkhconnebiiboaaGreatDoorJLFiLBeg
namespace Go.Proofs.YtkhconnebiiboaaGreatDoor
open Go.RowKit Go.Maps

set_option maxRecDepth 100000 in
set_option maxHeartbeats 4000000 in
theorem run_1 {c : Lkr} {B P : Nat} {v : LkV} (hw : Wf c) {x : Cd.Op4} (hop : x.op = 1) (hxa : x.op ≠ 1 → 0 ≤ x.a) : RunOk c B P v x := by
  intro W F Q vL vS lo st hl hBF h hst hlo
  have HU := mkHid hlo
  clear HU
  have H := mkHid h
  have HL := mkHid hl
  have HW := mkHid hw
  have HTL := mkHid (tells_any W hl h hw.fl hxa)
  have HF : Hid (F ≤ W.heap.size) := h.ff
  have HBF := mkHid hBF
  cases ht : tellsD c x lo.length with
  | false =>
    have HRD : Hid (runD c x lo st = none) := by show _ = _; unfold runD; rw [ht]; rfl
    rw [ht] at HTL
    clear h hl
    go_enter Tryz.func90, Tryz.ntmps90
    go_wp2_with fail
    refine HTL.out.mono ?_
    rintro r w1 ⟨rfl, hb1⟩
    have HB1 := mkHid hb1
    clear hb1
    go_wp2_with fail
    refine (sdemand_any _ (H.out.up HB1.out) _ _).mono ?_
    rintro r w2 ⟨hw2, ⟨hb, rfl⟩ | ⟨hb, rfl⟩⟩
    · exact ⟨rfl, by rw [hw2]; exact SpOut.fail' HRD.out (HB1.out.mono HF.out) ⟨3, _, by decide, rfl⟩⟩
    · exact absurd hb (by simp)
  | true =>
    have HRD : Hid (runD c x lo st = (stackD c x lo st).bind fun r => if decide ((r.2.length : Int) ≤ c.m.stack) then some r else none) := by
      show _ = _
      unfold runD spawnD workD
      rw [ht, hop]
      rfl
    rw [ht] at HTL
    clear h hl
    go_enter Tryz.func90, Tryz.ntmps90
    go_wp2_with fail
    refine HTL.out.mono ?_
    rintro r w1 ⟨rfl, hb1⟩
    have HB1 := mkHid hb1
    have H1 := mkHid (H.out.up hb1)
    have HL1 := mkHid (HL.out.below (hb1.mono HL.out.bw))
    clear hb1
    go_wp2_with fail
    refine (sdemand_any _ H1.out _ _).mono ?_
    rintro r w2 ⟨hw2, ⟨hb, rfl⟩ | ⟨hb, rfl⟩⟩
    · exact absurd hb (by simp)
    rw [hw2]
    clear hb hw2 w2
    have c2 : w1.cell? ⟨Q, 2, none⟩ = some (.int .i64 1) := by rw [← hop]; exact cell_of H1.out.blk 2 rfl
    go_wp2_with fail
    refine (stackD_1 hw w1 HL1.out hBF H1.out hst hop).mono ?_
    rintro r w3 ⟨hb3, ⟨⟨lo3, st3⟩, vL3, vS3, hr3, rfl, hp3⟩ | ⟨hr3, e3, p3, he3, rfl⟩⟩
    rotate_left
    · exact ⟨rfl, SpOut.fail' (by rw [HRD.out, hr3]; rfl) ((HB1.out.mono HF.out).trans hb3) ⟨e3, p3, he3, rfl⟩⟩
    have hres3 := mkHid hr3
    have HB3 := mkHid ((HB1.out.mono HF.out).trans hb3)
    have H3 := mkHid hp3
    have hp3' : Sp c F P Q x w3 vL3 vS3 lo3 st3 := hp3
    obtain ⟨aS3, cS3, rfl⟩ := own_shape hp3'.oS
    have HL3 := mkHid (HL1.out.below (hb3.mono HBF.out))
    have q0 := cell_of hp3'.blk 0 (x := .pointer (some ⟨P, 0, none⟩)) rfl
    have q6 := cell_of hp3'.blk 6 (x := .slice aS3 st3.length cS3) rfl
    have p11 := cell_of HL3.out.blk 11 (x := .int .i64 c.m.stack) rfl
    have lQ : Q < w3.heap.size := lt_of hp3'.blk
    have lP : P < w3.heap.size := lt_of HL3.out.blk
    clear hb3 hr3 hp3 hp3' c2 hop
    go_wp2_with fail
    refine wp_region_held_drew (S := fun W' => ∀ p : Addr, p.block < w3.heap.size → W'.cell? p = w3.cell? p) (by kernel_rfl) (fun p hp => rfl) fun hH => ?_
    refine wpAnyH_take (i := 0) (v := .pointer (some ⟨Q, 0, none⟩)) rfl (by kernel_rfl) (by kernel_rfl) (by kernel_rfl) (fun _ _ _ h => h) (Or.inl ⟨by kernel_rfl, ?_⟩) hH ?_
    · intro w hSw
      go_simp
    refine wpAnyH_take (i := 1) (v := .pointer (some ⟨Q, 0, none⟩)) rfl (by kernel_rfl) (by kernel_rfl) (by kernel_rfl) (fun _ _ _ h => h) (Or.inl ⟨by kernel_rfl, ?_⟩) hH ?_
    · intro w hSw
      go_simp
    refine wpAnyH_take (i := 2) (v := .pointer (some ⟨Q, 0, none⟩)) rfl (by kernel_rfl) (by kernel_rfl) (by kernel_rfl) (fun _ _ _ h => h) (Or.inl ⟨by kernel_rfl, ?_⟩) hH ?_
    · intro w hSw
      go_simp
    refine wpAnyH_take (i := 3) (v := .pointer (some ⟨Q, 6, none⟩)) rfl (by kernel_rfl) (by kernel_rfl) (by kernel_rfl) (fun _ _ _ h => h) (Or.inl ⟨by kernel_rfl, ?_⟩) hH ?_
    · intro w hSw
      go_simp
    refine wpAnyH_take (i := 4) (v := .slice aS3 st3.length cS3) rfl (by kernel_rfl) (by kernel_rfl) (by kernel_rfl) (fun _ _ _ h => h) (Or.inl ⟨by kernel_rfl, ?_⟩) hH ?_
    · intro w hSw
      go_simp
    refine wpAnyH_take (i := 5) (v := .int .i64 st3.length) rfl (by kernel_rfl) (by kernel_rfl) (by kernel_rfl) (fun _ _ _ h => h) (Or.inl ⟨by kernel_rfl, ?_⟩) hH ?_
    · intro w hSw
      go_simp
    refine wpAnyH_take (i := 6) (v := .pointer (some ⟨Q, 0, none⟩)) rfl (by kernel_rfl) (by kernel_rfl) (by kernel_rfl) (fun _ _ _ h => h) (Or.inl ⟨by kernel_rfl, ?_⟩) hH ?_
    · intro w hSw
      go_simp
    refine wpAnyH_take (i := 7) (v := .pointer (some ⟨Q, 0, none⟩)) rfl (by kernel_rfl) (by kernel_rfl) (by kernel_rfl) (fun _ _ _ h => h) (Or.inl ⟨by kernel_rfl, ?_⟩) hH ?_
    · intro w hSw
      go_simp
    refine wpAnyH_take (i := 8) (v := .pointer (some ⟨Q, 0, none⟩)) rfl (by kernel_rfl) (by kernel_rfl) (by kernel_rfl) (fun _ _ _ h => h) (Or.inl ⟨by kernel_rfl, ?_⟩) hH ?_
    · intro w hSw
      go_simp
    refine wpAnyH_take (i := 9) (v := .pointer (some ⟨P, 0, none⟩)) rfl (by kernel_rfl) (by kernel_rfl) (by kernel_rfl) (fun _ _ _ h => h) (Or.inl ⟨by kernel_rfl, ?_⟩) hH ?_
    · intro w hSw
      go_simp
    refine wpAnyH_take (i := 10) (v := .pointer (some ⟨P, 0, none⟩)) rfl (by kernel_rfl) (by kernel_rfl) (by kernel_rfl) (fun _ _ _ h => h) (Or.inl ⟨by kernel_rfl, ?_⟩) hH ?_
    · intro w hSw
      go_simp
    refine wpAnyH_take (i := 11) (v := .pointer (some ⟨P, 6, none⟩)) rfl (by kernel_rfl) (by kernel_rfl) (by kernel_rfl) (fun _ _ _ h => h) (Or.inl ⟨by kernel_rfl, ?_⟩) hH ?_
    · intro w hSw
      go_simp
    refine wpAnyH_take (i := 12) (v := .pointer (some ⟨P, 11, none⟩)) rfl (by kernel_rfl) (by kernel_rfl) (by kernel_rfl) (fun _ _ _ h => h) (Or.inl ⟨by kernel_rfl, ?_⟩) hH ?_
    · intro w hSw
      go_simp
    refine wpAnyH_take (i := 13) (v := .int .i64 c.m.stack) rfl (by kernel_rfl) (by kernel_rfl) (by kernel_rfl) (fun _ _ _ h => h) (Or.inl ⟨by kernel_rfl, ?_⟩) hH ?_
    · intro w hSw
      go_simp
    refine wpAnyH_take (i := 14) (v := .bool (decide ((st3.length : Int) ≤ c.m.stack))) rfl (by kernel_rfl) (by kernel_rfl) (by kernel_rfl) (fun _ _ _ h => h) (Or.inl ⟨by kernel_rfl, ?_⟩) hH ?_
    · intro w hSw
      go_simp
    refine wpAnyH_ready (rs := [15]) (by kernel_rfl) (by simp) ?_
    refine AllReadyH.cons rfl (fun K15 hK15 => ?_) AllReadyH.nil
    go_simp
    refine (sdemand_any _ (H3.out.up (Below.refl _ _).drew) _ _).mono ?_
    rintro r w4 ⟨hw4, ⟨hb, rfl⟩ | ⟨hb, rfl⟩⟩
    · exact ⟨rfl, by rw [hw4]; exact SpOut.fail' (by rw [HRD.out, hres3.out]; show (if decide ((st3.length : Int) ≤ c.m.stack) = true then _ else _) = _; rw [hb]; rfl) HB3.out.drew ⟨2, _, by decide, rfl⟩⟩
    rw [hw4]
    have HOK4 := mkHid hb
    clear hb hw4 w4
    refine hK15.out _ _ (fun p hp => rfl) fun hH => ?_
    refine wpAnyH_done (by kernel_rfl) ?_ _
    clear hH
    try simp only [Act.put, List.setIfInBounds_toArray, List.set_cons_zero, List.set_cons_succ, List.getElem_toArray, List.getElem_cons_zero, List.getElem_cons_succ]
    go_wp2_with fail
    go_end0
    exact SpOut.ok (by rw [HRD.out, hres3.out]; show (if decide ((st3.length : Int) ≤ c.m.stack) = true then _ else _) = _; rw [HOK4.out]; rfl) HB3.out.drew (H3.out.up (Below.refl _ _).drew)
set_option maxRecDepth 100000 in
set_option maxHeartbeats 4000000 in
theorem run_31 {c : Lkr} {B P : Nat} {v : LkV} (hw : Wf c) {x : Cd.Op4} (hop : x.op = 31) (hxa : x.op ≠ 1 → 0 ≤ x.a) : RunOk c B P v x := by
  intro W F Q vL vS lo st hl hBF h hst hlo
  have HU := mkHid hlo
  clear HU
  have H := mkHid h
  have HL := mkHid hl
  have HW := mkHid hw
  have HTL := mkHid (tells_any W hl h hw.fl hxa)
  have HF : Hid (F ≤ W.heap.size) := h.ff
  have HBF := mkHid hBF
  cases ht : tellsD c x lo.length with
  | false =>
    have HRD : Hid (runD c x lo st = none) := by show _ = _; unfold runD; rw [ht]; rfl
    rw [ht] at HTL
    clear h hl
    go_enter Tryz.func90, Tryz.ntmps90
    go_wp2_with fail
    refine HTL.out.mono ?_
    rintro r w1 ⟨rfl, hb1⟩
    have HB1 := mkHid hb1
    clear hb1
    go_wp2_with fail
    refine (sdemand_any _ (H.out.up HB1.out) _ _).mono ?_
    rintro r w2 ⟨hw2, ⟨hb, rfl⟩ | ⟨hb, rfl⟩⟩
    · exact ⟨rfl, by rw [hw2]; exact SpOut.fail' HRD.out (HB1.out.mono HF.out) ⟨3, _, by decide, rfl⟩⟩
    · exact absurd hb (by simp)
  | true =>
    have HRD : Hid (runD c x lo st = (callD c x lo st).bind fun r => if decide ((r.2.length : Int) ≤ c.m.stack) then some r else none) := by
      show _ = _
      unfold runD spawnD workD
      rw [ht, hop]
      rfl
    rw [ht] at HTL
    clear h hl
    go_enter Tryz.func90, Tryz.ntmps90
    go_wp2_with fail
    refine HTL.out.mono ?_
    rintro r w1 ⟨rfl, hb1⟩
    have HB1 := mkHid hb1
    have H1 := mkHid (H.out.up hb1)
    have HL1 := mkHid (HL.out.below (hb1.mono HL.out.bw))
    clear hb1
    go_wp2_with fail
    refine (sdemand_any _ H1.out _ _).mono ?_
    rintro r w2 ⟨hw2, ⟨hb, rfl⟩ | ⟨hb, rfl⟩⟩
    · exact absurd hb (by simp)
    rw [hw2]
    clear hb hw2 w2
    have c2 : w1.cell? ⟨Q, 2, none⟩ = some (.int .i64 31) := by rw [← hop]; exact cell_of H1.out.blk 2 rfl
    go_wp2_with fail
    refine (callD_31 hw w1 HL1.out hBF H1.out hst hop).mono ?_
    rintro r w3 ⟨hb3, ⟨⟨lo3, st3⟩, vL3, vS3, hr3, rfl, hp3⟩ | ⟨hr3, e3, p3, he3, rfl⟩⟩
    rotate_left
    · exact ⟨rfl, SpOut.fail' (by rw [HRD.out, hr3]; rfl) ((HB1.out.mono HF.out).trans hb3) ⟨e3, p3, he3, rfl⟩⟩
    have hres3 := mkHid hr3
    have HB3 := mkHid ((HB1.out.mono HF.out).trans hb3)
    have H3 := mkHid hp3
    have hp3' : Sp c F P Q x w3 vL3 vS3 lo3 st3 := hp3
    obtain ⟨aS3, cS3, rfl⟩ := own_shape hp3'.oS
    have HL3 := mkHid (HL1.out.below (hb3.mono HBF.out))
    have q0 := cell_of hp3'.blk 0 (x := .pointer (some ⟨P, 0, none⟩)) rfl
    have q6 := cell_of hp3'.blk 6 (x := .slice aS3 st3.length cS3) rfl
    have p11 := cell_of HL3.out.blk 11 (x := .int .i64 c.m.stack) rfl
    have lQ : Q < w3.heap.size := lt_of hp3'.blk
    have lP : P < w3.heap.size := lt_of HL3.out.blk
    clear hb3 hr3 hp3 hp3' c2 hop
    go_wp2_with fail
    refine wp_region_held_drew (S := fun W' => ∀ p : Addr, p.block < w3.heap.size → W'.cell? p = w3.cell? p) (by kernel_rfl) (fun p hp => rfl) fun hH => ?_
    refine wpAnyH_take (i := 0) (v := .pointer (some ⟨Q, 0, none⟩)) rfl (by kernel_rfl) (by kernel_rfl) (by kernel_rfl) (fun _ _ _ h => h) (Or.inl ⟨by kernel_rfl, ?_⟩) hH ?_
    · intro w hSw
      go_simp
    refine wpAnyH_take (i := 1) (v := .pointer (some ⟨Q, 0, none⟩)) rfl (by kernel_rfl) (by kernel_rfl) (by kernel_rfl) (fun _ _ _ h => h) (Or.inl ⟨by kernel_rfl, ?_⟩) hH ?_
    · intro w hSw
      go_simp
    refine wpAnyH_take (i := 2) (v := .pointer (some ⟨Q, 0, none⟩)) rfl (by kernel_rfl) (by kernel_rfl) (by kernel_rfl) (fun _ _ _ h => h) (Or.inl ⟨by kernel_rfl, ?_⟩) hH ?_
    · intro w hSw
      go_simp
    refine wpAnyH_take (i := 3) (v := .pointer (some ⟨Q, 6, none⟩)) rfl (by kernel_rfl) (by kernel_rfl) (by kernel_rfl) (fun _ _ _ h => h) (Or.inl ⟨by kernel_rfl, ?_⟩) hH ?_
    · intro w hSw
      go_simp
    refine wpAnyH_take (i := 4) (v := .slice aS3 st3.length cS3) rfl (by kernel_rfl) (by kernel_rfl) (by kernel_rfl) (fun _ _ _ h => h) (Or.inl ⟨by kernel_rfl, ?_⟩) hH ?_
    · intro w hSw
      go_simp
    refine wpAnyH_take (i := 5) (v := .int .i64 st3.length) rfl (by kernel_rfl) (by kernel_rfl) (by kernel_rfl) (fun _ _ _ h => h) (Or.inl ⟨by kernel_rfl, ?_⟩) hH ?_
    · intro w hSw
      go_simp
    refine wpAnyH_take (i := 6) (v := .pointer (some ⟨Q, 0, none⟩)) rfl (by kernel_rfl) (by kernel_rfl) (by kernel_rfl) (fun _ _ _ h => h) (Or.inl ⟨by kernel_rfl, ?_⟩) hH ?_
    · intro w hSw
      go_simp
    refine wpAnyH_take (i := 7) (v := .pointer (some ⟨Q, 0, none⟩)) rfl (by kernel_rfl) (by kernel_rfl) (by kernel_rfl) (fun _ _ _ h => h) (Or.inl ⟨by kernel_rfl, ?_⟩) hH ?_
    · intro w hSw
      go_simp
    refine wpAnyH_take (i := 8) (v := .pointer (some ⟨Q, 0, none⟩)) rfl (by kernel_rfl) (by kernel_rfl) (by kernel_rfl) (fun _ _ _ h => h) (Or.inl ⟨by kernel_rfl, ?_⟩) hH ?_
    · intro w hSw
      go_simp
    refine wpAnyH_take (i := 9) (v := .pointer (some ⟨P, 0, none⟩)) rfl (by kernel_rfl) (by kernel_rfl) (by kernel_rfl) (fun _ _ _ h => h) (Or.inl ⟨by kernel_rfl, ?_⟩) hH ?_
    · intro w hSw
      go_simp
    refine wpAnyH_take (i := 10) (v := .pointer (some ⟨P, 0, none⟩)) rfl (by kernel_rfl) (by kernel_rfl) (by kernel_rfl) (fun _ _ _ h => h) (Or.inl ⟨by kernel_rfl, ?_⟩) hH ?_
    · intro w hSw
      go_simp
    refine wpAnyH_take (i := 11) (v := .pointer (some ⟨P, 6, none⟩)) rfl (by kernel_rfl) (by kernel_rfl) (by kernel_rfl) (fun _ _ _ h => h) (Or.inl ⟨by kernel_rfl, ?_⟩) hH ?_
    · intro w hSw
      go_simp
    refine wpAnyH_take (i := 12) (v := .pointer (some ⟨P, 11, none⟩)) rfl (by kernel_rfl) (by kernel_rfl) (by kernel_rfl) (fun _ _ _ h => h) (Or.inl ⟨by kernel_rfl, ?_⟩) hH ?_
    · intro w hSw
      go_simp
    refine wpAnyH_take (i := 13) (v := .int .i64 c.m.stack) rfl (by kernel_rfl) (by kernel_rfl) (by kernel_rfl) (fun _ _ _ h => h) (Or.inl ⟨by kernel_rfl, ?_⟩) hH ?_
    · intro w hSw
      go_simp
    refine wpAnyH_take (i := 14) (v := .bool (decide ((st3.length : Int) ≤ c.m.stack))) rfl (by kernel_rfl) (by kernel_rfl) (by kernel_rfl) (fun _ _ _ h => h) (Or.inl ⟨by kernel_rfl, ?_⟩) hH ?_
    · intro w hSw
      go_simp
    refine wpAnyH_ready (rs := [15]) (by kernel_rfl) (by simp) ?_
    refine AllReadyH.cons rfl (fun K15 hK15 => ?_) AllReadyH.nil
    go_simp
    refine (sdemand_any _ (H3.out.up (Below.refl _ _).drew) _ _).mono ?_
    rintro r w4 ⟨hw4, ⟨hb, rfl⟩ | ⟨hb, rfl⟩⟩
    · exact ⟨rfl, by rw [hw4]; exact SpOut.fail' (by rw [HRD.out, hres3.out]; show (if decide ((st3.length : Int) ≤ c.m.stack) = true then _ else _) = _; rw [hb]; rfl) HB3.out.drew ⟨2, _, by decide, rfl⟩⟩
    rw [hw4]
    have HOK4 := mkHid hb
    clear hb hw4 w4
    refine hK15.out _ _ (fun p hp => rfl) fun hH => ?_
    refine wpAnyH_done (by kernel_rfl) ?_ _
    clear hH
    try simp only [Act.put, List.setIfInBounds_toArray, List.set_cons_zero, List.set_cons_succ, List.getElem_toArray, List.getElem_cons_zero, List.getElem_cons_succ]
    go_wp2_with fail
    go_end0
    exact SpOut.ok (by rw [HRD.out, hres3.out]; show (if decide ((st3.length : Int) ≤ c.m.stack) = true then _ else _) = _; rw [HOK4.out]; rfl) HB3.out.drew (H3.out.up (Below.refl _ _).drew)
set_option maxRecDepth 100000 in
set_option maxHeartbeats 4000000 in
theorem run_27 {c : Lkr} {B P : Nat} {v : LkV} (hw : Wf c) {x : Cd.Op4} (hop : x.op = 27) (hxa : x.op ≠ 1 → 0 ≤ x.a) (hrs : c.m.ret.cls.size ≤ maxLen) : RunOk c B P v x := by
  intro W F Q vL vS lo st hl hBF h hst hlo
  have HU := mkHid hlo
  clear HU
  have H := mkHid h
  have HL := mkHid hl
  have HW := mkHid hw
  have HTL := mkHid (tells_any W hl h hw.fl hxa)
  have HF : Hid (F ≤ W.heap.size) := h.ff
  have HBF := mkHid hBF
  cases ht : tellsD c x lo.length with
  | false =>
    have HRD : Hid (runD c x lo st = none) := by show _ = _; unfold runD; rw [ht]; rfl
    rw [ht] at HTL
    clear h hl
    go_enter Tryz.func90, Tryz.ntmps90
    go_wp2_with fail
    refine HTL.out.mono ?_
    rintro r w1 ⟨rfl, hb1⟩
    have HB1 := mkHid hb1
    clear hb1
    go_wp2_with fail
    refine (sdemand_any _ (H.out.up HB1.out) _ _).mono ?_
    rintro r w2 ⟨hw2, ⟨hb, rfl⟩ | ⟨hb, rfl⟩⟩
    · exact ⟨rfl, by rw [hw2]; exact SpOut.fail' HRD.out (HB1.out.mono HF.out) ⟨3, _, by decide, rfl⟩⟩
    · exact absurd hb (by simp)
  | true =>
    have HRD : Hid (runD c x lo st = (callD c x lo st).bind fun r => if decide ((r.2.length : Int) ≤ c.m.stack) then some r else none) := by
      show _ = _
      unfold runD spawnD workD
      rw [ht, hop]
      rfl
    rw [ht] at HTL
    clear h hl
    go_enter Tryz.func90, Tryz.ntmps90
    go_wp2_with fail
    refine HTL.out.mono ?_
    rintro r w1 ⟨rfl, hb1⟩
    have HB1 := mkHid hb1
    have H1 := mkHid (H.out.up hb1)
    have HL1 := mkHid (HL.out.below (hb1.mono HL.out.bw))
    clear hb1
    go_wp2_with fail
    refine (sdemand_any _ H1.out _ _).mono ?_
    rintro r w2 ⟨hw2, ⟨hb, rfl⟩ | ⟨hb, rfl⟩⟩
    · exact absurd hb (by simp)
    rw [hw2]
    clear hb hw2 w2
    have c2 : w1.cell? ⟨Q, 2, none⟩ = some (.int .i64 27) := by rw [← hop]; exact cell_of H1.out.blk 2 rfl
    go_wp2_with fail
    refine (callD_27 hw w1 HL1.out hBF H1.out hst hop hrs).mono ?_
    rintro r w3 ⟨hb3, ⟨⟨lo3, st3⟩, vL3, vS3, hr3, rfl, hp3⟩ | ⟨hr3, e3, p3, he3, rfl⟩⟩
    rotate_left
    · exact ⟨rfl, SpOut.fail' (by rw [HRD.out, hr3]; rfl) ((HB1.out.mono HF.out).trans hb3) ⟨e3, p3, he3, rfl⟩⟩
    have hres3 := mkHid hr3
    have HB3 := mkHid ((HB1.out.mono HF.out).trans hb3)
    have H3 := mkHid hp3
    have hp3' : Sp c F P Q x w3 vL3 vS3 lo3 st3 := hp3
    obtain ⟨aS3, cS3, rfl⟩ := own_shape hp3'.oS
    have HL3 := mkHid (HL1.out.below (hb3.mono HBF.out))
    have q0 := cell_of hp3'.blk 0 (x := .pointer (some ⟨P, 0, none⟩)) rfl
    have q6 := cell_of hp3'.blk 6 (x := .slice aS3 st3.length cS3) rfl
    have p11 := cell_of HL3.out.blk 11 (x := .int .i64 c.m.stack) rfl
    have lQ : Q < w3.heap.size := lt_of hp3'.blk
    have lP : P < w3.heap.size := lt_of HL3.out.blk
    clear hb3 hr3 hp3 hp3' c2 hop
    go_wp2_with fail
    refine wp_region_held_drew (S := fun W' => ∀ p : Addr, p.block < w3.heap.size → W'.cell? p = w3.cell? p) (by kernel_rfl) (fun p hp => rfl) fun hH => ?_
    refine wpAnyH_take (i := 0) (v := .pointer (some ⟨Q, 0, none⟩)) rfl (by kernel_rfl) (by kernel_rfl) (by kernel_rfl) (fun _ _ _ h => h) (Or.inl ⟨by kernel_rfl, ?_⟩) hH ?_
    · intro w hSw
      go_simp
    refine wpAnyH_take (i := 1) (v := .pointer (some ⟨Q, 0, none⟩)) rfl (by kernel_rfl) (by kernel_rfl) (by kernel_rfl) (fun _ _ _ h => h) (Or.inl ⟨by kernel_rfl, ?_⟩) hH ?_
    · intro w hSw
      go_simp
    refine wpAnyH_take (i := 2) (v := .pointer (some ⟨Q, 0, none⟩)) rfl (by kernel_rfl) (by kernel_rfl) (by kernel_rfl) (fun _ _ _ h => h) (Or.inl ⟨by kernel_rfl, ?_⟩) hH ?_
    · intro w hSw
      go_simp
    refine wpAnyH_take (i := 3) (v := .pointer (some ⟨Q, 6, none⟩)) rfl (by kernel_rfl) (by kernel_rfl) (by kernel_rfl) (fun _ _ _ h => h) (Or.inl ⟨by kernel_rfl, ?_⟩) hH ?_
    · intro w hSw
      go_simp
    refine wpAnyH_take (i := 4) (v := .slice aS3 st3.length cS3) rfl (by kernel_rfl) (by kernel_rfl) (by kernel_rfl) (fun _ _ _ h => h) (Or.inl ⟨by kernel_rfl, ?_⟩) hH ?_
    · intro w hSw
      go_simp
    refine wpAnyH_take (i := 5) (v := .int .i64 st3.length) rfl (by kernel_rfl) (by kernel_rfl) (by kernel_rfl) (fun _ _ _ h => h) (Or.inl ⟨by kernel_rfl, ?_⟩) hH ?_
    · intro w hSw
      go_simp
    refine wpAnyH_take (i := 6) (v := .pointer (some ⟨Q, 0, none⟩)) rfl (by kernel_rfl) (by kernel_rfl) (by kernel_rfl) (fun _ _ _ h => h) (Or.inl ⟨by kernel_rfl, ?_⟩) hH ?_
    · intro w hSw
      go_simp
    refine wpAnyH_take (i := 7) (v := .pointer (some ⟨Q, 0, none⟩)) rfl (by kernel_rfl) (by kernel_rfl) (by kernel_rfl) (fun _ _ _ h => h) (Or.inl ⟨by kernel_rfl, ?_⟩) hH ?_
    · intro w hSw
      go_simp
    refine wpAnyH_take (i := 8) (v := .pointer (some ⟨Q, 0, none⟩)) rfl (by kernel_rfl) (by kernel_rfl) (by kernel_rfl) (fun _ _ _ h => h) (Or.inl ⟨by kernel_rfl, ?_⟩) hH ?_
    · intro w hSw
      go_simp
    refine wpAnyH_take (i := 9) (v := .pointer (some ⟨P, 0, none⟩)) rfl (by kernel_rfl) (by kernel_rfl) (by kernel_rfl) (fun _ _ _ h => h) (Or.inl ⟨by kernel_rfl, ?_⟩) hH ?_
    · intro w hSw
      go_simp
    refine wpAnyH_take (i := 10) (v := .pointer (some ⟨P, 0, none⟩)) rfl (by kernel_rfl) (by kernel_rfl) (by kernel_rfl) (fun _ _ _ h => h) (Or.inl ⟨by kernel_rfl, ?_⟩) hH ?_
    · intro w hSw
      go_simp
    refine wpAnyH_take (i := 11) (v := .pointer (some ⟨P, 6, none⟩)) rfl (by kernel_rfl) (by kernel_rfl) (by kernel_rfl) (fun _ _ _ h => h) (Or.inl ⟨by kernel_rfl, ?_⟩) hH ?_
    · intro w hSw
      go_simp
    refine wpAnyH_take (i := 12) (v := .pointer (some ⟨P, 11, none⟩)) rfl (by kernel_rfl) (by kernel_rfl) (by kernel_rfl) (fun _ _ _ h => h) (Or.inl ⟨by kernel_rfl, ?_⟩) hH ?_
    · intro w hSw
      go_simp
    refine wpAnyH_take (i := 13) (v := .int .i64 c.m.stack) rfl (by kernel_rfl) (by kernel_rfl) (by kernel_rfl) (fun _ _ _ h => h) (Or.inl ⟨by kernel_rfl, ?_⟩) hH ?_
    · intro w hSw
      go_simp
    refine wpAnyH_take (i := 14) (v := .bool (decide ((st3.length : Int) ≤ c.m.stack))) rfl (by kernel_rfl) (by kernel_rfl) (by kernel_rfl) (fun _ _ _ h => h) (Or.inl ⟨by kernel_rfl, ?_⟩) hH ?_
    · intro w hSw
      go_simp
    refine wpAnyH_ready (rs := [15]) (by kernel_rfl) (by simp) ?_
    refine AllReadyH.cons rfl (fun K15 hK15 => ?_) AllReadyH.nil
    go_simp
    refine (sdemand_any _ (H3.out.up (Below.refl _ _).drew) _ _).mono ?_
    rintro r w4 ⟨hw4, ⟨hb, rfl⟩ | ⟨hb, rfl⟩⟩
    · exact ⟨rfl, by rw [hw4]; exact SpOut.fail' (by rw [HRD.out, hres3.out]; show (if decide ((st3.length : Int) ≤ c.m.stack) = true then _ else _) = _; rw [hb]; rfl) HB3.out.drew ⟨2, _, by decide, rfl⟩⟩
    rw [hw4]
    have HOK4 := mkHid hb
    clear hb hw4 w4
    refine hK15.out _ _ (fun p hp => rfl) fun hH => ?_
    refine wpAnyH_done (by kernel_rfl) ?_ _
    clear hH
    try simp only [Act.put, List.setIfInBounds_toArray, List.set_cons_zero, List.set_cons_succ, List.getElem_toArray, List.getElem_cons_zero, List.getElem_cons_succ]
    go_wp2_with fail
    go_end0
    exact SpOut.ok (by rw [HRD.out, hres3.out]; show (if decide ((st3.length : Int) ≤ c.m.stack) = true then _ else _) = _; rw [HOK4.out]; rfl) HB3.out.drew (H3.out.up (Below.refl _ _).drew)
end Go.Proofs.YtkhconnebiiboaaGreatDoor
/- What must be in any case, of methods' states. -/
namespace Go.Proofs.YtkhconnebiiboaaGreatDoor
open Go.RowKit Go.Maps

def bm0 : MethD := ((baseDL[0]?.getD cls0).meths[0]?).getD methZ
def begunB : Bool := match statesD (linkD baseDL) (lnN baseDL) bm0 0 with
  | some s => decide (s.S.length = 3) && ((s.S[1]?).getD st0).comes && decide (((s.S[1]?).getD st0).stack.length = 1)
  | none => false
theorem begun_ok : begunB = true := by kernel_rfl
theorem bm0_code : Cd.full bm0.code = .ok [⟨0, 1, 7, 0⟩, ⟨3, 31, 0, 0⟩, ⟨4, 27, 0, 0⟩] := by kernel_rfl
theorem begun_st : ∃ s, statesD (linkD baseDL) (lnN baseDL) bm0 0 = some s ∧ s.S.length = 3 ∧ ∃ h : 1 < s.S.length, s.S[1].comes = true ∧ s.S[1].stack.length = 1 := by
  have h := begun_ok
  unfold begunB at h
  split at h
  · rename_i s hs
    rw [Bool.and_eq_true, Bool.and_eq_true, decide_eq_true_iff, decide_eq_true_iff] at h
    have h1 : 1 < s.S.length := by omega
    rw [List.getElem?_eq_getElem h1] at h
    exact ⟨s, hs, h.1.1, h1, h.1.2, h.2⟩
  · cases h
theorem bm0_mem : ∃ c ∈ baseDL, bm0 ∈ c.meths := ⟨_, List.mem_cons_self, List.mem_cons_self⟩
theorem base_run : ∀ l B P v n, Cd.full bm0.code = .ok l → n < l.length → RunOk ⟨linkD baseDL, lnN baseDL, bm0, l⟩ B P v (Cd.get4 l n) := fun l B P v n h hn => by
  obtain ⟨c, hc, hm⟩ := bm0_mem
  have hw := wf_link base_tie hc hm h
  rw [bm0_code] at h
  cases h
  have hn' : n < 3 := hn
  match n, hn' with
  | 0, _ => exact run_1 hw rfl (fun h => absurd rfl h)
  | 1, _ => exact run_31 hw rfl (fun _ => Int.le_refl _)
  | 2, _ => exact run_27 hw rfl (fun _ => Int.le_refl _) (Nat.zero_le _)
theorem base_method (w : World) (B : Nat) (aC aS aF aN aT : Option Addr) (cC cS cF cN cT : Nat) (hk : RLk (· < B) w (.slice aC (linkD baseDL).classes.length cC) (.slice aS (linkD baseDL).supers.length cS) (.slice aF (linkD baseDL).fields.length cF) (.slice aN (linkD baseDL).names.length cN) (.slice aT (linkD baseDL).targets.length cT) (linkD baseDL)) (hB : B ≤ w.heap.size) (hg : GlK w) (hT : Cd.Tabs w) :
    Calls Tryz.prog 10 #[.agg #[.slice aC (linkD baseDL).classes.length cC, .slice aS (linkD baseDL).supers.length cS, .slice aF (linkD baseDL).fields.length cF, .slice aN (linkD baseDL).names.length cN, .slice aT (linkD baseDL).targets.length cT], .int .i64 ((0 : Nat) : Int), .int .i64 ((0 : Nat) : Int)] w fun r w' => MthOut (statesD (linkD baseDL) (lnN baseDL) bm0 0) r w w' := by
  obtain ⟨c, hc, hm⟩ := bm0_mem
  have mo := meth_ok base_tie hc hm
  exact Method_any w B aC aS aF aN aT cC cS cF cN cT (linkD baseDL) hk hB hg hT (chk_link base_tie) (by decide) (lnN baseDL) 0 0 (by decide) (by decide) bm0 rfl (cls_link base_tie) mo.lc.2 mo.na mo.ga (fun l hl => wf_link base_tie hc hm hl) base_run (fun l _ h hh => by cases hh)
set_option maxRecDepth 100000 in
set_option maxHeartbeats 4000000 in
theorem verifyBegun_any (w : World) (hg : GlK w) (hT : Cd.Tabs w) : Calls Tryz.prog 4 #[] w fun r w' => r = .returned (.bool true) ∧ Below w.heap.size w w' := by
  obtain ⟨bl, hbl⟩ : ∃ bl, bl = baseDL := ⟨_, rfl⟩
  obtain ⟨bd, hbd⟩ : ∃ bd, bd = linkD bl := ⟨_, rfl⟩
  obtain ⟨s, hs0, hs3, h1s, hs1, hs2⟩ := begun_st
  have HBA : Hid (Calls Tryz.prog 9 #[] w fun r w' => Below w.heap.size w w' ∧ ∃ v, r = .returned v ∧ SL 4 RC (· < w'.heap.size) w' v bl) := by
    show Calls _ _ _ _ _
    rw [hbl]
    exact base_anyL w
  have HLK : Hid (∀ w B v, SL 4 RC (· < B) w v bl → B ≤ w.heap.size → Calls Tryz.prog 6 #[v] w fun r w' => Below w.heap.size w w' ∧ ∃ kC kS kF kN kT, r = .returned (.tuple #[.agg #[kC, kS, kF, kN, kT], .int .i64 0]) ∧ RLk (· < w'.heap.size) w' kC kS kF kN kT bd) := fun w B v hv hB => (Link_any w B bl v hv hB).mono fun r w' ⟨hb, h⟩ => by
    rcases h with ⟨-, kC, kS, kF, kN, kT, h1, h2⟩ | ⟨h0, -⟩
    · exact ⟨hb, kC, kS, kF, kN, kT, h1, hbd ▸ h2.mono fun k h => h.2⟩
    · exact absurd (hbl ▸ base_tie) h0
  have HMT : Hid (∀ (w : World) (B : Nat) (aC aS aF aN aT : Option Addr) (cC cS cF cN cT : Nat), RLk (· < B) w (.slice aC bd.classes.length cC) (.slice aS bd.supers.length cS) (.slice aF bd.fields.length cF) (.slice aN bd.names.length cN) (.slice aT bd.targets.length cT) bd → B ≤ w.heap.size → GlK w → Cd.Tabs w → Calls Tryz.prog 10 #[.agg #[.slice aC bd.classes.length cC, .slice aS bd.supers.length cS, .slice aF bd.fields.length cF, .slice aN bd.names.length cN, .slice aT bd.targets.length cT], .int .i64 0, .int .i64 0] w fun r w' => Below w.heap.size w w' ∧ ∃ v, r = .returned (.tuple #[v, .agg #[.int .i64 0, .int .i64 0]]) ∧ SL 3 RSt (fun k => w.heap.size ≤ k ∧ k < w'.heap.size) w' v s.S) := fun W B aC aS aF aN aT cC cS cF cN cT hk hB hgW hTW => by
    subst hbl
    subst hbd
    refine (base_method W B aC aS aF aN aT cC cS cF cN cT hk hB hgW hTW).mono ?_
    rintro r w' ⟨hb, ⟨s', v, e, h1, h2⟩ | ⟨e, -⟩⟩
    · rw [hs0] at e
      cases e
      exact ⟨hb, v, h1, h2⟩
    · rw [hs0] at e
      cases e
  have HG := mkHid hg
  have HT := mkHid hT
  have HS3 := mkHid hs3
  have HS1 := mkHid hs1
  have HS2 := mkHid hs2
  clear hbl hbd hg hT hs0 hs3 hs1 hs2
  go_enter Tryz.func4, Tryz.ntmps4
  go_wp2_with fail
  refine HBA.out.mono ?_
  rintro r w1 ⟨hb1, v, rfl, sv⟩
  have HB1 := mkHid hb1
  have HSV := mkHid sv
  obtain ⟨a0, c0, rfl, -⟩ := sv
  clear hb1
  go_wp2_with fail
  refine (HLK.out w1 w1.heap.size _ HSV.out (Nat.le_refl _)).mono ?_
  rintro r w2 ⟨hb2, kC, kS, kF, kN, kT, rfl, hk⟩
  obtain ⟨aC, cC, aS, cS, aF, cF, aN, cN, aT, cT, rfl, rfl, rfl, rfl, rfl⟩ := hk.agg
  have HB2 := mkHid (HB1.out.trans (hb2.mono HB1.out.size))
  have HB3 := mkHid ((Below.refl w2.heap.size w2).alloc (Nat.le_refl _) (.cells #[.slice aC bd.classes.length cC, .slice aS bd.supers.length cS, .slice aF bd.fields.length cF, .slice aN bd.names.length cN, .slice aT bd.targets.length cT] 31))
  have HK3 := mkHid (hk.kept (Kp.below HB3.out))
  have HBW3 := mkHid (HB2.out.trans (HB3.out.mono HB2.out.size))
  clear hk hb2 HSV
  go_wp2_with fail
  refine (HMT.out _ w2.heap.size _ _ _ _ _ _ _ _ _ _ HK3.out HB3.out.size (HG.out.below HBW3.out) (HT.out.below HBW3.out)).mono ?_
  rintro r w4 ⟨hb4, v4, rfl, hs4⟩
  have HB4 := mkHid (HBW3.out.trans (hb4.mono HBW3.out.size))
  have hl3 := HS3.out
  obtain ⟨ao, cap, rfl, hcap, -, hel⟩ := hs4
  obtain ⟨b4, o4, cs, e4, -, hb4l, hcs, hcell, vL, vS, rfl, -, hSt⟩ := hel 1 h1s
  subst e4
  have c3 : w4.cell? ⟨b4, o4 + 3, none⟩ = some (.bool true) := by
    have := hcell 0 (by omega)
    rw [HS1.out] at this
    exact this
  obtain ⟨a5, c5, rfl, -⟩ := hSt
  have c5' : w4.cell? ⟨b4, o4 + 3 + 2, none⟩ = some (.slice a5 1 c5) := by
    have := hcell 2 (by omega)
    rw [HS2.out] at this
    exact this
  rw [hl3]
  have HBF := mkHid (fun o => HB4.out.alloc HB4.out.size o)
  clear hel hcell hcs hcap hb4 HK3 hl3
  go_wp2_with fail
  go_ret
  exact ⟨rfl, HBF.out _⟩
end Go.Proofs.YtkhconnebiiboaaGreatDoor
