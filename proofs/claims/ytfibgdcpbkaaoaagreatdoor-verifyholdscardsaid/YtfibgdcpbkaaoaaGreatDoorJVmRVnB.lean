/- What operations' runs are. -/
import Derived.Test.YtfibgdcpbkaaoaaGreatDoorTka
import Derived.Test.YtfibgdcpbkaaoaaGreatDoorVmE
import Derived.Test.YtfibgdcpbkaaoaaGreatDoorVmG
import Derived.Test.YtfibgdcpbkaaoaaGreatDoorVmQ
import Derived.Test.YtfibgdcpbkaaoaaGreatDoorJLTieLBeg
import Derived.Test.YtfibgdcpbkaaoaaGreatDoorJVkNVkF
import Derived.Test.YtfibgdcpbkaaoaaGreatDoorJVmFVkA
import Derived.Test.YtfibgdcpbkaaoaaGreatDoorJVmKVmC
import Derived.Test.YtfibgdcpbkaaoaaGreatDoorJCdDecCdBegun
import Derived.Test.YtfibgdcpbkaaoaaGreatDoorJLSaDVnS
import Derived.Test.YtfibgdcpbkaaoaaGreatDoorCdGoes
namespace Go.Proofs.YtfibgdcpbkaaoaaGreatDoor
open Go.RowKit Go.Maps
set_option maxRecDepth 100000 in
set_option maxHeartbeats 4000000 in
theorem run_1 {c : Lkr} {B P : Nat} {v : LkV} (hw : Wf c) {x : Cd.Op4} (hop : x.op = 1) (hxa : x.op ≠ 1 → 0 ≤ x.a) : RunOk c B P v x := by
  intro W F Q vL vS lo st hl hBF h hst hlo
  have HU := mkHid hlo
  clear HU
  have H := mkHid h
  have HL := mkHid hl
  have HW := mkHid hw
  have HTL := mkHid (tells_any W hl h hw.fl hxa)
  have HF : Hid (F ≤ W.heap.size) := h.ff
  have HBF := mkHid hBF
  cases ht : tellsD c x lo.length with
  | false =>
    have HRD : Hid (runD c x lo st = none) := by show _ = _; unfold runD; rw [ht]; rfl
    rw [ht] at HTL
    clear h hl
    go_enter Tryz.func92, Tryz.ntmps92
    go_wp2_with fail
    refine HTL.out.mono ?_
    rintro r w1 ⟨rfl, hb1⟩
    have HB1 := mkHid hb1
    clear hb1
    go_wp2_with fail
    refine (sdemand_any _ (H.out.up HB1.out) _ _).mono ?_
    rintro r w2 ⟨hw2, ⟨hb, rfl⟩ | ⟨hb, rfl⟩⟩
    · exact ⟨rfl, by rw [hw2]; exact SpOut.fail' HRD.out (HB1.out.mono HF.out) ⟨3, _, by decide, rfl⟩⟩
    · exact absurd hb (by simp)
  | true =>
    have HRD : Hid (runD c x lo st = (stackD c x lo st).bind fun r => if decide ((r.2.length : Int) ≤ c.m.stack) then some r else none) := by
      show _ = _
      unfold runD spawnD workD
      rw [ht, hop]
      rfl
    rw [ht] at HTL
    clear h hl
    go_enter Tryz.func92, Tryz.ntmps92
    go_wp2_with fail
    refine HTL.out.mono ?_
    rintro r w1 ⟨rfl, hb1⟩
    have HB1 := mkHid hb1
    have H1 := mkHid (H.out.up hb1)
    have HL1 := mkHid (HL.out.below (hb1.mono HL.out.bw))
    clear hb1
    go_wp2_with fail
    refine (sdemand_any _ H1.out _ _).mono ?_
    rintro r w2 ⟨hw2, ⟨hb, rfl⟩ | ⟨hb, rfl⟩⟩
    · exact absurd hb (by simp)
    rw [hw2]
    clear hb hw2 w2
    have c2 : w1.cell? ⟨Q, 2, none⟩ = some (.int .i64 1) := by rw [← hop]; exact cell_of H1.out.blk 2 rfl
    go_wp2_with fail
    refine (stackD_1 hw w1 HL1.out hBF H1.out hst hop).mono ?_
    rintro r w3 ⟨hb3, ⟨⟨lo3, st3⟩, vL3, vS3, hr3, rfl, hp3⟩ | ⟨hr3, e3, p3, he3, rfl⟩⟩
    rotate_left
    · exact ⟨rfl, SpOut.fail' (by rw [HRD.out, hr3]; rfl) ((HB1.out.mono HF.out).trans hb3) ⟨e3, p3, he3, rfl⟩⟩
    have hres3 := mkHid hr3
    have HB3 := mkHid ((HB1.out.mono HF.out).trans hb3)
    have H3 := mkHid hp3
    have hp3' : Sp c F P Q x w3 vL3 vS3 lo3 st3 := hp3
    obtain ⟨aS3, cS3, rfl⟩ := own_shape hp3'.oS
    have HL3 := mkHid (HL1.out.below (hb3.mono HBF.out))
    have q0 := cell_of hp3'.blk 0 (x := .pointer (some ⟨P, 0, none⟩)) rfl
    have q6 := cell_of hp3'.blk 6 (x := .slice aS3 st3.length cS3) rfl
    have p11 := cell_of HL3.out.blk 11 (x := .int .i64 c.m.stack) rfl
    have lQ : Q < w3.heap.size := lt_of hp3'.blk
    have lP : P < w3.heap.size := lt_of HL3.out.blk
    clear hb3 hr3 hp3 hp3' c2 hop
    go_wp2_with fail
    refine wp_region_held_drew (S := fun W' => ∀ p : Addr, p.block < w3.heap.size → W'.cell? p = w3.cell? p) (by kernel_rfl) (fun p hp => rfl) fun hH => ?_
    refine ta 0 (.pointer (some ⟨Q, 0, none⟩)) rfl hH ?_
    refine ta 1 (.pointer (some ⟨Q, 0, none⟩)) rfl hH ?_
    refine ta 2 (.pointer (some ⟨Q, 0, none⟩)) rfl hH ?_
    refine ta 3 (.pointer (some ⟨Q, 6, none⟩)) rfl hH ?_
    refine ta 4 (.slice aS3 st3.length cS3) rfl hH ?_
    refine ta 5 (.int .i64 st3.length) rfl hH ?_
    refine ta 6 (.pointer (some ⟨Q, 0, none⟩)) rfl hH ?_
    refine ta 7 (.pointer (some ⟨Q, 0, none⟩)) rfl hH ?_
    refine ta 8 (.pointer (some ⟨Q, 0, none⟩)) rfl hH ?_
    refine ta 9 (.pointer (some ⟨P, 0, none⟩)) rfl hH ?_
    refine ta 10 (.pointer (some ⟨P, 0, none⟩)) rfl hH ?_
    refine ta 11 (.pointer (some ⟨P, 6, none⟩)) rfl hH ?_
    refine ta 12 (.pointer (some ⟨P, 11, none⟩)) rfl hH ?_
    refine ta 13 (.int .i64 c.m.stack) rfl hH ?_
    refine ta 14 (.bool (decide ((st3.length : Int) ≤ c.m.stack))) rfl hH ?_
    refine wpAnyH_ready (rs := [15]) (by kernel_rfl) (by simp) ?_
    refine AllReadyH.cons rfl (fun K15 hK15 => ?_) AllReadyH.nil
    go_simp
    refine (sdemand_any _ (H3.out.up (Below.refl _ _).drew) _ _).mono ?_
    rintro r w4 ⟨hw4, ⟨hb, rfl⟩ | ⟨hb, rfl⟩⟩
    · exact ⟨rfl, by rw [hw4]; exact SpOut.fail' (by rw [HRD.out, hres3.out]; show (if decide ((st3.length : Int) ≤ c.m.stack) = true then _ else _) = _; rw [hb]; rfl) HB3.out.drew ⟨2, _, by decide, rfl⟩⟩
    rw [hw4]
    have HOK4 := mkHid hb
    clear hb hw4 w4
    refine hK15.out _ _ (fun p hp => rfl) fun hH => ?_
    refine wpAnyH_done (by kernel_rfl) ?_ _
    clear hH
    try simp only [Act.put, List.setIfInBounds_toArray, List.set_cons_zero, List.set_cons_succ, List.getElem_toArray, List.getElem_cons_zero, List.getElem_cons_succ]
    go_wp2_with fail
    go_end0
    exact SpOut.ok (by rw [HRD.out, hres3.out]; show (if decide ((st3.length : Int) ≤ c.m.stack) = true then _ else _) = _; rw [HOK4.out]; rfl) HB3.out.drew (H3.out.up (Below.refl _ _).drew)
set_option maxRecDepth 100000 in
set_option maxHeartbeats 4000000 in
theorem run_31 {c : Lkr} {B P : Nat} {v : LkV} (hw : Wf c) {x : Cd.Op4} (hop : x.op = 31) (hxa : x.op ≠ 1 → 0 ≤ x.a) : RunOk c B P v x := by
  intro W F Q vL vS lo st hl hBF h hst hlo
  have HU := mkHid hlo
  clear HU
  have H := mkHid h
  have HL := mkHid hl
  have HW := mkHid hw
  have HTL := mkHid (tells_any W hl h hw.fl hxa)
  have HF : Hid (F ≤ W.heap.size) := h.ff
  have HBF := mkHid hBF
  cases ht : tellsD c x lo.length with
  | false =>
    have HRD : Hid (runD c x lo st = none) := by show _ = _; unfold runD; rw [ht]; rfl
    rw [ht] at HTL
    clear h hl
    go_enter Tryz.func92, Tryz.ntmps92
    go_wp2_with fail
    refine HTL.out.mono ?_
    rintro r w1 ⟨rfl, hb1⟩
    have HB1 := mkHid hb1
    clear hb1
    go_wp2_with fail
    refine (sdemand_any _ (H.out.up HB1.out) _ _).mono ?_
    rintro r w2 ⟨hw2, ⟨hb, rfl⟩ | ⟨hb, rfl⟩⟩
    · exact ⟨rfl, by rw [hw2]; exact SpOut.fail' HRD.out (HB1.out.mono HF.out) ⟨3, _, by decide, rfl⟩⟩
    · exact absurd hb (by simp)
  | true =>
    have HRD : Hid (runD c x lo st = (callD c x lo st).bind fun r => if decide ((r.2.length : Int) ≤ c.m.stack) then some r else none) := by
      show _ = _
      unfold runD spawnD workD
      rw [ht, hop]
      rfl
    rw [ht] at HTL
    clear h hl
    go_enter Tryz.func92, Tryz.ntmps92
    go_wp2_with fail
    refine HTL.out.mono ?_
    rintro r w1 ⟨rfl, hb1⟩
    have HB1 := mkHid hb1
    have H1 := mkHid (H.out.up hb1)
    have HL1 := mkHid (HL.out.below (hb1.mono HL.out.bw))
    clear hb1
    go_wp2_with fail
    refine (sdemand_any _ H1.out _ _).mono ?_
    rintro r w2 ⟨hw2, ⟨hb, rfl⟩ | ⟨hb, rfl⟩⟩
    · exact absurd hb (by simp)
    rw [hw2]
    clear hb hw2 w2
    have c2 : w1.cell? ⟨Q, 2, none⟩ = some (.int .i64 31) := by rw [← hop]; exact cell_of H1.out.blk 2 rfl
    go_wp2_with fail
    refine (callD_31 hw w1 HL1.out hBF H1.out hst hop).mono ?_
    rintro r w3 ⟨hb3, ⟨⟨lo3, st3⟩, vL3, vS3, hr3, rfl, hp3⟩ | ⟨hr3, e3, p3, he3, rfl⟩⟩
    rotate_left
    · exact ⟨rfl, SpOut.fail' (by rw [HRD.out, hr3]; rfl) ((HB1.out.mono HF.out).trans hb3) ⟨e3, p3, he3, rfl⟩⟩
    have hres3 := mkHid hr3
    have HB3 := mkHid ((HB1.out.mono HF.out).trans hb3)
    have H3 := mkHid hp3
    have hp3' : Sp c F P Q x w3 vL3 vS3 lo3 st3 := hp3
    obtain ⟨aS3, cS3, rfl⟩ := own_shape hp3'.oS
    have HL3 := mkHid (HL1.out.below (hb3.mono HBF.out))
    have q0 := cell_of hp3'.blk 0 (x := .pointer (some ⟨P, 0, none⟩)) rfl
    have q6 := cell_of hp3'.blk 6 (x := .slice aS3 st3.length cS3) rfl
    have p11 := cell_of HL3.out.blk 11 (x := .int .i64 c.m.stack) rfl
    have lQ : Q < w3.heap.size := lt_of hp3'.blk
    have lP : P < w3.heap.size := lt_of HL3.out.blk
    clear hb3 hr3 hp3 hp3' c2 hop
    go_wp2_with fail
    refine wp_region_held_drew (S := fun W' => ∀ p : Addr, p.block < w3.heap.size → W'.cell? p = w3.cell? p) (by kernel_rfl) (fun p hp => rfl) fun hH => ?_
    refine ta 0 (.pointer (some ⟨Q, 0, none⟩)) rfl hH ?_
    refine ta 1 (.pointer (some ⟨Q, 0, none⟩)) rfl hH ?_
    refine ta 2 (.pointer (some ⟨Q, 0, none⟩)) rfl hH ?_
    refine ta 3 (.pointer (some ⟨Q, 6, none⟩)) rfl hH ?_
    refine ta 4 (.slice aS3 st3.length cS3) rfl hH ?_
    refine ta 5 (.int .i64 st3.length) rfl hH ?_
    refine ta 6 (.pointer (some ⟨Q, 0, none⟩)) rfl hH ?_
    refine ta 7 (.pointer (some ⟨Q, 0, none⟩)) rfl hH ?_
    refine ta 8 (.pointer (some ⟨Q, 0, none⟩)) rfl hH ?_
    refine ta 9 (.pointer (some ⟨P, 0, none⟩)) rfl hH ?_
    refine ta 10 (.pointer (some ⟨P, 0, none⟩)) rfl hH ?_
    refine ta 11 (.pointer (some ⟨P, 6, none⟩)) rfl hH ?_
    refine ta 12 (.pointer (some ⟨P, 11, none⟩)) rfl hH ?_
    refine ta 13 (.int .i64 c.m.stack) rfl hH ?_
    refine ta 14 (.bool (decide ((st3.length : Int) ≤ c.m.stack))) rfl hH ?_
    refine wpAnyH_ready (rs := [15]) (by kernel_rfl) (by simp) ?_
    refine AllReadyH.cons rfl (fun K15 hK15 => ?_) AllReadyH.nil
    go_simp
    refine (sdemand_any _ (H3.out.up (Below.refl _ _).drew) _ _).mono ?_
    rintro r w4 ⟨hw4, ⟨hb, rfl⟩ | ⟨hb, rfl⟩⟩
    · exact ⟨rfl, by rw [hw4]; exact SpOut.fail' (by rw [HRD.out, hres3.out]; show (if decide ((st3.length : Int) ≤ c.m.stack) = true then _ else _) = _; rw [hb]; rfl) HB3.out.drew ⟨2, _, by decide, rfl⟩⟩
    rw [hw4]
    have HOK4 := mkHid hb
    clear hb hw4 w4
    refine hK15.out _ _ (fun p hp => rfl) fun hH => ?_
    refine wpAnyH_done (by kernel_rfl) ?_ _
    clear hH
    try simp only [Act.put, List.setIfInBounds_toArray, List.set_cons_zero, List.set_cons_succ, List.getElem_toArray, List.getElem_cons_zero, List.getElem_cons_succ]
    go_wp2_with fail
    go_end0
    exact SpOut.ok (by rw [HRD.out, hres3.out]; show (if decide ((st3.length : Int) ≤ c.m.stack) = true then _ else _) = _; rw [HOK4.out]; rfl) HB3.out.drew (H3.out.up (Below.refl _ _).drew)
set_option maxRecDepth 100000 in
set_option maxHeartbeats 4000000 in
theorem run_27 {c : Lkr} {B P : Nat} {v : LkV} (hw : Wf c) {x : Cd.Op4} (hop : x.op = 27) (hxa : x.op ≠ 1 → 0 ≤ x.a) (hrs : c.m.ret.cls.size ≤ maxLen) : RunOk c B P v x := by
  intro W F Q vL vS lo st hl hBF h hst hlo
  have HU := mkHid hlo
  clear HU
  have H := mkHid h
  have HL := mkHid hl
  have HW := mkHid hw
  have HTL := mkHid (tells_any W hl h hw.fl hxa)
  have HF : Hid (F ≤ W.heap.size) := h.ff
  have HBF := mkHid hBF
  cases ht : tellsD c x lo.length with
  | false =>
    have HRD : Hid (runD c x lo st = none) := by show _ = _; unfold runD; rw [ht]; rfl
    rw [ht] at HTL
    clear h hl
    go_enter Tryz.func92, Tryz.ntmps92
    go_wp2_with fail
    refine HTL.out.mono ?_
    rintro r w1 ⟨rfl, hb1⟩
    have HB1 := mkHid hb1
    clear hb1
    go_wp2_with fail
    refine (sdemand_any _ (H.out.up HB1.out) _ _).mono ?_
    rintro r w2 ⟨hw2, ⟨hb, rfl⟩ | ⟨hb, rfl⟩⟩
    · exact ⟨rfl, by rw [hw2]; exact SpOut.fail' HRD.out (HB1.out.mono HF.out) ⟨3, _, by decide, rfl⟩⟩
    · exact absurd hb (by simp)
  | true =>
    have HRD : Hid (runD c x lo st = (callD c x lo st).bind fun r => if decide ((r.2.length : Int) ≤ c.m.stack) then some r else none) := by
      show _ = _
      unfold runD spawnD workD
      rw [ht, hop]
      rfl
    rw [ht] at HTL
    clear h hl
    go_enter Tryz.func92, Tryz.ntmps92
    go_wp2_with fail
    refine HTL.out.mono ?_
    rintro r w1 ⟨rfl, hb1⟩
    have HB1 := mkHid hb1
    have H1 := mkHid (H.out.up hb1)
    have HL1 := mkHid (HL.out.below (hb1.mono HL.out.bw))
    clear hb1
    go_wp2_with fail
    refine (sdemand_any _ H1.out _ _).mono ?_
    rintro r w2 ⟨hw2, ⟨hb, rfl⟩ | ⟨hb, rfl⟩⟩
    · exact absurd hb (by simp)
    rw [hw2]
    clear hb hw2 w2
    have c2 : w1.cell? ⟨Q, 2, none⟩ = some (.int .i64 27) := by rw [← hop]; exact cell_of H1.out.blk 2 rfl
    go_wp2_with fail
    refine (callD_27 hw w1 HL1.out hBF H1.out hst hop hrs).mono ?_
    rintro r w3 ⟨hb3, ⟨⟨lo3, st3⟩, vL3, vS3, hr3, rfl, hp3⟩ | ⟨hr3, e3, p3, he3, rfl⟩⟩
    rotate_left
    · exact ⟨rfl, SpOut.fail' (by rw [HRD.out, hr3]; rfl) ((HB1.out.mono HF.out).trans hb3) ⟨e3, p3, he3, rfl⟩⟩
    have hres3 := mkHid hr3
    have HB3 := mkHid ((HB1.out.mono HF.out).trans hb3)
    have H3 := mkHid hp3
    have hp3' : Sp c F P Q x w3 vL3 vS3 lo3 st3 := hp3
    obtain ⟨aS3, cS3, rfl⟩ := own_shape hp3'.oS
    have HL3 := mkHid (HL1.out.below (hb3.mono HBF.out))
    have q0 := cell_of hp3'.blk 0 (x := .pointer (some ⟨P, 0, none⟩)) rfl
    have q6 := cell_of hp3'.blk 6 (x := .slice aS3 st3.length cS3) rfl
    have p11 := cell_of HL3.out.blk 11 (x := .int .i64 c.m.stack) rfl
    have lQ : Q < w3.heap.size := lt_of hp3'.blk
    have lP : P < w3.heap.size := lt_of HL3.out.blk
    clear hb3 hr3 hp3 hp3' c2 hop
    go_wp2_with fail
    refine wp_region_held_drew (S := fun W' => ∀ p : Addr, p.block < w3.heap.size → W'.cell? p = w3.cell? p) (by kernel_rfl) (fun p hp => rfl) fun hH => ?_
    refine ta 0 (.pointer (some ⟨Q, 0, none⟩)) rfl hH ?_
    refine ta 1 (.pointer (some ⟨Q, 0, none⟩)) rfl hH ?_
    refine ta 2 (.pointer (some ⟨Q, 0, none⟩)) rfl hH ?_
    refine ta 3 (.pointer (some ⟨Q, 6, none⟩)) rfl hH ?_
    refine ta 4 (.slice aS3 st3.length cS3) rfl hH ?_
    refine ta 5 (.int .i64 st3.length) rfl hH ?_
    refine ta 6 (.pointer (some ⟨Q, 0, none⟩)) rfl hH ?_
    refine ta 7 (.pointer (some ⟨Q, 0, none⟩)) rfl hH ?_
    refine ta 8 (.pointer (some ⟨Q, 0, none⟩)) rfl hH ?_
    refine ta 9 (.pointer (some ⟨P, 0, none⟩)) rfl hH ?_
    refine ta 10 (.pointer (some ⟨P, 0, none⟩)) rfl hH ?_
    refine ta 11 (.pointer (some ⟨P, 6, none⟩)) rfl hH ?_
    refine ta 12 (.pointer (some ⟨P, 11, none⟩)) rfl hH ?_
    refine ta 13 (.int .i64 c.m.stack) rfl hH ?_
    refine ta 14 (.bool (decide ((st3.length : Int) ≤ c.m.stack))) rfl hH ?_
    refine wpAnyH_ready (rs := [15]) (by kernel_rfl) (by simp) ?_
    refine AllReadyH.cons rfl (fun K15 hK15 => ?_) AllReadyH.nil
    go_simp
    refine (sdemand_any _ (H3.out.up (Below.refl _ _).drew) _ _).mono ?_
    rintro r w4 ⟨hw4, ⟨hb, rfl⟩ | ⟨hb, rfl⟩⟩
    · exact ⟨rfl, by rw [hw4]; exact SpOut.fail' (by rw [HRD.out, hres3.out]; show (if decide ((st3.length : Int) ≤ c.m.stack) = true then _ else _) = _; rw [hb]; rfl) HB3.out.drew ⟨2, _, by decide, rfl⟩⟩
    rw [hw4]
    have HOK4 := mkHid hb
    clear hb hw4 w4
    refine hK15.out _ _ (fun p hp => rfl) fun hH => ?_
    refine wpAnyH_done (by kernel_rfl) ?_ _
    clear hH
    try simp only [Act.put, List.setIfInBounds_toArray, List.set_cons_zero, List.set_cons_succ, List.getElem_toArray, List.getElem_cons_zero, List.getElem_cons_succ]
    go_wp2_with fail
    go_end0
    exact SpOut.ok (by rw [HRD.out, hres3.out]; show (if decide ((st3.length : Int) ≤ c.m.stack) = true then _ else _) = _; rw [HOK4.out]; rfl) HB3.out.drew (H3.out.up (Below.refl _ _).drew)
end Go.Proofs.YtfibgdcpbkaaoaaGreatDoor
/- Lines of classes that hang together, plain (where the document's own reading is not there): who is under whom, and the lowest one above two. -/
namespace Go.Proofs.YtfibgdcpbkaaoaaGreatDoor
open Go.RowKit
theorem climb_stop (l : List ClassD) : ∀ (f : Nat) (n : Int), (climb l f n).length < f → climb l (f + 1) n = climb l f n
  | 0, n, h => by simp at h
  | f + 1, n, h => by
    by_cases h0 : 0 ≤ n
    · rw [climb, if_pos h0, List.length_cons] at h
      have e1 : climb l (f + 1 + 1) n = n.toNat :: climb l (f + 1) (supAt l n.toNat) := by rw [climb, if_pos h0]
      have e2 : climb l (f + 1) n = n.toNat :: climb l f (supAt l n.toNat) := by rw [climb, if_pos h0]
      rw [e1, e2, climb_stop l f _ (by omega)]
    · rw [climb_end h0, climb_end h0]
theorem line_ne (l : List ClassD) (n : Nat) : lineOf l n ≠ [] := by
  rw [lineOf, climb, if_pos (by omega)]
  simp
theorem line_step {l : List ClassD} (h5 : askNone l = true) {i n : Nat} (hi : i < l.length) (hs : supAt l i = n) : lineOf l i = lineOf l n ++ [i] ∧ n < l.length := by
  have hn : n < l.length := by have := (num_le l (clsAt l i).super).2; have e : supAt l i = num l (clsAt l i).super := rfl; omega
  have hlen : (lineOf l i).length ≤ l.length := by simpa using List.all_eq_true.1 h5 i (List.mem_range.2 hi)
  have e1 : climb l (l.length + 1) i = i :: climb l l.length n := by
    rw [climb_go _ (by omega)]
    simp [hs]
  have h2 : (climb l l.length n).length < l.length := by
    rw [lineOf, e1] at hlen
    simp at hlen
    omega
  refine ⟨?_, hn⟩
  rw [lineOf, e1, lineOf, climb_stop l _ _ h2, List.reverse_cons]
theorem line_top {l : List ClassD} {i : Nat} (hs : supAt l i < 0) : lineOf l i = [i] := by
  rw [lineOf, climb_go _ (by omega)]
  simp only [Int.toNat_natCast]
  rw [climb_end (by omega)]
  rfl
theorem name_ne {s : ByteArray} (h : isNameB s = true) : s ≠ ⟨#[]⟩ := by
  rintro rfl
  revert h
  decide
theorem class_name {c : ClassD} (h : checkClass c = 0) : c.name ≠ ⟨#[]⟩ := by
  unfold checkClass at h
  exact name_ne (dem_zero h (by decide)).1
theorem no_nil {l : List ClassD} (h : checkL l = 0) : num l ⟨#[]⟩ < 0 := by
  have h1 : hasC l ⟨#[]⟩ = false := by
    rw [hasC, hasC_mem, List.any_eq_false]
    intro c hc
    have hcc : checkClass c = 0 := by
      unfold checkL at h
      exact allE_zero (dem_zero h (by decide)).2 c hc
    have := class_name hcc
    simpa using fun e => this e.symm
  simpa [hasC] using h1
theorem askRes_zero {g : Nat} {e : Int} {a : Bool} {l : List QD} (h : askRes (⟨g, e, a⟩ :: l) = 0) (he : e ≠ 0) : a = true ∧ askRes l = 0 := by
  rw [askRes] at h
  cases a with
  | true => exact ⟨rfl, by simpa using h⟩
  | false => exact absurd (by simpa using h) he
theorem tie_asks {l : List ClassD} (h : tieRes l = 0) : askNames l = true ∧ askTop l = true ∧ askUpper l = true ∧ askSupers l = true ∧ askNone l = true ∧ askError l = true ∧ askTold l = true ∧ askParts l = true ∧ askSame l = true ∧ askFew l = true := by
  have hc := tie_chk h
  rw [tieRes, if_pos hc] at h
  obtain ⟨h1, h⟩ := askRes_zero h (by decide)
  obtain ⟨h2, h⟩ := askRes_zero h (by decide)
  obtain ⟨h3, h⟩ := askRes_zero h (by decide)
  obtain ⟨h4, h⟩ := askRes_zero h (by decide)
  obtain ⟨h5, h⟩ := askRes_zero h (by decide)
  obtain ⟨h6, h⟩ := askRes_zero h (by decide)
  obtain ⟨h7, h⟩ := askRes_zero h (by decide)
  obtain ⟨h8, h⟩ := askRes_zero h (by decide)
  obtain ⟨h9, h⟩ := askRes_zero h (by decide)
  obtain ⟨h10, -⟩ := askRes_zero h (by decide)
  exact ⟨h1, h2, h3, h4, h5, h6, h7, h8, h9, h10⟩
theorem eqL_refl {α : Type} {p : α → α → Bool} (h : ∀ x, p x x = true) : ∀ l : List α, eqL p l l = true
  | [] => rfl
  | x :: l => by rw [eqL, h, eqL_refl h l]; rfl
theorem makes_linkD (l : List ClassD) : makesB l (linkD l) = true := by
  rw [makesB]
  simp only [linkD]
  rw [eqL_refl (fun x => by simp [sameI]), eqL_refl (eqL_refl fun x => by simp [sameF, sameK]), eqL_refl (eqL_refl fun x => by simp [sameS]), eqL_refl (eqL_refl fun x => by simp [sameT])]
  rfl
theorem num_own_get (l : List ClassD) : askNames l = true → ∀ (i : Nat) (hi : i < l.length), num l l[i].name = i := by
  induction l using snoc_ind with
  | h0 => intro _ i hi; cases hi
  | h1 l c ih =>
    intro h i hi
    have h' : differB ((l ++ [c]).map (·.name)) = true := h
    rw [differ_names_snoc, Bool.and_eq_true] at h'
    obtain ⟨h1, h2⟩ := h'
    rw [num_snoc]
    by_cases hl : i < l.length
    · have e : (l ++ [c])[i] = l[i] := List.getElem_append_left hl
      have h3 := ih h1 i hl
      rw [e, if_neg, h3]
      intro hc
      rw [hc, h3] at h2
      simp at h2
    · have hi' : i = l.length := by simp at hi; omega
      subst hi'
      have e : (l ++ [c])[l.length] = c := by simp
      rw [e, if_pos rfl]
structure Hang (l : List ClassD) : Prop where
  names : askNames l = true
  top : askTop l = true
  upper : askUpper l = true
  supers : askSupers l = true
  none : askNone l = true
  nil : num l ⟨#[]⟩ < 0
theorem Hang.of {l : List ClassD} (h : tieRes l = 0) : Hang l := by
  obtain ⟨h1, h2, h3, h4, h5, -⟩ := tie_asks h
  exact ⟨h1, h2, h3, h4, h5, no_nil (tie_chk h)⟩
theorem Hang.lk {d : LinkD} (h : okLk d = true) : Hang d.classes := by
  rw [okLk, Bool.and_eq_true, decide_eq_true_iff] at h
  exact Hang.of h.1
theorem num_own {l : List ClassD} (hn : askNames l = true) {i : Nat} (hi : i < l.length) : num l (clsAt l i).name = i := by
  rw [clsAt_eq hi]
  exact num_own_get l hn i hi
theorem Hang.sup {l : List ClassD} (h : Hang l) {i : Nat} (hi : i < l.length) : (supAt l i < 0 ∧ (i : Int) = num l topName) ∨ ∃ n : Nat, supAt l i = n ∧ n < l.length := by
  by_cases hs : (clsAt l i).super = ⟨#[]⟩
  · refine Or.inl ⟨by rw [supAt, hs]; exact h.nil, ?_⟩
    have h1 := List.all_eq_true.1 h.upper l[i] (List.getElem_mem hi)
    rw [clsAt_eq hi] at hs
    simp [hs] at h1
    rw [← h1, ← clsAt_eq hi, num_own h.names hi]
  · refine Or.inr ?_
    have h1 := List.all_eq_true.1 h.supers l[i] (List.getElem_mem hi)
    rw [clsAt_eq hi] at hs
    have h2 : hasC l l[i].super = true := by simpa [hs] using h1
    have h3 : 0 ≤ supAt l i := by rw [supAt, clsAt_eq hi]; simpa [hasC] using h2
    have h4 : supAt l i < l.length := (num_le l (clsAt l i).super).2
    exact ⟨(supAt l i).toNat, by omega, by omega⟩
theorem Hang.ind {l : List ClassD} (h : Hang l) {P : Nat → Prop} (h0 : ∀ i, i < l.length → lineOf l i = [i] → (i : Int) = num l topName → P i)
    (h1 : ∀ i n : Nat, i < l.length → n < l.length → supAt l i = n → lineOf l i = lineOf l n ++ [i] → P n → P i) : ∀ i, i < l.length → P i := by
  have key : ∀ d i, i < l.length → (lineOf l i).length ≤ d → P i := by
    intro d
    induction d with
    | zero => intro i _ hl; exact absurd (List.eq_nil_of_length_eq_zero (by omega)) (line_ne l i)
    | succ d ih =>
      intro i hi hl
      rcases h.sup hi with ⟨h2, h3⟩ | ⟨n, hs, hn⟩
      · exact h0 i hi (line_top h2) h3
      · obtain ⟨e, hnl⟩ := line_step h.none hi hs
        exact h1 i n hi hnl hs e (ih n hnl (by rw [e] at hl; simp at hl; omega))
  exact fun i hi => key _ i hi (Nat.le_refl _)
theorem Hang.root {l : List ClassD} (h : Hang l) : ∀ i, i < l.length → (num l topName).toNat ∈ lineOf l i :=
  h.ind (fun _ _ e ht => by rw [e, ← ht]; simp) (fun _ _ _ _ _ e ih => by rw [e]; exact List.mem_append_left _ ih)
theorem Hang.last {l : List ClassD} (h : Hang l) : ∀ i, i < l.length → ∃ X, lineOf l i = X ++ [i] :=
  h.ind (fun _ _ e _ => ⟨[], e⟩) (fun _ _ _ _ _ e _ => ⟨_, e⟩)
theorem Hang.self {l : List ClassD} (h : Hang l) {i : Nat} (hi : i < l.length) : i ∈ lineOf l i := by
  obtain ⟨X, e⟩ := h.last i hi
  rw [e]
  simp
theorem Hang.pre {l : List ClassD} (h : Hang l) : ∀ i, i < l.length → ∀ u ∈ lineOf l i, u < l.length ∧ ∃ R, lineOf l i = lineOf l u ++ R :=
  h.ind (fun i hi e _ u hu => by
    rw [e] at hu
    obtain rfl := List.mem_singleton.1 hu
    exact ⟨hi, [], by simp⟩) (fun i n hi _ _ e ih u hu => by
    rw [e] at hu
    rcases List.mem_append.1 hu with h1 | h1
    · obtain ⟨h2, R, h3⟩ := ih u h1
      exact ⟨h2, R ++ [i], by rw [e, h3, List.append_assoc]⟩
    · obtain rfl := List.mem_singleton.1 h1
      exact ⟨hi, [], by simp⟩)
theorem Hang.trans {l : List ClassD} (h : Hang l) {a b c : Nat} (ha : a < l.length) (hab : b ∈ lineOf l a) (hbc : c ∈ lineOf l b) : c ∈ lineOf l a := by
  obtain ⟨_, R, e⟩ := h.pre a ha b hab
  rw [e]
  exact List.mem_append_left _ hbc
structure Abv (l : List ClassD) (x y n : Nat) : Prop where
  lt : n < l.length
  ex : ∃ R, lineOf l x = lineOf l n ++ R ∧ ∀ u ∈ R, u ∉ lineOf l y
  mem : n ∈ lineOf l y
theorem Abv.exists {l : List ClassD} (h : Hang l) {y : Nat} (hy : y < l.length) : ∀ x, x < l.length → ∃ n, Abv l x y n :=
  h.ind (fun i hi e ht => ⟨i, hi, ⟨[], by simp, fun u hu => by cases hu⟩, by have := h.root y hy; rwa [← ht] at this⟩) (fun i n hi hn _ e ⟨m, hm, ⟨R, e1, h1⟩, h2⟩ => by
    by_cases hiy : i ∈ lineOf l y
    · exact ⟨i, hi, ⟨[], by simp, fun u hu => by cases hu⟩, hiy⟩
    · exact ⟨m, hm, ⟨R ++ [i], by rw [e, e1, List.append_assoc], fun u hu => by
        rcases List.mem_append.1 hu with h3 | h3
        · exact h1 u h3
        · rw [List.mem_singleton.1 h3]; exact hiy⟩, h2⟩)
def aboveG (l : List ClassD) (x y : Nat) : Nat := ((lineOf l x).reverse.find? fun u => decide (u ∈ lineOf l y)).getD 0
theorem Abv.eq {l : List ClassD} (h : Hang l) {x y n : Nat} (ha : Abv l x y n) : aboveG l x y = n := by
  obtain ⟨hn, ⟨R, e, hR⟩, hm⟩ := ha
  obtain ⟨X, eX⟩ := h.last n hn
  have h1 : (R.reverse.find? fun u => decide (u ∈ lineOf l y)) = none := by
    rw [List.find?_eq_none]
    intro u hu
    have := hR u (List.mem_reverse.1 hu)
    simpa using this
  rw [aboveG, e, List.reverse_append, List.find?_append, h1, eX, List.reverse_append]
  simp [hm]
theorem Abv.of {l : List ClassD} (h : Hang l) {x y : Nat} (hx : x < l.length) (hy : y < l.length) : Abv l x y (aboveG l x y) := by
  obtain ⟨n, hn⟩ := Abv.exists h hy x hx
  rw [hn.eq h]
  exact hn
theorem Abv.left {l : List ClassD} {x y n : Nat} (h : Hang l) (ha : Abv l x y n) : n ∈ lineOf l x := by
  obtain ⟨hn, ⟨R, e, _⟩, _⟩ := ha
  rw [e]
  exact List.mem_append_left _ (h.self hn)
set_option maxHeartbeats 1000000 in
theorem choose_any (c : Int) (n : Nat) (h1 : -9223372036854775808 ≤ c) (h2 : c ≤ 9223372036854775807) (hn : 0 < n) (hn' : n ≤ 10) : ∃ m : Nat, m < n ∧ ∀ w, Calls Tryz.prog 8 #[.int .i64 c, .int .i64 (n : Int)] w fun r w' => r = .returned (.int .i64 (m : Int)) ∧ w' = w := by
  have hz : ((n : Int) == 0) = false := beq_eq_false_iff_ne.2 (by omega)
  have hz1 : ¬ (n : Int) = 0 := by omega
  by_cases hc : c < 0
  · refine ⟨((-(c + 1)) % n).toNat, ?_, fun w => ?_⟩
    · have h3 := Int.emod_lt_of_pos (-(c + 1)) (by omega : (0 : Int) < n)
      have h4 := Int.emod_nonneg (-(c + 1)) (by omega : (n : Int) ≠ 0)
      omega
    · go_enter Tryz.func8, Tryz.ntmps8
      go_wp2_with fail
      go_ret
      exact ⟨by show Ending.returned (.int .i64 (-((c + 1).tmod n))) = _; rw [← Int.neg_tmod, Int.tmod_eq_emod_of_nonneg (by omega), Int.toNat_of_nonneg (Int.emod_nonneg _ (by omega))], rfl⟩
  · refine ⟨(c % n).toNat, ?_, fun w => ?_⟩
    · have h3 := Int.emod_lt_of_pos c (by omega : (0 : Int) < n)
      have h4 := Int.emod_nonneg c (by omega : (n : Int) ≠ 0)
      omega
    · go_enter Tryz.func8, Tryz.ntmps8
      go_wp2_with fail
      go_ret
      exact ⟨by show Ending.returned (.int .i64 (c % n)) = Ending.returned (.int .i64 (max (c % n) 0)); rw [Int.max_eq_left (Int.emod_nonneg _ (by omega))], rfl⟩
end Go.Proofs.YtfibgdcpbkaaoaaGreatDoor
/- Linked classes' lines, by names; linked classes pass their check: plain. -/
namespace Go.Proofs.YtfibgdcpbkaaoaaGreatDoor
open Go.RowKit
def lnN (l : List ClassD) (s : ByteArray) : List ByteArray := ((lineOf l (num l s).toNat).reverse).map fun n => (clsAt l n).name
theorem num_get {l : List ClassD} (hn : askNames l = true) {s : ByteArray} (hs : 0 ≤ num l s) : ∃ n, ∃ h : n < l.length, num l s = n ∧ l[n].name = s := by
  have h1 := hasC_mem l s
  rw [decide_eq_true hs] at h1
  obtain ⟨c, hc, e⟩ := List.any_eq_true.1 h1.symm
  obtain ⟨n, h, rfl⟩ := List.getElem_of_mem hc
  have e' : s = l[n].name := by simpa using e
  exact ⟨n, h, by rw [e', num_own_get l hn n h], e'.symm⟩
theorem cls_link {l : List ClassD} (h : tieRes l = 0) : Cls (linkD l) (lnN l) := by
  obtain ⟨hn, ht, -, -, h5, -⟩ := tie_asks h
  have hg := Hang.of h
  have hkt : 0 ≤ num l topName := by
    have := (Bool.and_eq_true _ _ ▸ ht : hasC l topName = true ∧ hasC l errName = true).1
    simpa [hasC] using this
  have hsup : ∀ n (h : n < l.length), ((List.range l.length).map (supAt l))[n]'(by simpa using h) = supAt l n := fun n h => by simp
  have hnL : ∀ n (h : n < l.length), lnN l l[n].name = ((lineOf l n).reverse).map fun k => (clsAt l k).name := fun n h => by rw [lnN, num_own_get l hn n h]; rfl
  refine ⟨by simp [linkD], fun s hs => num_get hn hs, fun n hl => ?_, fun n hl => num_own_get l hn n hl, fun n hl e => ?_, hkt⟩
  · replace hl : n < l.length := hl
    rcases hg.sup hl with ⟨hneg, -⟩ | ⟨m, e, hm⟩
    · refine Or.inl ⟨?_, ?_⟩
      · refine (hsup n hl).trans ?_
        have := (num_le l (clsAt l n).super).1
        have e : supAt l n = num l (clsAt l n).super := rfl
        omega
      · show lnN l l[n].name = [l[n].name]
        rw [hnL n hl, line_top hneg]
        simp [clsAt_eq hl]
    · refine Or.inr ⟨m, hm, ?_, ?_, ?_⟩
      · exact (hsup n hl).trans e
      · show l[n].super = l[m].name
        have e2 : num l l[n].super = m := by rw [← e, supAt, clsAt_eq hl]
        obtain ⟨m', hm', e3, e4⟩ := num_get hn (s := l[n].super) (by omega)
        obtain rfl : m' = m := by omega
        exact e4.symm
      · show lnN l l[n].name = l[n].name :: lnN l l[m].name
        rw [hnL n hl, hnL m hm, (line_step h5 hl e).1]
        simp [clsAt_eq hl]
  · have e' : supAt l n = -1 := (hsup n hl).symm.trans e
    rcases hg.sup hl with ⟨-, e2⟩ | ⟨m, e2, -⟩
    · obtain ⟨m, hm, e3, e4⟩ := num_get hn hkt
      obtain rfl : m = n := by omega
      exact e4
    · omega
theorem chk_link {l : List ClassD} (h : tieRes l = 0) : chkRes (linkD l) [] = 0 := by
  have : okLk (linkD l) = true := by
    rw [okLk, Bool.and_eq_true, decide_eq_true_iff]
    exact ⟨h, makes_linkD l⟩
  rw [chkRes, if_pos this]
  rfl
end Go.Proofs.YtfibgdcpbkaaoaaGreatDoor
/- Kinds that may be asked of, told twice: as package verify asks, and plainly. -/
namespace Go.Proofs.YtfibgdcpbkaaoaaGreatDoor
open Go.RowKit
end Go.Proofs.YtfibgdcpbkaaoaaGreatDoor
/- What linked classes' methods are, where they pass their checks: plain. -/
namespace Go.Proofs.YtfibgdcpbkaaoaaGreatDoor
open Go.RowKit
theorem right_gd {l : List ClassD} {k : KindD} (h : rightB k = true) (hk : knowsK l k = true) : GdK (fun s => 0 ≤ num l s) k := by
  unfold rightB at h
  split at h
  · rename_i hc
    refine Or.inl ⟨by simpa [hasCls] using hc, ?_⟩
    unfold knowsK at hk
    rcases Bool.or_eq_true _ _ ▸ hk with h2 | h2
    · exact absurd (of_decide_eq_true h2) (name_ne h)
    · exact of_decide_eq_true h2
  · rw [Bool.and_eq_true, Bool.or_eq_true, decide_eq_true_iff, decide_eq_true_iff, decide_eq_true_iff] at h
    have hn : k.cls = noNm := by
      obtain ⟨kd, ⟨a⟩⟩ := k
      have : a = #[] := Array.eq_empty_of_size_eq_zero h.2
      subst this
      rfl
    rcases h.1 with e | e
    · exact Or.inr (Or.inl (by cases k; simp at hn e; rw [hn, e]; rfl))
    · exact Or.inr (Or.inr (Or.inl (by cases k; simp at hn e; rw [hn, e]; rfl)))
theorem ret_gd {l : List ClassD} {k : KindD} (h : returnedB k = true) (hk : knowsK l k = true) : k.kind = 0 ∨ GdK (fun s => 0 ≤ num l s) k := by
  unfold returnedB at h
  rcases Bool.or_eq_true _ _ ▸ h with h1 | h1
  · exact Or.inr (right_gd h1 hk)
  · exact Or.inl (by have := (Bool.and_eq_true _ _ ▸ h1).1; exact of_decide_eq_true this)
structure MthOk (l : List ClassD) (m : MethD) : Prop where
  na : m.args.length ≤ 4
  ga : ∀ k ∈ m.args, GdK (fun s => 0 ≤ num l s) k
  rt : m.ret.kind = 0 ∨ GdK (fun s => 0 ≤ num l s) m.ret
  st : 0 ≤ m.stack ∧ m.stack ≤ 10
  lc : 0 ≤ m.locals ∧ m.locals ≤ 10
  hk : ∀ h ∈ m.hands, 0 ≤ num l h.cls
theorem meth_ok {l : List ClassD} (h : tieRes l = 0) {c : ClassD} (hc : c ∈ l) {m : MethD} (hm : m ∈ c.meths) : MthOk l m := by
  have hck := tie_chk h
  obtain ⟨-, -, -, -, -, -, h7, -⟩ := tie_asks h
  unfold checkL at hck
  have h1 := allE_zero (dem_zero hck (by decide)).2 c hc
  unfold checkClass at h1
  have h2 := (dem_zero (dem_zero (dem_zero (dem_zero h1 (by decide)).2 (by decide)).2 (by decide)).2 (by decide)).2
  have h3 : allE checkMeth c.meths = 0 := by
    unfold thenE at h2
    split at h2
    · exact h2
    · rename_i hx; exact absurd h2 hx
  have h4 := allE_zero h3 m hm
  unfold checkMeth at h4
  obtain ⟨-, h4⟩ := dem_zero h4 (by decide)
  obtain ⟨q1, h4⟩ := dem_zero h4 (by decide)
  obtain ⟨-, h4⟩ := dem_zero h4 (by decide)
  obtain ⟨-, h4⟩ := dem_zero h4 (by decide)
  obtain ⟨q2, h4⟩ := dem_zero h4 (by decide)
  obtain ⟨q3, h4⟩ := dem_zero h4 (by decide)
  have h5 : allE checkArg m.args = 0 ∧ dem (returnedB m.ret) 7 (allE checkHand m.hands) = 0 := by
    unfold thenE at h4
    split at h4
    · rename_i hx; exact ⟨hx, h4⟩
    · rename_i hx; exact absurd h4 hx
  obtain ⟨q4, -⟩ := dem_zero h5.2 (by decide)
  have hkn : knowsM l m = true := by
    unfold askTold at h7
    have := List.all_eq_true.1 h7 c hc
    rw [Bool.and_eq_true] at this
    exact List.all_eq_true.1 this.2 m hm
  unfold knowsM at hkn
  rw [Bool.and_eq_true, Bool.and_eq_true] at hkn
  unfold win at q2 q3
  rw [Bool.and_eq_true, decide_eq_true_iff, decide_eq_true_iff] at q2 q3
  exact ⟨of_decide_eq_true q1, fun k hk => right_gd (by have := allE_zero h5.1 k hk; unfold checkArg at this; exact (dem_zero this (by decide)).1) (List.all_eq_true.1 hkn.1.1 k hk), ret_gd q4 hkn.1.2, q2, q3, fun x hx => of_decide_eq_true (List.all_eq_true.1 hkn.2 x hx)⟩
theorem field_ok {l : List ClassD} (h : tieRes l = 0) {c : ClassD} (hc : c ∈ l) {f : FieldD} (hf : f ∈ c.fields) : GdK (fun s => 0 ≤ num l s) f.kind := by
  have hck := tie_chk h
  obtain ⟨-, -, -, -, -, -, h7, -⟩ := tie_asks h
  unfold checkL at hck
  have h1 := allE_zero (dem_zero hck (by decide)).2 c hc
  unfold checkClass at h1
  have h2 := (dem_zero (dem_zero (dem_zero (dem_zero h1 (by decide)).2 (by decide)).2 (by decide)).2 (by decide)).2
  have h3 : allE checkField c.fields = 0 := by
    unfold thenE at h2
    split at h2
    · rename_i hx; exact hx
    · rename_i hx; exact absurd h2 hx
  have h4 := allE_zero h3 f hf
  unfold checkField at h4
  have hkn : knowsK l f.kind = true := by
    unfold askTold at h7
    have := List.all_eq_true.1 h7 c hc
    rw [Bool.and_eq_true] at this
    exact List.all_eq_true.1 this.1 f hf
  exact right_gd (dem_zero (dem_zero h4 (by decide)).2 (by decide)).1 hkn
def OpsOk (l : List Cd.Op4) : Prop := ∀ x ∈ l, (∃ o : Nat, o < 37 ∧ x.op = o) ∧ (x.op ≠ 1 → 0 ≤ x.a) ∧ 0 ≤ x.b
theorem one_ok (s : ByteArray) (p : Nat) (h : ¬ 37 ≤ Cd.bt s p) : (∃ o : Nat, o < 37 ∧ (Cd.oneAt s p).op = o) ∧ ((Cd.oneAt s p).op ≠ 1 → 0 ≤ (Cd.oneAt s p).a) ∧ 0 ≤ (Cd.oneAt s p).b := by
  refine ⟨⟨Cd.bt s p, by omega, rfl⟩, fun h1 => ?_, ?_⟩
  · show 0 ≤ Cd.argA (Cd.kOf (Cd.bt s p)) s p
    have h2 : Cd.kOf (Cd.bt s p) ≠ 1 := fun e => h1 (by
      have key : ∀ o : Fin 37, Cd.kOf o.val = 1 → o.val = 1 := by decide
      show ((Cd.bt s p : Nat) : Int) = 1
      have := key ⟨Cd.bt s p, by omega⟩ e
      simp at this
      omega)
    unfold Cd.argA
    rw [if_neg h2]
    (repeat' split) <;> omega
  · show 0 ≤ Cd.argB (Cd.kOf (Cd.bt s p)) s p
    unfold Cd.argB
    split <;> omega
theorem scan_all (s : ByteArray) : ∀ (f p : Nat) (acc l : List Cd.Op4), OpsOk acc → Cd.scan s f p acc = .ok l → OpsOk l ∧ l.length ≤ acc.length + (s.size - p)
  | 0, p, acc, l, ha, h => by
    simp [Cd.scan] at h
    subst h
    exact ⟨ha, by omega⟩
  | f + 1, p, acc, l, ha, h => by
    unfold Cd.scan at h
    split at h
    · split at h
      · cases h
      · rename_i h37
        split at h
        · cases h
        · obtain ⟨i1, i2⟩ := scan_all s f _ _ l (fun x hx => by
            rcases List.mem_append.1 hx with hx | hx
            · exact ha x hx
            · rw [List.mem_singleton] at hx
              subst hx
              exact one_ok s p h37) h
          refine ⟨i1, ?_⟩
          have : p + 1 ≤ Cd.nextAt s p := by unfold Cd.nextAt; omega
          simp at i2
          omega
    · cases h
      exact ⟨ha, by omega⟩
theorem full_all {s : ByteArray} {l : List Cd.Op4} (h : Cd.full s = .ok l) : OpsOk l ∧ l.length ≤ 200 := by
  unfold Cd.full at h
  split at h
  · cases h
  · split at h
    · cases h
    · unfold Cd.dec at h
      split at h
      · cases h
      · rename_i l' hx
        split at h
        · cases h
        · cases h
          obtain ⟨h1, h2⟩ := scan_all s s.size 0 [] l (fun x hx => by cases hx) hx
          exact ⟨h1, by simp at h2; omega⟩
theorem wf_link {l : List ClassD} (h : tieRes l = 0) {c : ClassD} (hc : c ∈ l) {m : MethD} (hm : m ∈ c.meths) {ins : List Cd.Op4} (hi : Cd.full m.code = .ok ins) : Wf ⟨linkD l, lnN l, m, ins⟩ := by
  have mo := meth_ok h hc hm
  obtain ⟨io, il⟩ := full_all hi
  refine ⟨cls_link h, by simp [linkD], fun fs hfs f hf => ?_, fun k hk m' hm' => (meth_ok h hk hm').rt, fun k hk m' hm' => (meth_ok h hk hm').na, mo.hk, mo.rt, mo.st, mo.lc, ?_, il, fun x hx => (io x hx).1, fun x hx => (io x hx).2.1, fun x hx => (io x hx).2.2⟩
  · obtain ⟨n, hn, rfl⟩ := List.mem_map.1 hfs
    unfold fieldsOf at hf
    obtain ⟨k, hk, hf⟩ := List.mem_flatMap.1 hf
    unfold clsAt at hf
    cases e : l[k]? with
    | none => rw [e] at hf; simp [cls0] at hf
    | some c' =>
      rw [e] at hf
      exact field_ok h (List.mem_of_getElem? e) hf
  · have := tie_chk h
    unfold checkL at this
    exact of_decide_eq_true (dem_zero this (by decide)).1
end Go.Proofs.YtfibgdcpbkaaoaaGreatDoor
/- verify.Method, where there is such a method. -/
namespace Go.Proofs.YtfibgdcpbkaaoaaGreatDoor
open Go.RowKit Go.Maps
set_option maxRecDepth 100000 in
set_option maxHeartbeats 8000000 in
theorem method1_any (w : World) (B : Nat) (aC aS aF aN aT : Option Addr) (cC cS cF cN cT : Nat) (d : LinkD) (hk : RLk (· < B) w (.slice aC d.classes.length cC) (.slice aS d.supers.length cS) (.slice aF d.fields.length cF) (.slice aN d.names.length cN) (.slice aT d.targets.length cT) d) (hB : B ≤ w.heap.size) (hg : GlK w) (hT : Cd.Tabs w) (h0 : chkRes d [] = 0) (hN : d.classes.length ≤ 10) (P0 P1 P2 : Nat)
    (k0 : w.heap[P0]? = some (.cells #[.slice aC d.classes.length cC, .slice aS d.supers.length cS, .slice aF d.fields.length cF, .slice aN d.names.length cN, .slice aT d.targets.length cT] 29 (0, 0))) (L : ByteArray → List ByteArray) (ci mi : Nat) (hci : ci < d.classes.length) (hmi : mi < d.classes[ci].meths.length) (m : MethD) (hm : m = d.classes[ci].meths[mi])
    (hcls : Cls d L) (hlc : m.locals ≤ 10) (hag : m.args.length ≤ 4) (hga : ∀ k ∈ m.args, GdK (fun s => 0 ≤ num d.classes s) k) (hwf : ∀ l, Cd.full m.code = .ok l → Wf ⟨d, L, m, l⟩)
    (hrun : ∀ l B P v n, Cd.full m.code = .ok l → n < l.length → RunOk ⟨d, L, m, l⟩ B P v (Cd.get4 l n)) (hch : ∀ l, Cd.full m.code = .ok l → ∀ h ∈ m.hands, HandOk ⟨d, L, m, l⟩ h) (k1 : w.cell? ⟨P1, 0, none⟩ = some (.int .i64 (ci : Int))) (k2 : w.cell? ⟨P2, 0, none⟩ = some (.int .i64 (mi : Int))) :
    Calls Tryz.prog 20 #[.pointer (some ⟨P0, 0, none⟩), .pointer (some ⟨P1, 0, none⟩), .pointer (some ⟨P2, 0, none⟩)] w fun r w' => StsOut (statesD d L m ci) r w w' := by
  have HAB := mkHid (about_any w B _ _ _ _ _ d hk hB hg h0 hN (.slice none 0 0) [] ⟨none, 0, rfl, Nat.le_refl _, Nat.zero_le _, fun k hk => by cases hk⟩)
  have HG := mkHid hg
  have HT := mkHid hT
  have HST : Hid (∀ (W : World) (kC kS kF kN kT : Value) (Bm : Nat), Kd W.heap.size W kC kS kF kN kT Bm d → GlK W → Cd.Tabs W → Calls Tryz.prog 23 #[kdV kC kS kF kN kT Bm, .int .i64 (ci : Int), .int .i64 (mi : Int)] W fun r w' => StsOut (statesD d L m ci) r W w') := fun W kC kS kF kN kT Bm hkd hgW hTW => statesOf_any W kC kS kF kN kT Bm d L hkd hgW hTW ci mi hci hmi m hm hcls hlc hag hga hwf hrun hch
  have hC := hk.C
  obtain ⟨bC, oC, vf, vm, e9, hbC, -, -, -, g3, -, hM, -, -⟩ := hC.atC ci hci
  subst e9
  obtain ⟨aM, cM, rfl, -, hlM, -⟩ := hM
  have l0 := lt_of k0
  have l1 : P1 < w.heap.size := World.block_lt_of_cell? _ _ k1
  have l2 : P2 < w.heap.size := World.block_lt_of_cell? _ _ k2
  have x0 := cell_of k0 0 (x := .slice (some ⟨bC, oC, none⟩) d.classes.length cC) rfl
  have x1 := cell_of k0 1 (x := .slice aS d.supers.length cS) rfl
  have x2 := cell_of k0 2 (x := .slice aF d.fields.length cF) rfl
  have x3 := cell_of k0 3 (x := .slice aN d.names.length cN) rfl
  have x4 := cell_of k0 4 (x := .slice aT d.targets.length cT) rfl
  have h00 : (0 : Int) ≤ ci := by omega
  have h01 : (ci : Int) < d.classes.length := by omega
  have h02 : (0 : Int) ≤ mi := by omega
  have h03 : (mi : Int) < d.classes[ci].meths.length := by omega
  clear hk hg hT h0 hcls hga hwf hrun hch hm hmi hC
  generalize d.classes[ci].meths.length = lm at *
  go_enter Tryz.func20, Tryz.ntmps20
  go_wp2_with fail
  refine HAB.out.mono ?_
  rintro r w1 ⟨hb1, ⟨-, Bm, rfl, hkd⟩ | ⟨h, -⟩⟩
  rotate_left
  · simp at h
  obtain ⟨W2, hW2, hB2, hs2, y0⟩ := boxes1 w1 #[.slice (some ⟨bC, oC, none⟩) d.classes.length cC, .slice aS d.supers.length cS, .slice aF d.fields.length cF, .slice aN d.names.length cN, .slice aT d.targets.length cT, .map (some Bm)] 75
  have hb2 : Below w.heap.size w W2 := hb1.trans (hB2.mono hb1.size)
  have HB2 := mkHid hb2
  have HKD : Hid (Kd W2.heap.size W2 (.slice (some ⟨bC, oC, none⟩) d.classes.length cC) (.slice aS d.supers.length cS) (.slice aF d.fields.length cF) (.slice aN d.names.length cN) (.slice aT d.targets.length cT) Bm d) := by
    have h9 := hkd.below hB2
    exact ⟨h9.lk.mono fun k hk => by omega, h9.nm, by have := h9.bm; omega⟩
  have q0 := (hb2.block P0 l0).trans k0
  have z0 := cell_of q0 0 (x := .slice (some ⟨bC, oC, none⟩) d.classes.length cC) rfl
  have z1 := (hb2.cell (p := ⟨P1, 0, none⟩) l1).trans k1
  have z2 := (hb2.cell (p := ⟨P2, 0, none⟩) l2).trans k2
  have z3 := (hb2.cell (p := ⟨bC, oC + ci * 4 + 3, none⟩) hbC).trans g3
  have yc := fun (j : Nat) (x : Value) (h : (#[.slice (some ⟨bC, oC, none⟩) d.classes.length cC, .slice aS d.supers.length cS, .slice aF d.fields.length cF, .slice aN d.names.length cN, .slice aT d.targets.length cT, .map (some Bm)] : Array Value)[j]? = some x) => cell_of y0 j h
  have y1 := yc 0 _ rfl
  have y2 := yc 1 _ rfl
  have y3 := yc 2 _ rfl
  have y4 := yc 3 _ rfl
  have y5 := yc 4 _ rfl
  have y6 := yc 5 _ rfl
  have m0 : P0 < W2.heap.size := lt_of q0
  have m1 : P1 < W2.heap.size := World.block_lt_of_cell? _ _ z1
  have m2 : P2 < W2.heap.size := World.block_lt_of_cell? _ _ z2
  have m3 : bC < W2.heap.size := World.block_lt_of_cell? _ _ z3
  have u0 := (hb1.block P0 l0).trans k0
  have v0 := cell_of u0 0 (x := .slice (some ⟨bC, oC, none⟩) d.classes.length cC) rfl
  have v1 := (hb1.cell (p := ⟨P1, 0, none⟩) l1).trans k1
  have n0 : P0 < w1.heap.size := lt_of u0
  have n1 : P1 < w1.heap.size := World.block_lt_of_cell? _ _ v1
  clear hb1 hkd hb2 q0 u0 y0 yc k0 k1 k2 g3 x0 x1 x2 x3 x4 HAB
  go_wp2_with fail
  refine (demand_any _ _ _).mono ?_
  rintro r w4 ⟨hw4, ⟨hb, rfl⟩ | ⟨hb, rfl⟩⟩
  · exact absurd hb (by simp)
  rw [hw4]
  clear hb hw4
  go_wp2_with fail
  rw [← hW2]
  clear hW2 v0 v1 hs2
  refine wp_region_held_drew (S := fun W' => ∀ p : Addr, p.block < W2.heap.size → W'.cell? p = W2.cell? p) (by kernel_rfl) (fun p hp => rfl) fun hH => ?_
  refine ta 0 (.int .i64 (mi : Int)) rfl hH ?_
  refine ta 1 (.bool true) rfl hH ?_
  refine ta 2 (.bool true) rfl hH ?_
  refine ta 3 (.int .i64 (mi : Int)) rfl hH ?_
  refine ta 4 (.pointer (some ⟨P0, 0, none⟩)) rfl hH ?_
  refine ta 5 (.slice (some ⟨bC, oC, none⟩) d.classes.length cC) rfl hH ?_
  refine ta 6 (.int .i64 (ci : Int)) rfl hH ?_
  refine ta 7 (.pointer (some ⟨bC, oC + ci * 4, none⟩)) rfl hH ?_
  refine ta 8 (.pointer (some ⟨bC, oC + ci * 4 + 3, none⟩)) rfl hH ?_
  refine ta 9 (.slice aM lm cM) rfl hH ?_
  refine ta 10 (.int .i64 lm) rfl hH ?_
  refine ta 11 (.bool true) rfl hH ?_
  refine ta 12 (.bool true) rfl hH ?_
  refine wpAnyH_ready (rs := [13]) (by kernel_rfl) (by simp) ?_
  refine AllReadyH.cons rfl (fun K13 hK13 => ?_) AllReadyH.nil
  go_simp
  refine (demand_any _ _ _).mono ?_
  rintro r w5 ⟨hw5, ⟨hb, rfl⟩ | ⟨hb, rfl⟩⟩
  · exact absurd hb (by simp)
  rw [hw5]
  clear hb hw5
  refine hK13.out _ _ (fun p hp => rfl) fun hH => ?_
  refine wpAnyH_done (by kernel_rfl) ?_ _
  clear hH
  try simp only [Act.put, List.setIfInBounds_toArray, List.set_cons_zero, List.set_cons_succ, List.getElem_toArray, List.getElem_cons_zero, List.getElem_cons_succ]
  go_wp2_with fail
  refine (HST.out W2.drew _ _ _ _ _ Bm (HKD.out.below (Below.refl _ _).drew) (HG.out.below HB2.out.drew) (HT.out.below HB2.out.drew)).mono ?_
  rintro r w6 ⟨hb6, ⟨s6, v6, hr6, rfl, hs6⟩ | ⟨hr6, e6, p6, he6, rfl⟩⟩
  rotate_left
  · exact ⟨rfl, HB2.out.drew.trans (hb6.mono HB2.out.size), Or.inr ⟨hr6, e6, p6, he6, rfl⟩⟩
  have HB6 := mkHid (HB2.out.drew.trans (hb6.mono HB2.out.size))
  have HR6 := mkHid hr6
  have HS6 := mkHid (hs6.monoSt (M' := fun k => w.heap.size ≤ k ∧ k < w6.heap.size) fun k hk => ⟨Nat.le_trans HB2.out.size hk.1, hk.2⟩)
  obtain ⟨a6, c6, rfl, -⟩ := hs6
  clear hb6 hr6
  go_wp2_with fail
  go_ret
  exact ⟨HB6.out, Or.inl ⟨s6, _, HR6.out, rfl, HS6.out⟩⟩
end Go.Proofs.YtfibgdcpbkaaoaaGreatDoor
/- verify.Method, whole, where there is such a method. -/
namespace Go.Proofs.YtfibgdcpbkaaoaaGreatDoor
open Go.RowKit Go.Maps
theorem callMethod1 (args : Array Value) (w : World) : (callFunc 20 args).run Tryz.prog w = .ok (.enter 20 args) w := by kernel_rfl
def MthOut (res : Option SA) (r : Ending) (w w' : World) : Prop := Below w.heap.size w w' ∧ ((∃ s v, res = some s ∧ r = .returned (.tuple #[v, .agg #[.int .i64 0, .int .i64 0]]) ∧ SL 3 RSt (fun k => w.heap.size ≤ k ∧ k < w'.heap.size) w' v s.S) ∨ (res = none ∧ ∃ e p, e ≠ 0 ∧ r = .returned (.tuple #[.slice none 0 0, .agg #[.int .i64 e, .int .i64 p]])))
theorem two_sets {W : World} {P : Nat} {x y : Value} (h0 : W.cell? ⟨P, 0, none⟩ = some x) (h1 : W.cell? ⟨P, 1, none⟩ = some y) (u v : Value) : ((W.setCell ⟨P, 0, none⟩ u).setCell ⟨P, 1, none⟩ v).cell? ⟨P, 0, none⟩ = some u ∧ ((W.setCell ⟨P, 0, none⟩ u).setCell ⟨P, 1, none⟩ v).cell? ⟨P, 1, none⟩ = some v :=
  ⟨(World.cell?_setCell_other _ _ _ _ (by simp)).trans (World.cell?_setCell_same _ _ _ h0), World.cell?_setCell_same _ _ _ ((World.cell?_setCell_other _ _ _ _ (by simp)).trans h1)⟩
set_option maxRecDepth 100000 in
set_option maxHeartbeats 4000000 in
theorem Method_any (w : World) (B : Nat) (aC aS aF aN aT : Option Addr) (cC cS cF cN cT : Nat) (d : LinkD) (hk : RLk (· < B) w (.slice aC d.classes.length cC) (.slice aS d.supers.length cS) (.slice aF d.fields.length cF) (.slice aN d.names.length cN) (.slice aT d.targets.length cT) d) (hB : B ≤ w.heap.size) (hg : GlK w) (hT : Cd.Tabs w) (h0 : chkRes d [] = 0) (hN : d.classes.length ≤ 10) (L : ByteArray → List ByteArray) (ci mi : Nat) (hci : ci < d.classes.length) (hmi : mi < d.classes[ci].meths.length) (m : MethD) (hm : m = d.classes[ci].meths[mi])
    (hcls : Cls d L) (hlc : m.locals ≤ 10) (hag : m.args.length ≤ 4) (hga : ∀ k ∈ m.args, GdK (fun s => 0 ≤ num d.classes s) k) (hwf : ∀ l, Cd.full m.code = .ok l → Wf ⟨d, L, m, l⟩)
    (hrun : ∀ l B P v n, Cd.full m.code = .ok l → n < l.length → RunOk ⟨d, L, m, l⟩ B P v (Cd.get4 l n)) (hch : ∀ l, Cd.full m.code = .ok l → ∀ h ∈ m.hands, HandOk ⟨d, L, m, l⟩ h) :
    Calls Tryz.prog 9 #[.agg #[.slice aC d.classes.length cC, .slice aS d.supers.length cS, .slice aF d.fields.length cF, .slice aN d.names.length cN, .slice aT d.targets.length cT], .int .i64 (ci : Int), .int .i64 (mi : Int)] w fun r w' => MthOut (statesD d L m ci) r w w' := by
  have hmf : ∀ (fn : Fn) (first cap : Array Value) (w : World), (Instr.makeFunc fn first cap).run Tryz.prog w = .ok (.func fn first cap) w := fun _ _ _ _ => rfl
  obtain ⟨W0, hW0, hB0, hs0, q0, q1, q2, q3⟩ := boxes4 w #[.slice aC d.classes.length cC, .slice aS d.supers.length cS, .slice aF d.fields.length cF, .slice aN d.names.length cN, .slice aT d.targets.length cT] #[.int .i64 (ci : Int)] #[.int .i64 (mi : Int)] #[.int .i64 0, .int .i64 0] 29 3 3 46
  have HB0 := mkHid hB0
  have HS0 := mkHid hs0
  have HQ3 := mkHid q3
  have HM : Hid (Calls Tryz.prog 19 #[.func (.func 20) #[] #[.pointer (some ⟨w.heap.size, 0, none⟩), .pointer (some ⟨w.heap.size + 1, 0, none⟩), .pointer (some ⟨w.heap.size + 1 + 1, 0, none⟩)]] W0 fun r w' => Below W0.heap.size W0 w' ∧ W0.heap.size + 4 ≤ w'.heap.size ∧
      ((∃ v, r = .returned (.tuple #[v, .agg #[.int .i64 0, .int .i64 0]]) ∧ (∃ z : Option Addr × Nat × Nat, v = .slice z.1 z.2.1 z.2.2) ∧ ∃ s, statesD d L m ci = some s ∧ SL 3 RSt (fun k => W0.heap.size + 4 ≤ k ∧ k < w'.heap.size) w' v s.S) ∨ (∃ e p, r = .returned (.tuple #[.slice none 0 0, .agg #[.int .i64 e, .int .i64 p]]) ∧ statesD d L m ci = none ∧ e ≠ 0))) := by
    refine madeSt_any W0 20 _ (fun v W => ∃ s, statesD d L m ci = some s ∧ SL 3 RSt (fun k => W0.heap.size + 4 ≤ k ∧ k < W.heap.size) W v s.S) (fun e _ => statesD d L m ci = none ∧ e ≠ 0) callMethod1 ?hc ?hst
    case hc =>
      intro W hW hWs
      have hb := hB0.trans (hW.mono hB0.size)
      refine (method1_any W B _ _ _ _ _ _ _ _ _ _ d (hk.kept (Kp.below (hb.mono hB))) (Nat.le_trans hB hb.size) (hg.below hb) (hT.below hb) h0 hN w.heap.size (w.heap.size + 1) (w.heap.size + 1 + 1) ((hW.block _ (lt_of q0)).trans q0) L ci mi hci hmi m hm hcls hlc hag hga hwf hrun hch (cell_of ((hW.block _ (lt_of q1)).trans q1) 0 rfl) (cell_of ((hW.block _ (lt_of q2)).trans q2) 0 rfl)).mono ?_
      rintro r w' ⟨hb', ⟨s, v, hr, rfl, hs⟩ | ⟨hr, e, p, he, rfl⟩⟩
      · refine ⟨hb', Or.inl ⟨v, rfl, ?_, s, hr, hs.monoSt fun k hk => ⟨by rw [← hWs]; exact hk.1, hk.2⟩⟩⟩
        obtain ⟨a, c, rfl, -⟩ := hs
        exact ⟨⟨a, _, c⟩, rfl⟩
      · exact ⟨hb', Or.inr ⟨e, p, rfl, hr, he⟩⟩
    case hst =>
      rintro v W W' hz hf ⟨s, hr, hs⟩
      exact ⟨s, hr, (hs.keptSt ⟨hf.size, fun b hb hl => hf.block b hl (Or.inr hb.1)⟩).monoSt fun k hk => ⟨hk.1, Nat.lt_of_lt_of_le hk.2 hf.size⟩⟩
  clear hk hg hT h0 hcls hga hwf hrun hch hm hB0 hs0 q0 q1 q2 q3
  go_enter Tryz.func9, Tryz.ntmps9
  go_wp2_with fail
  rw [← hW0]
  clear hW0
  refine HM.out.mono ?_
  rintro r w1 ⟨hb1, hz1, ⟨v, rfl, ⟨⟨a1, n1, c1⟩, hv⟩, s, hr, hs⟩ | ⟨e, p, rfl, hr, he⟩⟩
  · subst hv
    have h3 := (hb1.block _ (lt_of HQ3.out)).trans HQ3.out
    have z0 := cell_of h3 0 (x := .int .i64 0) rfl
    have z1 := cell_of h3 1 (x := .int .i64 0) rfl
    have zf := frz_of h3
    have HTS := mkHid (two_sets z0 z1 (.int .i64 0) (.int .i64 0))
    have hbw := HB0.out.trans (hb1.mono HB0.out.size)
    have HBF : Hid (Below w.heap.size w ((w1.setCell ⟨w.heap.size + 1 + 1 + 1, 0, none⟩ (.int .i64 0)).setCell ⟨w.heap.size + 1 + 1 + 1, 1, none⟩ (.int .i64 0))) := (hbw.setCell (by simp; omega) _).setCell (by simp; omega) _
    have HSF : Hid (SL 3 RSt (fun k => w.heap.size ≤ k ∧ k < ((w1.setCell ⟨w.heap.size + 1 + 1 + 1, 0, none⟩ (.int .i64 0)).setCell ⟨w.heap.size + 1 + 1 + 1, 1, none⟩ (.int .i64 0)).heap.size) ((w1.setCell ⟨w.heap.size + 1 + 1 + 1, 0, none⟩ (.int .i64 0)).setCell ⟨w.heap.size + 1 + 1 + 1, 1, none⟩ (.int .i64 0)) (.slice a1 n1 c1) s.S) := by
      refine (hs.keptSt ⟨by simp [World.setCell], fun b hb _ => ?_⟩).monoSt fun k hk => ⟨by have := HS0.out; omega, by simp [World.setCell]; exact hk.2⟩
      have := HS0.out
      rw [Below.heap_setCell _ _ _ _ (by show b ≠ w.heap.size + 1 + 1 + 1; omega), Below.heap_setCell _ _ _ _ (by show b ≠ w.heap.size + 1 + 1 + 1; omega)]
    have HR := mkHid hr
    clear h3 hs hr hb1 hbw HM HQ3
    go_wp2_with fail
    obtain ⟨t0, t1⟩ := HTS.out
    exact bodyPost_ret (v := .tuple #[.slice a1 n1 c1, .agg #[.int .i64 0, .int .i64 0]]) (by simp [results, Tryz.results9, go_sem, t0, t1]) rfl ⟨HBF.out, Or.inl ⟨s, _, HR.out, rfl, HSF.out⟩⟩
  · have h3 := (hb1.block _ (lt_of HQ3.out)).trans HQ3.out
    have z0 := cell_of h3 0 (x := .int .i64 0) rfl
    have z1 := cell_of h3 1 (x := .int .i64 0) rfl
    have zf := frz_of h3
    have HTS := mkHid (two_sets z0 z1 (.int .i64 e) (.int .i64 p))
    have hbw := HB0.out.trans (hb1.mono HB0.out.size)
    have HBF : Hid (Below w.heap.size w ((w1.setCell ⟨w.heap.size + 1 + 1 + 1, 0, none⟩ (.int .i64 e)).setCell ⟨w.heap.size + 1 + 1 + 1, 1, none⟩ (.int .i64 p))) := (hbw.setCell (by simp; omega) _).setCell (by simp; omega) _
    have HR := mkHid hr
    have HE := mkHid he
    clear h3 hr he hb1 hbw HM HQ3
    go_wp2_with fail
    obtain ⟨t0, t1⟩ := HTS.out
    exact bodyPost_ret (v := .tuple #[.slice none 0 0, .agg #[.int .i64 e, .int .i64 p]]) (by simp [results, Tryz.results9, go_sem, t0, t1]) rfl ⟨HBF.out, Or.inr ⟨HR.out, e, p, HE.out, rfl⟩⟩
end Go.Proofs.YtfibgdcpbkaaoaaGreatDoor
/- What is right may be run, plainly: who comes to an operation comes to those behind it. -/
namespace Go.Proofs.YtfibgdcpbkaaoaaGreatDoor
def agL (A : List Bool) (n : Nat) : Bool := (A[n]?).getD false
def Beh (c : Lkr) (s : SA) (n : Nat) : Prop := (goesD (Cd.get4 c.ins n).op = true → (c.st s (n + 1)).comes = true) ∧ (brD (Cd.get4 c.ins n).op = true → (c.st s (Cd.placeN c.ins (Cd.get4 c.ins n).a).toNat).comes = true)
structure Dn (c : Lkr) (e : Nat) (s : SA) : Prop where
  ls : s.S.length = c.ins.length
  la : s.A.length = c.ins.length
  go : ∀ n, n ≠ e → (c.st s n).comes = true → agL s.A n = false → Beh c s n
  no : ∀ n, (c.st s n).comes = false → (c.st s n).locals = [] ∧ (c.st s n).stack = []
  st : ∀ n, (c.st s n).comes = true → ((c.st s n).stack.length : Int) ≤ c.m.stack
  lo : ∀ n, (c.st s n).comes = true → (c.st s n).locals.length = c.m.locals.toNat
theorem st_set {c : Lkr} {s : SA} {A' : List Bool} {n : Nat} {x : StD} (hn : n < s.S.length) (k : Nat) : c.st ⟨s.S.set n x, A'⟩ k = if n = k then x else c.st s k := by
  unfold Lkr.st
  by_cases e : n = k
  · subst e
    rw [if_pos rfl, List.getElem?_set_self hn]
    rfl
  · rw [if_neg e, List.getElem?_set_ne e]
theorem ag_set {A : List Bool} {n k : Nat} (h : agL (A.set n true) k = false) : agL A k = false := by
  unfold agL at *
  by_cases e : n = k
  · subst e
    rw [List.getElem?_set] at h
    split at h
    · split at h
      · cases h
      · rename_i h1
        rw [List.getElem?_eq_none (by omega)]
        rfl
    · rename_i h1
      exact absurd rfl h1
  · rwa [List.getElem?_set_ne e] at h
theorem ag_self {A : List Bool} {n : Nat} (h : n < A.length) (b : Bool) : agL (A.set n b) n = b := by
  unfold agL
  rw [List.getElem?_set_self h]
  rfl
theorem ag_ne {A : List Bool} {n k : Nat} (h : n ≠ k) (b : Bool) : agL (A.set n b) k = agL A k := by
  unfold agL
  rw [List.getElem?_set_ne h]
theorem Beh.up {c : Lkr} {s s' : SA} (h : ∀ k, (c.st s k).comes = true → (c.st s' k).comes = true) {n : Nat} (hb : Beh c s n) : Beh c s' n := ⟨fun g => h _ (hb.1 g), fun g => h _ (hb.2 g)⟩
theorem joinL_min (c : Lkr) (a b : List KindD) : (joinL c a b).length = min a.length b.length := by unfold joinL; simp
theorem come_sa {c : Lkr} {s s' : SA} {n : Nat} {lo st : List KindD} {N : Nat} (hn : n < s.A.length) (hlo : lo.length = N) (hk : (c.st s n).comes = true → (c.st s n).locals.length = N) (h : comeD c s n lo st = some s') :
    ∃ x A', s' = ⟨s.S.set n x, A'⟩ ∧ x.comes = true ∧ (x.stack.length : Int) ≤ c.m.stack ∧ x.locals.length = N ∧ A'.length = s.A.length ∧ (∀ k, agL A' k = false → agL s.A k = false) ∧ ((c.st s n).comes = false → agL A' n = true) := by
  unfold comeD at h
  split at h
  · rename_i hh
    rw [Bool.and_eq_true, decide_eq_true_iff] at hh
    cases h
    cases h0 : (c.st s n).comes with
    | true =>
      rw [h0] at hh
      have h2 : (c.st s n).stack.length = st.length := by simpa using hh.1
      refine ⟨_, _, rfl, rfl, ?_, ?_, ?_, ?_, fun h => by cases h⟩
      · rw [joinL_min, h2]; have := hh.2; omega
      · rw [joinL_min, hk h0, hlo]; omega
      · split <;> simp
      · intro k hk
        split at hk
        · exact ag_set hk
        · exact hk
    | false =>
      exact ⟨_, _, rfl, rfl, hh.2, hlo, by simp, fun k hk => ag_set hk, fun _ => ag_self hn _⟩
  · cases h
theorem come_d {c : Lkr} {e : Nat} {s s' : SA} {n : Nat} {lo st : List KindD} (hd : Dn c e s) (hn : n < c.ins.length) (hlo : lo.length = c.m.locals.toNat) (h : comeD c s n lo st = some s') :
    Dn c e s' ∧ (∀ k, (c.st s k).comes = true → (c.st s' k).comes = true) ∧ (c.st s' n).comes = true := by
  have hnS : n < s.S.length := by rw [hd.ls]; exact hn
  obtain ⟨x, A', rfl, h1, h2, h3, h4, h5, h6⟩ := come_sa (by rw [hd.la]; exact hn) hlo (hd.lo n) h
  have key : ∀ k, c.st ⟨s.S.set n x, A'⟩ k = if n = k then x else c.st s k := st_set hnS
  have up : ∀ k, (c.st s k).comes = true → (c.st ⟨s.S.set n x, A'⟩ k).comes = true := fun k hk => by
    rw [key]
    split
    · exact h1
    · exact hk
  refine ⟨⟨?_, ?_, ?_, ?_, ?_, ?_⟩, up, ?_⟩
  · show (s.S.set n x).length = _
    rw [List.length_set, hd.ls]
  · exact h4.trans hd.la
  · intro k hk hc ha
    by_cases ek : n = k
    · subst ek
      cases h0 : (c.st s n).comes with
      | true => exact (hd.go n hk h0 (h5 n ha)).up up
      | false => rw [h6 h0] at ha; cases ha
    · rw [key, if_neg ek] at hc
      exact (hd.go k hk hc (h5 k ha)).up up
  · intro k hc
    rw [key] at hc ⊢
    split at hc
    · rw [h1] at hc; cases hc
    · rename_i ek
      rw [if_neg ek]
      exact hd.no k hc
  · intro k hc
    rw [key] at hc ⊢
    split
    · exact h2
    · rename_i ek
      rw [if_neg ek] at hc
      exact hd.st k hc
  · intro k hc
    rw [key] at hc ⊢
    split
    · exact h3
    · rename_i ek
      rw [if_neg ek] at hc
      exact hd.lo k hc
  · rw [key, if_pos rfl]
    exact h1
theorem comeAt_d {c : Lkr} (hp : 0 < c.ins.length) {e : Nat} {s s' : SA} {x : Int} {lo st : List KindD} (hd : Dn c e s) (hlo : lo.length = c.m.locals.toNat) (h : comeAtD c s x lo st = some s') :
    Dn c e s' ∧ (∀ k, (c.st s k).comes = true → (c.st s' k).comes = true) ∧ (c.st s' (Cd.placeN c.ins x).toNat).comes = true := by
  obtain ⟨n, -, hn, hnt⟩ := placeN_nat c.ins x hp
  unfold comeAtD at h
  rw [hnt] at h ⊢
  exact come_d hd hn hlo h
theorem hands_d {c : Lkr} (hp : 0 < c.ins.length) {e : Nat} {loc : Int} {lo : List KindD} (hlo : lo.length = c.m.locals.toNat) : ∀ (l : List HandD) (s s' : SA), Dn c e s → handsD c loc lo l s = some s' → Dn c e s' ∧ ∀ k, (c.st s k).comes = true → (c.st s' k).comes = true
  | [], s, s', hd, h => by
    cases h
    exact ⟨hd, fun _ h => h⟩
  | hh :: l, s, s', hd, h => by
    unfold handsD at h
    split at h
    · obtain ⟨s1, e1, e2⟩ := Option.bind_eq_some_iff.1 h
      obtain ⟨d1, u1, -⟩ := comeAt_d hp hd hlo e1
      obtain ⟨d2, u2⟩ := hands_d hp hlo l s1 s' d1 e2
      exact ⟨d2, fun k hk => u2 k (u1 k hk)⟩
    · exact hands_d hp hlo l s s' hd h
theorem look_d {c : Lkr} (hp : 0 < c.ins.length) {s s' : SA} {n : Nat} (hn : n < c.ins.length) (hd : Dn c n s) (hc : (c.st s n).comes = true) (h : lookD c s n = some s') : Dn c c.ins.length s' ∧ ∀ k, (c.st s k).comes = true → (c.st s' k).comes = true := by
  unfold lookD at h
  obtain ⟨r, hr, h⟩ := Option.bind_eq_some_iff.1 h
  have hl0 := hd.lo n hc
  have hl1 : r.1.length = c.m.locals.toNat := (run_len (lo' := r.1) (st' := r.2) hr).1.trans hl0
  split at h
  · cases h
  rename_i hls
  obtain ⟨s1, e1, h⟩ := Option.bind_eq_some_iff.1 h
  obtain ⟨d1, u1⟩ := hands_d hp hl0 _ _ _ hd e1
  obtain ⟨s2, e2, h⟩ := Option.bind_eq_some_iff.1 h
  obtain ⟨d2, u2⟩ : Dn c n s2 ∧ ∀ k, (c.st s1 k).comes = true → (c.st s2 k).comes = true := by
    split at e2
    · exact hands_d hp hl1 _ _ _ d1 e2
    · cases e2; exact ⟨d1, fun _ h => h⟩
  obtain ⟨s3, e3, h⟩ := Option.bind_eq_some_iff.1 h
  obtain ⟨d3, u3, g3⟩ : Dn c n s3 ∧ (∀ k, (c.st s2 k).comes = true → (c.st s3 k).comes = true) ∧ (goesD (Cd.get4 c.ins n).op = true → (c.st s3 (n + 1)).comes = true) := by
    split at e3
    · rename_i hg
      have hn1 : n + 1 < c.ins.length := by
        rw [hg, Bool.and_true, decide_eq_true_iff] at hls
        omega
      obtain ⟨a, b, d⟩ := come_d d2 hn1 hl1 e3
      exact ⟨a, b, fun _ => d⟩
    · rename_i hg
      cases e3; exact ⟨d2, fun _ h => h, fun g => absurd g hg⟩
  obtain ⟨d4, u4, g4⟩ : Dn c n s' ∧ (∀ k, (c.st s3 k).comes = true → (c.st s' k).comes = true) ∧ (brD (Cd.get4 c.ins n).op = true → (c.st s' (Cd.placeN c.ins (Cd.get4 c.ins n).a).toNat).comes = true) := by
    split at h
    · obtain ⟨a, b, d⟩ := comeAt_d hp d3 hl1 h
      exact ⟨a, b, fun _ => d⟩
    · rename_i hg
      cases h; exact ⟨d3, fun _ h => h, fun g => absurd g hg⟩
  refine ⟨⟨d4.ls, d4.la, fun k hk hck ha => ?_, d4.no, d4.st, d4.lo⟩, fun k hk => u4 k (u3 k (u2 k (u1 k hk)))⟩
  by_cases ek : k = n
  · subst ek
    exact ⟨fun g => u4 _ (g3 g), g4⟩
  · exact d4.go k ek hck ha
theorem loop_d {c : Lkr} (hw : Wf c) (hp : 0 < c.ins.length) : ∀ (f : Nat) (s s' : SA), Dn c c.ins.length s → AInv s → Inv c s → loopD c f s = some s' → (∀ k, (c.st s k).comes = true → (c.st s' k).comes = true) ∧ Dn c c.ins.length s' ∧ ∀ k, agL s'.A k = false
  | 0, _, _, _, _, _, h => by cases h
  | f + 1, s, s', hd, ha, hi, h => by
    cases hx : nextD s with
    | none =>
      rw [loop_end hx] at h
      cases h
      refine ⟨fun _ h => h, hd, fun k => ?_⟩
      unfold nextD at hx
      unfold agL
      rw [List.findIdx?_eq_none_iff] at hx
      cases hk : s.A[k]? with
      | none => rfl
      | some b => exact hx b (List.mem_of_getElem? hk)
    | some n =>
      rw [loop_go hx] at h
      obtain ⟨s1, e1, e2⟩ := Option.bind_eq_some_iff.1 h
      obtain ⟨hk, hkn⟩ := next_some hx
      have hn : n < c.ins.length := by rw [← hd.la]; exact hk
      have hnS : n < s.S.length := by rw [hd.ls]; exact hn
      obtain ⟨-, ha0, hcm⟩ := off_mu hd.ls hd.la hn ha (fun _ => hkn)
      have hcn : (c.st ⟨s.S, s.A.set n false⟩ n).comes = true := by
        unfold Lkr.st
        rw [List.getElem?_eq_getElem hnS]
        exact hcm hnS
      have hd0 : Dn c n ⟨s.S, s.A.set n false⟩ := ⟨hd.ls, by rw [← hd.la]; exact List.length_set .., fun k hk hck hak => hd.go k (fun e => by
          subst e
          unfold Lkr.st at hck
          rw [List.getElem?_eq_none (by rw [hd.ls]; exact Nat.le_refl _)] at hck
          cases hck) hck (by rw [ag_ne (fun e => hk e.symm)] at hak; exact hak), hd.no, hd.st, hd.lo⟩
      obtain ⟨d1, u1⟩ := look_d hp hn hd0 hcn e1
      have g1 := look_go hw hp (s := ⟨s.S, s.A.set n false⟩) hd0.ls hd0.la hn hi ha0 hcm e1
      obtain ⟨u2, d2, a2⟩ := loop_d hw hp f s1 s' d1 g1.av g1.iv e2
      exact ⟨fun k hk => u2 k (u1 k hk), d2, a2⟩
structure Rgt (m : MethD) (l : List Cd.Op4) (S : List StD) : Prop where
  ls : S.length = l.length
  ps : 0 < l.length
  fs : ((S[0]?).getD st0).comes = true
  no : ∀ n : Nat, ((S[n]?).getD st0).comes = false → ((S[n]?).getD st0).locals = [] ∧ ((S[n]?).getD st0).stack = []
  st : ∀ n : Nat, ((S[n]?).getD st0).comes = true → (((S[n]?).getD st0).stack.length : Int) ≤ m.stack
  lo : ∀ n : Nat, ((S[n]?).getD st0).comes = true → ((S[n]?).getD st0).locals.length = m.locals.toNat
  on : ∀ n : Nat, ((S[n]?).getD st0).comes = true → goesD (Cd.get4 l n).op = true → ((S[n + 1]?).getD st0).comes = true
  br : ∀ n : Nat, ((S[n]?).getD st0).comes = true → brD (Cd.get4 l n).op = true → ((S[(Cd.placeN l (Cd.get4 l n).a).toNat]?).getD st0).comes = true
theorem states_right {d : LinkD} {L : ByteArray → List ByteArray} {m : MethD} {ci : Nat} {s : SA} (hci : ci < d.classes.length) (hcls : Cls d L) (hga : ∀ k ∈ m.args, GdK (fun s => 0 ≤ num d.classes s) k) (hwf : ∀ l, Cd.full m.code = .ok l → Wf ⟨d, L, m, l⟩) (h : statesD d L m ci = some s) : ∃ l, Cd.full m.code = .ok l ∧ Rgt m l s.S := by
  unfold statesD at h
  split at h
  · cases h
  rename_i lo hlo
  split at h
  · cases h
  rename_i l hl
  split at h
  · have hw := hwf l hl
    have hp := full_pos hl
    obtain ⟨c, hc⟩ : ∃ c : Lkr, c = ⟨d, L, m, l⟩ := ⟨_, rfl⟩
    have hcm : c.m = m := by rw [hc]
    have hcI : c.ins = l := by rw [hc]
    have hcd : c.d = d := by rw [hc]
    have hcL : c.L = L := by rw [hc]
    rw [← hc] at h hw
    obtain ⟨hl1, hl2⟩ := first_gd (c := c) (by rw [hcd, hcL]; exact hcls) (by rw [hcd]; exact hci) (by rw [hcm]; unfold Kn; rw [hcd]; exact hga) (by rw [hcd, hcm]; exact hlo)
    obtain ⟨s0, e0, e1⟩ := Option.bind_eq_some_iff.1 h
    have hpc : 0 < c.ins.length := by rw [hcI]; exact hp
    have st0s : ∀ k, c.st (sa0 l.length) k = st0 := fun k => by
      unfold Lkr.st sa0
      simp only [List.getElem?_replicate]
      split <;> rfl
    have d0 : Dn c c.ins.length (sa0 l.length) := ⟨by rw [hcI]; simp [sa0], by rw [hcI]; simp [sa0], fun n _ hc => (by rw [st0s] at hc; cases hc), fun n _ => (by rw [st0s]; exact ⟨rfl, rfl⟩), fun n hc => (by rw [st0s] at hc; cases hc), fun n hc => (by rw [st0s] at hc; cases hc)⟩
    obtain ⟨d1, -, c1⟩ := come_d d0 hpc hl1 e0
    have hi0 := come_go hw (s := sa0 l.length) (lo := lo) (st := []) (by rw [hcI]; simp [sa0]) (by rw [hcI]; simp [sa0]) hpc (sa0_inv c _) (sa0_a _) hl1 hl2 nil_gd e0
    have hfin : (∀ k, (c.st s0 k).comes = true → (c.st s k).comes = true) ∧ Dn c c.ins.length s ∧ ∀ k, agL s.A k = false := loop_d hw hpc _ s0 s d1 hi0.av hi0.iv e1
    obtain ⟨u, dn, ag⟩ := hfin
    have on : ∀ n, (c.st s n).comes = true → Beh c s n := fun n hn => dn.go n (fun e => by
      subst e
      unfold Lkr.st at hn
      rw [List.getElem?_eq_none (by rw [dn.ls]; exact Nat.le_refl _)] at hn
      cases hn) hn (ag n)
    refine ⟨l, hl, ⟨by rw [dn.ls, hcI], hp, u 0 c1, dn.no, by rw [← hcm]; exact dn.st, by rw [← hcm]; exact dn.lo, fun n hn => ?_, fun n hn => ?_⟩⟩
    · have := (on n hn).1
      rw [hcI] at this
      exact this
    · have := (on n hn).2
      rw [hcI] at this
      exact this
  · cases h
end Go.Proofs.YtfibgdcpbkaaoaaGreatDoor
/- What the law VerifyHolds leans on: states and operations, one at a time. -/
namespace Go.Proofs.YtfibgdcpbkaaoaaGreatDoor
open Go.RowKit
theorem br_of {o : Nat} (ho : o < 37) (h : (Cd.kOf o == 2) = true) : brD (o : Int) = true := by
  have key : ∀ o : Fin 37, (Cd.kOf o.val == 2) = true → brD (o.val : Int) = true := by decide
  exact key ⟨o, ho⟩ h
theorem goes_of {x : Int} (h1 : ¬ x = 13) (h2 : ¬ x = 27) (h3 : ¬ x = 28) : goesD x = true := by unfold goesD; simp [h1, h2, h3]
theorem none_bad (l : List Cd.Op4) : ∀ m : List Cd.Op4, Cd.firstBad l m = none → ∀ x ∈ m, Cd.bad l x = false
  | [], _, x, hx => by cases hx
  | y :: m, h, x, hx => by
    unfold Cd.firstBad at h
    split at h
    · cases h
    · rename_i hy
      rcases List.mem_cons.1 hx with rfl | hx
      · simpa using hy
      · exact none_bad l m h x hx
theorem full_place {s : ByteArray} {l : List Cd.Op4} (h : Cd.full s = .ok l) {n o : Nat} (hn : n < l.length) (ho : (Cd.get4 l n).op = o) (hk : (Cd.kOf o == 2) = true) : ∃ j : Nat, Cd.place l (Cd.get4 l n).a 0 = some j ∧ j < l.length := by
  unfold Cd.full at h
  split at h
  · cases h
  split at h
  · cases h
  unfold Cd.dec at h
  split at h
  · cases h
  rename_i l' hx
  split at h
  · cases h
  rename_i hb
  cases h
  have h1 := none_bad l l hb _ (Cd.get4_mem l n hn)
  unfold Cd.bad at h1
  rw [ho, Int.toNat_natCast, hk, Bool.true_and] at h1
  cases hp : Cd.place l (Cd.get4 l n).a 0 with
  | none => rw [hp] at h1; cases h1
  | some j => exact ⟨j, rfl, by have := place_lt l _ 0 j hp; omega⟩
theorem SL.atSt {M : Nat → Prop} {w : World} {ao : Option Addr} {len cap : Nat} {l : List StD} (h : SL 3 RSt M w (.slice ao len cap) l) (k : Nat) (hk : k < l.length) :
    ∃ b off a1 c1 a2 c2, ao = some ⟨b, off, none⟩ ∧ b < w.heap.size ∧ w.cell? ⟨b, off + k * 3, none⟩ = some (.bool l[k].comes) ∧ w.cell? ⟨b, off + k * 3 + 1, none⟩ = some (.slice a1 l[k].locals.length c1) ∧ w.cell? ⟨b, off + k * 3 + 2, none⟩ = some (.slice a2 l[k].stack.length c2) ∧ l[k].locals.length ≤ maxLen ∧ l[k].stack.length ≤ maxLen := by
  obtain ⟨b, off, cs, e, _, hb, _, hc, vL, vS, rfl, h1, h2⟩ := h.at k hk
  obtain ⟨a1, c1, rfl, -, s1, -⟩ := h1
  obtain ⟨a2, c2, rfl, -, s2, -⟩ := h2
  exact ⟨b, off, a1, c1, a2, c2, e, hb, hc 0 (by omega), hc 1 (by omega), hc 2 (by omega), s1, s2⟩
def MR (sD : Option SA) (M : Nat → Prop) (W : World) (a : Option Addr) (n c : Nat) (e : Int) : Prop :=
  (e = 0 ∧ ∃ s, sD = some s ∧ n = s.S.length ∧ SL 3 RSt M W (.slice a n c) s.S) ∨ (e ≠ 0 ∧ n = 0)
theorem MR.kept {sD : Option SA} {M M' : Nat → Prop} {W W' : World} {a : Option Addr} {n c : Nat} {e : Int} (h : MR sD M W a n c e) (hk : Kp M W W') (hM : ∀ b, M b → M' b) : MR sD M' W' a n c e :=
  h.imp (fun ⟨h0, s, h1, h2, h3⟩ => ⟨h0, s, h1, h2, (h3.keptSt hk).monoSt hM⟩) id
theorem MthOut.one {sD : Option SA} {r : Ending} {w w' : World} (h : MthOut sD r w w') : ∃ a n c e p, r = .returned (.tuple #[.slice a n c, .agg #[.int .i64 e, .int .i64 p]]) ∧ Below w.heap.size w w' ∧ MR sD (fun k => w.heap.size ≤ k ∧ k < w'.heap.size) w' a n c e := by
  rcases h with ⟨hb, ⟨s, v, hs, hr, hv⟩ | ⟨-, e, p, he, hr⟩⟩
  · obtain ⟨a, c, e, -⟩ := id hv
    subst e
    exact ⟨a, s.S.length, c, 0, 0, hr, hb, Or.inl ⟨rfl, s, hs, rfl, hv⟩⟩
  · exact ⟨none, 0, 0, e, p, hr, hb, Or.inr ⟨he, rfl⟩⟩
theorem two_set {W : World} {b t : Nat} {x y : Value} (h : W.heap[b]? = some (.cells #[x, y] t (0, 0))) (u v : Value) {B : Nat} (hB : B ≤ b) : ((W.setCell ⟨b, 0, none⟩ u).setCell ⟨b, 1, none⟩ v).heap[b]? = some (.cells #[u, v] t (0, 0)) ∧ Below B W ((W.setCell ⟨b, 0, none⟩ u).setCell ⟨b, 1, none⟩ v) ∧ ∀ k, k ≠ b → ((W.setCell ⟨b, 0, none⟩ u).setCell ⟨b, 1, none⟩ v).heap[k]? = W.heap[k]? :=
  ⟨heap_setX (heap_setX h u) v, ((Below.refl B W).setCell hB _).setCell hB _, fun _ hk => (Below.heap_setCell _ _ _ _ hk).trans (Below.heap_setCell _ _ _ _ hk)⟩
theorem set_size (W : World) (p q : Addr) (u v : Value) : ((W.setCell p u).setCell q v).heap.size = W.heap.size := by simp [World.setCell]
def R10 (sD : Option SA) (w5 : World) (v10 v11 : Value) (W : World) : Prop := ∃ a n c e p b, v10 = .slice a n c ∧ v11 = .pointer (some ⟨b, 0, none⟩) ∧ Below w5.heap.size w5 W ∧ w5.heap.size ≤ b ∧ W.heap[b]? = some (.cells #[.int .i64 e, .int .i64 p] 46 (0, 0)) ∧ MR sD (fun k => k ≠ b ∧ k < W.heap.size) W a n c e
theorem R10.last {sD : Option SA} {w5 w6 : World} {a : Option Addr} {n c B : Nat} {e p : Int} (hb : Below w5.heap.size w5 w6) (hm : MR sD (fun k => B ≤ k ∧ k < w6.heap.size) w6 a n c e) : R10 sD w5 (.slice a n c) (.pointer (some ⟨w6.heap.size, 0, none⟩)) (w6.alloc (.cells #[.int .i64 e, .int .i64 p] 46)) := by
  have hs : (w6.alloc (.cells #[.int .i64 e, .int .i64 p] 46)).heap.size = w6.heap.size + 1 := by simp
  have hk : Below w6.heap.size w6 (w6.alloc (.cells #[.int .i64 e, .int .i64 p] 46)) := (Below.refl _ _).alloc (Nat.le_refl _) _
  exact ⟨a, n, c, e, p, _, rfl, rfl, hb.alloc hb.size _, hb.size, heap_alloc_new w6 _, hm.kept ⟨hk.size, fun b h _ => hk.block b h.2⟩ fun b h => ⟨by have := h.2; omega, by have := h.2; omega⟩⟩
theorem R10.first {sD : Option SA} {w5 w6 V : World} {a : Option Addr} {n c : Nat} {e p : Int} (hV : V = w5.drew.alloc (.cells #[.int .i64 0, .int .i64 0] 46)) (hb : Below V.heap.size V w6) (hm : MR sD (fun k => V.heap.size ≤ k ∧ k < w6.heap.size) w6 a n c e) : R10 sD w5 (.slice a n c) (.pointer (some ⟨w5.heap.size, 0, none⟩)) ((w6.setCell ⟨w5.heap.size, 0, none⟩ (.int .i64 e)).setCell ⟨w5.heap.size, 1, none⟩ (.int .i64 p)) := by
  have hs : V.heap.size = w5.heap.size + 1 := by rw [hV]; simp
  have h0 : Below w5.heap.size w5 V := by rw [hV]; exact (Below.refl _ _).drew.alloc (Nat.le_refl _) _
  have hz : w6.heap[w5.heap.size]? = some (.cells #[.int .i64 0, .int .i64 0] 46 (0, 0)) := (hb.block _ (by omega)).trans (by rw [hV]; exact heap_alloc_new w5.drew _)
  obtain ⟨h1, h2, h3⟩ := two_set hz (.int .i64 e) (.int .i64 p) (Nat.le_refl w5.heap.size)
  have hz2 := set_size w6 ⟨w5.heap.size, 0, none⟩ ⟨w5.heap.size, 1, none⟩ (.int .i64 e) (.int .i64 p)
  exact ⟨a, n, c, e, p, _, rfl, rfl, (h0.trans (hb.mono (by omega))).trans h2, Nat.le_refl _, h1, hm.kept ⟨by omega, fun b h _ => h3 b (by have := h.1; omega)⟩ fun b h => ⟨by have := h.1; omega, by have := h.2; omega⟩⟩
theorem Has.same {w w' : World} {b off : Nat} {l : List Cd.Op4} (h : Cd.Has w b off l) (e : w'.heap[b]? = w.heap[b]?) (hs : w.heap.size ≤ w'.heap.size) : Cd.Has w' b off l :=
  have key : ∀ o, w'.cell? ⟨b, o, none⟩ = w.cell? ⟨b, o, none⟩ := fun o => World.cell?_of_block (a := ⟨b, o, none⟩) e
  ⟨fun k hk => (key _).trans (h.c0 k hk), fun k hk => (key _).trans (h.c1 k hk), fun k hk => (key _).trans (h.c2 k hk), fun k hk => (key _).trans (h.c3 k hk), Nat.lt_of_lt_of_le h.lt hs⟩
end Go.Proofs.YtfibgdcpbkaaoaaGreatDoor
/- What must be in any case, of methods' states. -/
namespace Go.Proofs.YtfibgdcpbkaaoaaGreatDoor
open Go.RowKit Go.Maps
def bm0 : MethD := ((baseDL[0]?.getD cls0).meths[0]?).getD methZ
def begunB : Bool := match statesD (linkD baseDL) (lnN baseDL) bm0 0 with
  | some s => decide (s.S.length = 3) && ((s.S[1]?).getD st0).comes && decide (((s.S[1]?).getD st0).stack.length = 1)
  | none => false
theorem begun_ok : begunB = true := by kernel_rfl
theorem bm0_code : Cd.full bm0.code = .ok [⟨0, 1, 7, 0⟩, ⟨3, 31, 0, 0⟩, ⟨4, 27, 0, 0⟩] := by kernel_rfl
theorem begun_st : ∃ s, statesD (linkD baseDL) (lnN baseDL) bm0 0 = some s ∧ s.S.length = 3 ∧ ∃ h : 1 < s.S.length, s.S[1].comes = true ∧ s.S[1].stack.length = 1 := by
  have h := begun_ok
  unfold begunB at h
  split at h
  · rename_i s hs
    rw [Bool.and_eq_true, Bool.and_eq_true, decide_eq_true_iff, decide_eq_true_iff] at h
    have h1 : 1 < s.S.length := by omega
    rw [List.getElem?_eq_getElem h1] at h
    exact ⟨s, hs, h.1.1, h1, h.1.2, h.2⟩
  · cases h
theorem bm0_mem : ∃ c ∈ baseDL, bm0 ∈ c.meths := ⟨_, List.mem_cons_self, List.mem_cons_self⟩
theorem base_run : ∀ l B P v n, Cd.full bm0.code = .ok l → n < l.length → RunOk ⟨linkD baseDL, lnN baseDL, bm0, l⟩ B P v (Cd.get4 l n) := fun l B P v n h hn => by
  obtain ⟨c, hc, hm⟩ := bm0_mem
  have hw := wf_link base_tie hc hm h
  rw [bm0_code] at h
  cases h
  have hn' : n < 3 := hn
  match n, hn' with
  | 0, _ => exact run_1 hw rfl (fun h => absurd rfl h)
  | 1, _ => exact run_31 hw rfl (fun _ => Int.le_refl _)
  | 2, _ => exact run_27 hw rfl (fun _ => Int.le_refl _) (Nat.zero_le _)
theorem base_method (w : World) (B : Nat) (aC aS aF aN aT : Option Addr) (cC cS cF cN cT : Nat) (hk : RLk (· < B) w (.slice aC (linkD baseDL).classes.length cC) (.slice aS (linkD baseDL).supers.length cS) (.slice aF (linkD baseDL).fields.length cF) (.slice aN (linkD baseDL).names.length cN) (.slice aT (linkD baseDL).targets.length cT) (linkD baseDL)) (hB : B ≤ w.heap.size) (hg : GlK w) (hT : Cd.Tabs w) :
    Calls Tryz.prog 9 #[.agg #[.slice aC (linkD baseDL).classes.length cC, .slice aS (linkD baseDL).supers.length cS, .slice aF (linkD baseDL).fields.length cF, .slice aN (linkD baseDL).names.length cN, .slice aT (linkD baseDL).targets.length cT], .int .i64 ((0 : Nat) : Int), .int .i64 ((0 : Nat) : Int)] w fun r w' => MthOut (statesD (linkD baseDL) (lnN baseDL) bm0 0) r w w' := by
  obtain ⟨c, hc, hm⟩ := bm0_mem
  have mo := meth_ok base_tie hc hm
  exact Method_any w B aC aS aF aN aT cC cS cF cN cT (linkD baseDL) hk hB hg hT (chk_link base_tie) (by decide) (lnN baseDL) 0 0 (by decide) (by decide) bm0 rfl (cls_link base_tie) mo.lc.2 mo.na mo.ga (fun l hl => wf_link base_tie hc hm hl) base_run (fun l _ h hh => by cases hh)
set_option maxRecDepth 100000 in
set_option maxHeartbeats 4000000 in
theorem verifyBegun_any (w : World) (hg : GlK w) (hT : Cd.Tabs w) : Calls Tryz.prog 4 #[] w fun r w' => r = .returned (.bool true) ∧ Below w.heap.size w w' := by
  obtain ⟨bl, hbl⟩ : ∃ bl, bl = baseDL := ⟨_, rfl⟩
  obtain ⟨bd, hbd⟩ : ∃ bd, bd = linkD bl := ⟨_, rfl⟩
  obtain ⟨s, hs0, hs3, h1s, hs1, hs2⟩ := begun_st
  have HBA : Hid (Calls Tryz.prog 13 #[] w fun r w' => Below w.heap.size w w' ∧ ∃ v, r = .returned v ∧ SL 4 RC (· < w'.heap.size) w' v bl) := by
    show Calls _ _ _ _ _
    rw [hbl]
    exact base_anyL w
  have HLK : Hid (∀ w B v, SL 4 RC (· < B) w v bl → B ≤ w.heap.size → Calls Tryz.prog 7 #[v] w fun r w' => Below w.heap.size w w' ∧ ∃ kC kS kF kN kT, r = .returned (.tuple #[.agg #[kC, kS, kF, kN, kT], .int .i64 0]) ∧ RLk (· < w'.heap.size) w' kC kS kF kN kT bd) := fun w B v hv hB => (Link_any w B bl v hv hB).mono fun r w' ⟨hb, h⟩ => by
    rcases h with ⟨-, kC, kS, kF, kN, kT, h1, h2⟩ | ⟨h0, -⟩
    · exact ⟨hb, kC, kS, kF, kN, kT, h1, hbd ▸ h2.mono fun k h => h.2⟩
    · exact absurd (hbl ▸ base_tie) h0
  have HMT : Hid (∀ (w : World) (B : Nat) (aC aS aF aN aT : Option Addr) (cC cS cF cN cT : Nat), RLk (· < B) w (.slice aC bd.classes.length cC) (.slice aS bd.supers.length cS) (.slice aF bd.fields.length cF) (.slice aN bd.names.length cN) (.slice aT bd.targets.length cT) bd → B ≤ w.heap.size → GlK w → Cd.Tabs w → Calls Tryz.prog 9 #[.agg #[.slice aC bd.classes.length cC, .slice aS bd.supers.length cS, .slice aF bd.fields.length cF, .slice aN bd.names.length cN, .slice aT bd.targets.length cT], .int .i64 0, .int .i64 0] w fun r w' => Below w.heap.size w w' ∧ ∃ v, r = .returned (.tuple #[v, .agg #[.int .i64 0, .int .i64 0]]) ∧ SL 3 RSt (fun k => w.heap.size ≤ k ∧ k < w'.heap.size) w' v s.S) := fun W B aC aS aF aN aT cC cS cF cN cT hk hB hgW hTW => by
    subst hbl
    subst hbd
    refine (base_method W B aC aS aF aN aT cC cS cF cN cT hk hB hgW hTW).mono ?_
    rintro r w' ⟨hb, ⟨s', v, e, h1, h2⟩ | ⟨e, -⟩⟩
    · rw [hs0] at e
      cases e
      exact ⟨hb, v, h1, h2⟩
    · rw [hs0] at e
      cases e
  have HG := mkHid hg
  have HT := mkHid hT
  have HS3 := mkHid hs3
  have HS1 := mkHid hs1
  have HS2 := mkHid hs2
  clear hbl hbd hg hT hs0 hs3 hs1 hs2
  go_enter Tryz.func4, Tryz.ntmps4
  go_wp2_with fail
  refine HBA.out.mono ?_
  rintro r w1 ⟨hb1, v, rfl, sv⟩
  have HB1 := mkHid hb1
  have HSV := mkHid sv
  obtain ⟨a0, c0, rfl, -⟩ := sv
  clear hb1
  go_wp2_with fail
  refine (HLK.out w1 w1.heap.size _ HSV.out (Nat.le_refl _)).mono ?_
  rintro r w2 ⟨hb2, kC, kS, kF, kN, kT, rfl, hk⟩
  obtain ⟨aC, cC, aS, cS, aF, cF, aN, cN, aT, cT, rfl, rfl, rfl, rfl, rfl⟩ := hk.agg
  have HB2 := mkHid (HB1.out.trans (hb2.mono HB1.out.size))
  have HB3 := mkHid ((Below.refl w2.heap.size w2).alloc (Nat.le_refl _) (.cells #[.slice aC bd.classes.length cC, .slice aS bd.supers.length cS, .slice aF bd.fields.length cF, .slice aN bd.names.length cN, .slice aT bd.targets.length cT] 29))
  have HK3 := mkHid (hk.kept (Kp.below HB3.out))
  have HBW3 := mkHid (HB2.out.trans (HB3.out.mono HB2.out.size))
  clear hk hb2 HSV
  go_wp2_with fail
  refine (HMT.out _ w2.heap.size _ _ _ _ _ _ _ _ _ _ HK3.out HB3.out.size (HG.out.below HBW3.out) (HT.out.below HBW3.out)).mono ?_
  rintro r w4 ⟨hb4, v4, rfl, hs4⟩
  have HB4 := mkHid (HBW3.out.trans (hb4.mono HBW3.out.size))
  have hl3 := HS3.out
  obtain ⟨ao, cap, rfl, hcap, -, hel⟩ := hs4
  obtain ⟨b4, o4, cs, e4, -, hb4l, hcs, hcell, vL, vS, rfl, -, hSt⟩ := hel 1 h1s
  subst e4
  have c3 : w4.cell? ⟨b4, o4 + 3, none⟩ = some (.bool true) := by
    have := hcell 0 (by omega)
    rw [HS1.out] at this
    exact this
  obtain ⟨a5, c5, rfl, -⟩ := hSt
  have c5' : w4.cell? ⟨b4, o4 + 3 + 2, none⟩ = some (.slice a5 1 c5) := by
    have := hcell 2 (by omega)
    rw [HS2.out] at this
    exact this
  rw [hl3]
  have HBF := mkHid (fun o => HB4.out.alloc HB4.out.size o)
  clear hel hcell hcs hcap hb4 HK3 hl3
  go_wp2_with fail
  go_ret
  exact ⟨rfl, HBF.out _⟩
end Go.Proofs.YtfibgdcpbkaaoaaGreatDoor
