/- What operations' runs are: two numbers are taken, one is put. -/
import Derived.Test.YtfibgdcpbkaaoaaGreatDoorTka
import Derived.Test.YtfibgdcpbkaaoaaGreatDoorVmE
import Derived.Test.YtfibgdcpbkaaoaaGreatDoorVmG
import Derived.Test.YtfibgdcpbkaaoaaGreatDoorVmQ
namespace Go.Proofs.YtfibgdcpbkaaoaaGreatDoor
open Go.RowKit Go.Maps
set_option maxRecDepth 100000 in
set_option maxHeartbeats 4000000 in
theorem run_count {c : Lkr} {B P : Nat} {v : LkV} (hw : Wf c) {x : Cd.Op4} {n : Int} (hn : n = 8 ∨ n = 9 ∨ n = 10 ∨ n = 11 ∨ n = 12) (hop : x.op = n) (hxa : x.op ≠ 1 → 0 ≤ x.a) : RunOk c B P v x := by
  rcases hn with rfl | rfl | rfl | rfl | rfl
  all_goals
    intro W F Q vL vS lo st hl hBF h hst hlo
    have HU := mkHid hlo
    clear HU
    have H := mkHid h
    have HL := mkHid hl
    have HW := mkHid hw
    have HTL := mkHid (tells_any W hl h hw.fl hxa)
    have HF : Hid (F ≤ W.heap.size) := h.ff
    have HBF := mkHid hBF
    cases ht : tellsD c x lo.length with
    | false =>
      have HRD : Hid (runD c x lo st = none) := by show _ = _; unfold runD; rw [ht]; rfl
      rw [ht] at HTL
      clear h hl
      go_enter Tryz.func92, Tryz.ntmps92
      go_wp2_with fail
      refine HTL.out.mono ?_
      rintro r w1 ⟨rfl, hb1⟩
      have HB1 := mkHid hb1
      clear hb1
      go_wp2_with fail
      refine (sdemand_any _ (H.out.up HB1.out) _ _).mono ?_
      rintro r w2 ⟨hw2, ⟨hb, rfl⟩ | ⟨hb, rfl⟩⟩
      · exact ⟨rfl, by rw [hw2]; exact SpOut.fail' HRD.out (HB1.out.mono HF.out) ⟨3, _, by decide, rfl⟩⟩
      · exact absurd hb (by simp)
    | true =>
      have HRD : Hid (runD c x lo st = (tpD c lo st [numK, numK] fun _ => some [numK]).bind fun r => if decide ((r.2.length : Int) ≤ c.m.stack) then some r else none) := by
        show _ = _
        unfold runD spawnD workD
        rw [ht, hop]
        rfl
      rw [ht] at HTL
      clear h hl
      go_enter Tryz.func92, Tryz.ntmps92
      go_wp2_with fail
      refine HTL.out.mono ?_
      rintro r w1 ⟨rfl, hb1⟩
      have HB1 := mkHid hb1
      have H1 := mkHid (H.out.up hb1)
      have HL1 := mkHid (HL.out.below (hb1.mono HL.out.bw))
      clear hb1
      go_wp2_with fail
      refine (sdemand_any _ H1.out _ _).mono ?_
      rintro r w2 ⟨hw2, ⟨hb, rfl⟩ | ⟨hb, rfl⟩⟩
      · exact absurd hb (by simp)
      rw [hw2]
      clear hb hw2 w2
      have c2 := cell_of H1.out.blk 2 (x := .int .i64 x.op) rfl
      rw [hop] at c2
      obtain ⟨-, -, -, -, -, -, n0, n1, -, -, -⟩ := HL1.out.gl
      go_wp2_with fail
      refine (takeN_any hw.cls _ HL1.out hBF H1.out (by omega) [numK, numK] _ rfl (sm2 sm_num sm_num) (by decide)).mono ?_
      rintro r w2 ⟨hb2, ⟨t2, rest2, v2, vS2, ht2, rfl, hs2, hp2⟩ | ⟨hn2, e2, p2, he2, rfl⟩⟩
      rotate_left
      · exact ⟨rfl, SpOut.fail' (by rw [HRD.out, tp_none hn2]; rfl) ((HB1.out.mono HF.out).trans hb2) ⟨_, _, he2, rfl⟩⟩
      have HT2 := mkHid ht2
      have H2 := mkHid hp2
      have HB2 := mkHid hb2
      have hst2 : rest2.length ≤ 10 := Nat.le_trans (take_len ht2).2.1 (by omega)
      clear ht2 hs2 hp2 hb2 n0 n1
      obtain ⟨-, -, -, -, -, -, n0, n1, -, -, -⟩ := (HL1.out.below (HB2.out.mono hBF)).gl
      go_wp2_with fail
      refine (putN_any _ H2.out [numK] _ rfl (sm1 sm_num) (gd1 (numK_gd c)) (by simp; omega)).mono ?_
      rintro r w3 ⟨rfl, hb9, vS3, hp3⟩
      obtain ⟨st3, hst3⟩ : ∃ s, s = rest2 ++ [numK] := ⟨_, rfl⟩
      rw [← hst3] at hp3
      have hb3 : Below F w1 w3 := HB2.out.trans hb9
      have hr3 : (tpD c lo st [numK, numK] fun _ => some [numK]) = some (lo, st3) := by rw [hst3]; exact tp_some (lo := lo) (puts := fun _ => some [numK]) HT2.out rfl
      obtain ⟨lo3, hlo3⟩ : ∃ s, s = lo := ⟨_, rfl⟩
      obtain ⟨vL3, hvL3⟩ : ∃ s, s = vL := ⟨_, rfl⟩
      rw [← hlo3, ← hvL3] at hp3
      have hres3 : Hid ((tpD c lo st [numK, numK] fun _ => some [numK]) = some (lo3, st3)) := by rw [hlo3]; exact hr3
      have HB3 := mkHid ((HB1.out.mono HF.out).trans hb3)
      have H3 := mkHid hp3
      clear hb9 hst3 hlo3 hvL3 n0 n1
      have hp3' : Sp c F P Q x w3 vL3 vS3 lo3 st3 := hp3
      obtain ⟨aS3, cS3, rfl⟩ := own_shape hp3'.oS
      have HL3 := mkHid (HL1.out.below (hb3.mono HBF.out))
      have q0 := cell_of hp3'.blk 0 (x := .pointer (some ⟨P, 0, none⟩)) rfl
      have q6 := cell_of hp3'.blk 6 (x := .slice aS3 st3.length cS3) rfl
      have p11 := cell_of HL3.out.blk 11 (x := .int .i64 c.m.stack) rfl
      have lQ : Q < w3.heap.size := lt_of hp3'.blk
      have lP : P < w3.heap.size := lt_of HL3.out.blk
      clear hb3 hr3 hp3 hp3' c2 hop
      go_wp2_with fail
      refine wp_region_held_drew (S := fun W' => ∀ p : Addr, p.block < w3.heap.size → W'.cell? p = w3.cell? p) (by kernel_rfl) (fun p hp => rfl) fun hH => ?_
      refine ta 0 (.pointer (some ⟨Q, 0, none⟩)) rfl hH ?_
      refine ta 1 (.pointer (some ⟨Q, 0, none⟩)) rfl hH ?_
      refine ta 2 (.pointer (some ⟨Q, 0, none⟩)) rfl hH ?_
      refine ta 3 (.pointer (some ⟨Q, 6, none⟩)) rfl hH ?_
      refine ta 4 (.slice aS3 st3.length cS3) rfl hH ?_
      refine ta 5 (.int .i64 st3.length) rfl hH ?_
      refine ta 6 (.pointer (some ⟨Q, 0, none⟩)) rfl hH ?_
      refine ta 7 (.pointer (some ⟨Q, 0, none⟩)) rfl hH ?_
      refine ta 8 (.pointer (some ⟨Q, 0, none⟩)) rfl hH ?_
      refine ta 9 (.pointer (some ⟨P, 0, none⟩)) rfl hH ?_
      refine ta 10 (.pointer (some ⟨P, 0, none⟩)) rfl hH ?_
      refine ta 11 (.pointer (some ⟨P, 6, none⟩)) rfl hH ?_
      refine ta 12 (.pointer (some ⟨P, 11, none⟩)) rfl hH ?_
      refine ta 13 (.int .i64 c.m.stack) rfl hH ?_
      refine ta 14 (.bool (decide ((st3.length : Int) ≤ c.m.stack))) rfl hH ?_
      refine wpAnyH_ready (rs := [15]) (by kernel_rfl) (by simp) ?_
      refine AllReadyH.cons rfl (fun K15 hK15 => ?_) AllReadyH.nil
      go_simp
      refine (sdemand_any _ (H3.out.up (Below.refl _ _).drew) _ _).mono ?_
      rintro r w4 ⟨hw4, ⟨hb, rfl⟩ | ⟨hb, rfl⟩⟩
      · exact ⟨rfl, by rw [hw4]; exact SpOut.fail' (by rw [HRD.out, hres3.out]; show (if decide ((st3.length : Int) ≤ c.m.stack) = true then _ else _) = _; rw [hb]; rfl) HB3.out.drew ⟨2, _, by decide, rfl⟩⟩
      rw [hw4]
      have HOK4 := mkHid hb
      clear hb hw4 w4
      refine hK15.out _ _ (fun p hp => rfl) fun hH => ?_
      refine wpAnyH_done (by kernel_rfl) ?_ _
      clear hH
      try simp only [Act.put, List.setIfInBounds_toArray, List.set_cons_zero, List.set_cons_succ, List.getElem_toArray, List.getElem_cons_zero, List.getElem_cons_succ]
      go_wp2_with fail
      go_end0
      exact SpOut.ok (by rw [HRD.out, hres3.out]; show (if decide ((st3.length : Int) ≤ c.m.stack) = true then _ else _) = _; rw [HOK4.out]; rfl) HB3.out.drew (H3.out.up (Below.refl _ _).drew)
end Go.Proofs.YtfibgdcpbkaaoaaGreatDoor
