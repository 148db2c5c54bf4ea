/- The law: each operation of what is right may be run with what its state tells. -/
import Derived.Test.YtfibgdcpbkaaoaaGreatDoorTka
import Derived.Test.YtfibgdcpbkaaoaaGreatDoorVoR
import Derived.Test.YtfibgdcpbkaaoaaGreatDoorJVmRVnB
import Derived.Test.YtfibgdcpbkaaoaaGreatDoorJLTieLBeg
import Derived.Test.YtfibgdcpbkaaoaaGreatDoorCho
import Derived.Test.YtfibgdcpbkaaoaaGreatDoorJCdDecCdBegun
import Derived.Test.YtfibgdcpbkaaoaaGreatDoorCdPlaceRef
namespace Go.Proofs.YtfibgdcpbkaaoaaGreatDoor
open Go.RowKit Go.Maps
set_option maxRecDepth 100000 in
set_option maxHeartbeats 16000000 in
theorem verifyHolds_any (w : World) (B : Nat) (v : Value) (l : List ClassD) (hv : SL 4 RC (· < B) w v l) (hB : B ≤ w.heap.size) (hg : GlK w) (hT : Cd.Tabs w) (ci mi : Int) (hc1 : -9223372036854775808 ≤ ci) (hc2 : ci ≤ 9223372036854775807) (hm1 : -9223372036854775808 ≤ mi) (hm2 : mi ≤ 9223372036854775807) :
    Calls Tryz.prog 3 #[v, .int .i64 ci, .int .i64 mi] w fun r w' => r = .returned (.bool true) ∧ Below w.heap.size w w' := by
  have HVB := mkHid (verifyBegun_any w hg hT)
  have HG := mkHid hg
  have HTT := mkHid hT
  have HV := mkHid hv
  obtain ⟨av, cv, rfl, -⟩ := hv
  clear hg hT
  go_enter Tryz.func3, Tryz.ntmps3
  go_wp2_with fail
  refine HVB.out.mono ?_
  rintro r w1 ⟨rfl, hb1⟩
  have HB1 := mkHid hb1
  clear hb1
  go_wp2_with fail
  refine (linkBegun_any w1).mono ?_
  rintro r u2 ⟨rfl, hb2⟩
  have HBu2 : Hid (Below w.heap.size w u2) := HB1.out.trans (hb2.mono HB1.out.size)
  clear hb2
  go_wp2_with fail
  refine (Cd.begun_any u2 (HTT.out.below HBu2.out)).mono ?_
  rintro r w2 ⟨rfl, hb2⟩
  have HBw2 : Hid (Below w.heap.size w w2) := HBu2.out.trans (hb2.mono HBu2.out.size)
  clear hb2
  go_wp2_with fail
  refine (Link_any w2 B l _ (HV.out.keptC (Kp.below (HBw2.out.mono hB))) (Nat.le_trans hB HBw2.out.size)).mono ?_
  rintro r w3 ⟨hb3, ⟨htie, kC, kS, kF, kN, kT, rfl, hk⟩ | ⟨htie, rfl⟩⟩
  rotate_left
  · have HBF := mkHid (fun o => (HBw2.out.trans (hb3.mono HBw2.out.size)).alloc (Nat.le_trans HBw2.out.size hb3.size) o)
    have hne : ¬ tieRes l = 0 := htie
    have hnb : (tieRes l != 0) = true := by simpa using htie
    unfold nilLk
    generalize tieRes l = e at *
    clear hb3 htie
    go_wp2_with fail
    go_ret
    exact ⟨rfl, HBF.out _⟩
  have HTIE := mkHid htie
  have hkk := hk.mono (M' := (· < w3.heap.size)) fun k h => h.2
  obtain ⟨aC, cC, aS, cS, aF, cF, aN, cN, aT, cT, rfl, rfl, rfl, rfl, rfl⟩ := hkk.agg
  have HB3 : Hid (Below w.heap.size w w3) := HBw2.out.trans (hb3.mono HBw2.out.size)
  have HK := mkHid hkk
  have hten : l.length ≤ 10 := by
    have := tie_chk htie
    unfold checkL at this
    exact of_decide_eq_true (dem_zero this (by decide)).1
  have hpos : 0 < l.length := by
    obtain ⟨n, hn, -⟩ := (cls_link htie).nm _ (cls_link htie).kt
    have hn' : n < l.length := hn
    omega
  obtain ⟨w4, hw4, hB4, hs4, hbK⟩ := boxes1 w3 #[.slice aC (linkD l).classes.length cC, .slice aS (linkD l).supers.length cS, .slice aF (linkD l).fields.length cF, .slice aN (linkD l).names.length cN, .slice aT (linkD l).targets.length cT] 29
  have HB34 := mkHid hB4
  have HB4 : Hid (Below w.heap.size w w4) := HB3.out.trans (hB4.mono HB3.out.size)
  have HBK := mkHid hbK
  obtain ⟨n, hn, hch⟩ := choose_any ci l.length hc1 hc2 hpos hten
  have HCH := mkHid hch
  have hV4 := HV.out.keptC (Kp.below (HB4.out.mono hB))
  obtain ⟨bC, oC, vf, vm, e9, hbC, -, -, -, k3, -, hM, -, -⟩ := hV4.atC n hn
  subst e9
  have hM0 := hM
  obtain ⟨aM, cM, rfl, -⟩ := hM0
  have hn1 : (n : Int) < l.length := by omega
  have hn0 : (0 : Int) ≤ n := by omega
  have HLN : Hid (l[n].meths.length ≤ 10) := by
    have h1 := tie_chk htie
    unfold checkL at h1
    have h2 := allE_zero (dem_zero h1 (by decide)).2 l[n] (List.getElem_mem hn)
    unfold checkClass at h2
    have h3 := of_decide_eq_true (dem_zero (dem_zero (dem_zero (dem_zero h2 (by decide)).2 (by decide)).2 (by decide)).2 (by decide)).1
    exact Nat.le_trans h3 (by decide)
  clear hb3 hk hkk hB4 hs4 hbK hch htie
  go_wp2_with fail
  rw [← hw4]
  refine (HCH.out w4).mono ?_
  rintro r w5 ⟨rfl, hw5⟩
  rw [hw5]
  clear hw5 w5 hw4
  by_cases hz : l[n].meths.length = 0
  · have hz0 : ((l[n].meths.length : Int) == 0) = true := by rw [hz]; rfl
    clear hM
    generalize l[n].meths.length = lm at *
    go_wp2_with fail
    go_ret
    exact ⟨rfl, HB4.out⟩
  have hz0 : ((l[n].meths.length : Int) == 0) = false := beq_eq_false_iff_ne.2 (by omega)
  have hz1 : ¬ (l[n].meths.length : Int) = 0 := by omega
  obtain ⟨k, hk, hch⟩ := choose_any mi l[n].meths.length hm1 hm2 (by omega) HLN.out
  have HCM := mkHid hch
  obtain ⟨bM, oM, va, vh, e9, hbM, m0, m1, m2, m3, m4, m5, m6, m7, m8, hva, hvh, -, -, hcsz⟩ := hM.atM k hk
  subst e9
  obtain ⟨aa, ca, rfl, -⟩ := hva
  obtain ⟨ah, ch, rfl, -⟩ := hvh
  have HMT : Hid (∀ V, Below w4.heap.size w4 V → Calls Tryz.prog 9 #[.agg #[.slice aC (linkD l).classes.length cC, .slice aS (linkD l).supers.length cS, .slice aF (linkD l).fields.length cF, .slice aN (linkD l).names.length cN, .slice aT (linkD l).targets.length cT], .int .i64 (n : Int), .int .i64 (k : Int)] V fun r w' => MthOut (statesD (linkD l) (lnN l) l[n].meths[k] n) r V w') := fun V hV =>
    methodL_any HTIE.out V w3.heap.size aC aS aF aN aT cC cS cF cN cT (HK.out.kept (Kp.below (HB34.out.trans (hV.mono HB34.out.size)))) (Nat.le_trans HB34.out.size hV.size) (HG.out.below (HB4.out.trans (hV.mono HB4.out.size))) (HTT.out.below (HB4.out.trans (hV.mono HB4.out.size))) n k hn hk
  have HRG : Hid (∀ s, statesD (linkD l) (lnN l) l[n].meths[k] n = some s → ∃ ins, Cd.full l[n].meths[k].code = .ok ins ∧ Rgt l[n].meths[k] ins s.S) := fun s hs =>
    states_right hn (cls_link HTIE.out) (meth_ok HTIE.out (List.getElem_mem hn) (List.getElem_mem hk)).ga (fun ins hi => wf_link HTIE.out (List.getElem_mem hn) (List.getElem_mem hk) hi) hs
  have HMO : Hid (0 ≤ l[n].meths[k].locals) := (meth_ok HTIE.out (List.getElem_mem hn) (List.getElem_mem hk)).lc.1
  have HCZ := mkHid hcsz
  have hk1 : (k : Int) < l[n].meths.length := by omega
  have hk0 : (0 : Int) ≤ k := by omega
  clear hM hch hcsz hz HLN
  generalize statesD (linkD l) (lnN l) l[n].meths[k] n = sD at *
  generalize l[n].meths[k] = m at *
  clear hk
  generalize l[n].meths.length = lm at *
  have lC4 : bC < w4.heap.size := hbC
  have lM4 : bM < w4.heap.size := hbM
  clear hbC hbM hV4
  go_upto_region 9 with fail
  go_cut [9] (fun v9 W => v9 = .pointer (some ⟨w4.heap.size, 0, none⟩) ∧ Below w4.heap.size w4 W ∧ W.heap[w4.heap.size]? = some (.cells #[.string m.name, .bool m.static, .slice aa m.args.length ca, .int .i64 m.ret.kind, .string m.ret.cls, .int .i64 m.stack, .int .i64 m.locals, .string m.code, .slice ah m.hands.length ch] 43 (0, 0)))
  case first =>
    refine wp_region_held_drew (S := fun W' => ∀ p : Addr, p.block < w4.heap.size → W'.cell? p = w4.cell? p) (by kernel_rfl) (fun p hp => rfl) fun hH => ?_
    refine ta 0 (.slice (some ⟨bC, oC, none⟩) l.length cv) rfl hH ?_
    refine ta 1 (.int .i64 (n : Int)) rfl hH ?_
    refine ta 2 (.pointer (some ⟨bC, oC + n * 4, none⟩)) rfl hH ?_
    refine ta 3 (.pointer (some ⟨bC, oC + n * 4 + 3, none⟩)) rfl hH ?_
    refine ta 4 (.slice (some ⟨bM, oM, none⟩) lm cM) rfl hH ?_
    refine ta 5 (.int .i64 mi) rfl hH ?_
    refine ta 6 (.slice (some ⟨bC, oC, none⟩) l.length cv) rfl hH ?_
    refine ta 7 (.int .i64 (n : Int)) rfl hH ?_
    refine ta 8 (.pointer (some ⟨bC, oC + n * 4, none⟩)) rfl hH ?_
    refine ta 9 (.pointer (some ⟨bC, oC + n * 4 + 3, none⟩)) rfl hH ?_
    refine ta 10 (.slice (some ⟨bM, oM, none⟩) lm cM) rfl hH ?_
    refine ta 11 (.int .i64 (lm : Int)) rfl hH ?_
    refine wpAnyH_ready (rs := [12, 15]) (by kernel_rfl) (by simp) ?_
    refine AllReadyH.cons rfl (fun K12 hK12 => ?_) (AllReadyH.cons rfl (fun K15 hK15 => ?_) AllReadyH.nil)
    · go_simp
      refine (HCM.out _).mono ?_
      rintro r u9 ⟨rfl, hu9⟩
      rw [hu9]
      refine hK12.out _ _ (fun p hp => rfl) fun hH => ?_
      clear hu9 u9
      refine ta 13 (.pointer (some ⟨bM, oM + k * 9, none⟩)) rfl hH ?_
      refine ta 14 (.agg #[.string m.name, .bool m.static, .slice aa m.args.length ca, .int .i64 m.ret.kind, .string m.ret.cls, .int .i64 m.stack, .int .i64 m.locals, .string m.code, .slice ah m.hands.length ch]) rfl hH ?_
      refine wpAnyH_ready (rs := [15]) (by kernel_rfl) (by simp) ?_
      refine AllReadyH.cons rfl (fun K15 hK15 => ?_) AllReadyH.nil
      go_simp
      refine hK15.out _ _ (fun p hp => (((Below.refl w4.heap.size w4).drew).alloc (Nat.le_refl _) (.cells #[.string ⟨#[]⟩, .bool false, .slice none 0 0, .int .i64 0, .string ⟨#[]⟩, .int .i64 0, .int .i64 0, .string ⟨#[]⟩, .slice none 0 0] 43)).cell hp) fun hH => ?_
      refine wpAnyH_ready (rs := [16]) (by kernel_rfl) (by simp) ?_
      refine AllReadyH.cons rfl (fun K16 hK16 => ?_) AllReadyH.nil
      go_simp
      have HB5 : Hid (Below w4.heap.size w4 (w4.drew.alloc (.cells #[.string m.name, .bool m.static, .slice aa m.args.length ca, .int .i64 m.ret.kind, .string m.ret.cls, .int .i64 m.stack, .int .i64 m.locals, .string m.code, .slice ah m.hands.length ch] 43))) := ((Below.refl w4.heap.size w4).drew).alloc (Nat.le_refl _) _
      have HM5 : Hid ((w4.drew.alloc (.cells #[.string m.name, .bool m.static, .slice aa m.args.length ca, .int .i64 m.ret.kind, .string m.ret.cls, .int .i64 m.stack, .int .i64 m.locals, .string m.code, .slice ah m.hands.length ch] 43)).heap[w4.heap.size]? = some (.cells #[.string m.name, .bool m.static, .slice aa m.args.length ca, .int .i64 m.ret.kind, .string m.ret.cls, .int .i64 m.stack, .int .i64 m.locals, .string m.code, .slice ah m.hands.length ch] 43 (0, 0))) := heap_alloc_new w4.drew _
      refine hK16.out _ _ (fun p hp => HB5.out.cell hp) fun hH => ?_
      refine wpAnyH_done (by kernel_rfl) ?_ _
      clear hH
      try simp only [Act.put, List.setIfInBounds_toArray, List.set_cons_zero, List.set_cons_succ, List.getElem_toArray, List.getElem_cons_zero, List.getElem_cons_succ]
      go_wp2_with fail
      go_meet
      exact ⟨rfl, HB5.out, HM5.out⟩
    · go_simp
      refine hK15.out _ _ (fun p hp => (((Below.refl w4.heap.size w4).drew).alloc (Nat.le_refl _) (.cells #[.string ⟨#[]⟩, .bool false, .slice none 0 0, .int .i64 0, .string ⟨#[]⟩, .int .i64 0, .int .i64 0, .string ⟨#[]⟩, .slice none 0 0] 43)).cell hp) fun hH => ?_
      refine wpAnyH_ready (rs := [12]) (by kernel_rfl) (by simp) ?_
      refine AllReadyH.cons rfl (fun K12 hK12 => ?_) AllReadyH.nil
      go_simp
      refine (HCM.out _).mono ?_
      rintro r u9 ⟨rfl, hu9⟩
      rw [hu9]
      refine hK12.out _ _ (fun p hp => (((Below.refl w4.heap.size w4).drew).alloc (Nat.le_refl _) (.cells #[.string ⟨#[]⟩, .bool false, .slice none 0 0, .int .i64 0, .string ⟨#[]⟩, .int .i64 0, .int .i64 0, .string ⟨#[]⟩, .slice none 0 0] 43)).cell hp) fun hH => ?_
      clear hu9 u9
      refine ta 13 (.pointer (some ⟨bM, oM + k * 9, none⟩)) rfl hH ?_
      refine ta 14 (.agg #[.string m.name, .bool m.static, .slice aa m.args.length ca, .int .i64 m.ret.kind, .string m.ret.cls, .int .i64 m.stack, .int .i64 m.locals, .string m.code, .slice ah m.hands.length ch]) rfl hH ?_
      refine wpAnyH_ready (rs := [16]) (by kernel_rfl) (by simp) ?_
      refine AllReadyH.cons rfl (fun K16 hK16 => ?_) AllReadyH.nil
      go_simp
      have HB5 : Hid (Below w4.heap.size w4 (w4.drew.alloc (.cells #[.string m.name, .bool m.static, .slice aa m.args.length ca, .int .i64 m.ret.kind, .string m.ret.cls, .int .i64 m.stack, .int .i64 m.locals, .string m.code, .slice ah m.hands.length ch] 43))) := ((Below.refl w4.heap.size w4).drew).alloc (Nat.le_refl _) _
      have HM5 : Hid ((w4.drew.alloc (.cells #[.string m.name, .bool m.static, .slice aa m.args.length ca, .int .i64 m.ret.kind, .string m.ret.cls, .int .i64 m.stack, .int .i64 m.locals, .string m.code, .slice ah m.hands.length ch] 43)).heap[w4.heap.size]? = some (.cells #[.string m.name, .bool m.static, .slice aa m.args.length ca, .int .i64 m.ret.kind, .string m.ret.cls, .int .i64 m.stack, .int .i64 m.locals, .string m.code, .slice ah m.hands.length ch] 43 (0, 0))) := heap_alloc_new w4.drew _
      refine hK16.out _ _ (fun p hp => HB5.out.cell hp) fun hH => ?_
      refine wpAnyH_done (by kernel_rfl) ?_ _
      clear hH
      try simp only [Act.put, List.setIfInBounds_toArray, List.set_cons_zero, List.set_cons_succ, List.getElem_toArray, List.getElem_cons_zero, List.getElem_cons_succ]
      go_wp2_with fail
      go_meet
      exact ⟨rfl, HB5.out, HM5.out⟩
  case rest =>
    rename World => w5
    obtain ⟨rfl, hb5, hbM5⟩ := hcut
    have HB5 := mkHid hb5
    have HM5 := mkHid hbM5
    have up : ∀ b o, b < w4.heap.size → w5.cell? ⟨b, o, none⟩ = w4.cell? ⟨b, o, none⟩ := fun b o hb => hb5.cell (p := ⟨b, o, none⟩) hb
    have hK5 := (hb5.block _ (lt_of HBK.out)).trans HBK.out
    have f0 := cell_of hK5 0 (x := .slice aC (linkD l).classes.length cC) rfl
    have f1 := cell_of hK5 1 (x := .slice aS (linkD l).supers.length cS) rfl
    have f2 := cell_of hK5 2 (x := .slice aF (linkD l).fields.length cF) rfl
    have f3 := cell_of hK5 3 (x := .slice aN (linkD l).names.length cN) rfl
    have f4 := cell_of hK5 4 (x := .slice aT (linkD l).targets.length cT) rfl
    have lK5 := lt_of hK5
    have lC5 := Nat.lt_of_lt_of_le lC4 hb5.size
    replace k3 := (up _ _ lC4).trans k3
    clear hb5 hbM5 up hK5 m0 m1 m2 m3 m4 m5 m6 m7 m8 lC4 lM4
    go_upto_region 10 with fail
    go_cut [10, 11] (fun v10 v11 W => R10 sD w5 v10 v11 W)
    case first =>
      refine wp_region_held_drew (S := fun W' => ∀ p : Addr, p.block < w5.heap.size → W'.cell? p = w5.cell? p) (by kernel_rfl) (fun p hp => rfl) fun hH => ?_
      refine ta 0 (.agg #[.slice aC (linkD l).classes.length cC, .slice aS (linkD l).supers.length cS, .slice aF (linkD l).fields.length cF, .slice aN (linkD l).names.length cN, .slice aT (linkD l).targets.length cT]) rfl hH ?_
      refine ta 1 (.int .i64 (n : Int)) rfl hH ?_
      refine ta 2 (.int .i64 mi) rfl hH ?_
      refine ta 3 (.slice (some ⟨bC, oC, none⟩) l.length cv) rfl hH ?_
      refine ta 4 (.int .i64 (n : Int)) rfl hH ?_
      refine ta 5 (.pointer (some ⟨bC, oC + n * 4, none⟩)) rfl hH ?_
      refine ta 6 (.pointer (some ⟨bC, oC + n * 4 + 3, none⟩)) rfl hH ?_
      refine ta 7 (.slice (some ⟨bM, oM, none⟩) lm cM) rfl hH ?_
      refine ta 8 (.int .i64 (lm : Int)) rfl hH ?_
      refine wpAnyH_ready (rs := [9, 14]) (by kernel_rfl) (by simp) ?_
      refine AllReadyH.cons rfl (fun K9 hK9 => ?_) (AllReadyH.cons rfl (fun K14 hK14 => ?_) AllReadyH.nil)
      · go_simp
        refine (HCM.out _).mono ?_
        rintro r u9 ⟨rfl, hu9⟩
        rw [hu9]
        refine hK9.out _ _ (fun p hp => rfl) fun hH => ?_
        clear hu9 u9
        refine wpAnyH_ready (rs := [10, 14]) (by kernel_rfl) (by simp) ?_
        refine AllReadyH.cons rfl (fun K10 hK10 => ?_) (AllReadyH.cons rfl (fun K14 hK14 => ?_) AllReadyH.nil)
        · go_simp
          refine (HMT.out w5.drew ((HB5.out.trans (((Below.refl w5.heap.size w5).drew).mono HB5.out.size)))).mono ?_
          intro r w6 hmo
          obtain ⟨a6, n6, c6, e6, p6, rfl, hb6, hmr⟩ := hmo.one
          have HMR := mkHid hmr
          have HB6 := mkHid hb6
          clear hmr hmo hb6
          refine hK10.out _ _ (fun p hp => (((Below.refl w5.heap.size w5).drew).trans (HB6.out.mono ((Below.refl w5.heap.size w5).drew).size)).cell hp) fun hH => ?_
          refine ta 11 (.tuple #[.slice a6 n6 c6, .agg #[.int .i64 e6, .int .i64 p6]]) rfl hH ?_
          refine ta 12 (.slice a6 n6 c6) rfl hH ?_
          refine ta 13 (.agg #[.int .i64 e6, .int .i64 p6]) rfl hH ?_
          refine wpAnyH_ready (rs := [14]) (by kernel_rfl) (by simp) ?_
          refine AllReadyH.cons rfl (fun K14 hK14 => ?_) AllReadyH.nil
          go_simp
          refine hK14.out _ _ (fun p hp => ((((Below.refl w5.heap.size w5).drew).trans HB6.out).alloc (((Below.refl w5.heap.size w5).drew).trans HB6.out).size (.cells #[.int .i64 0, .int .i64 0] 46)).cell hp) fun hH => ?_
          refine ta 15 (.slice a6 n6 c6) rfl hH ?_
          refine wpAnyH_ready (rs := [16]) (by kernel_rfl) (by simp) ?_
          refine AllReadyH.cons rfl (fun K16 hK16 => ?_) AllReadyH.nil
          go_simp
          refine hK16.out _ _ (fun p hp => ((((Below.refl w5.heap.size w5).drew).trans HB6.out).alloc (((Below.refl w5.heap.size w5).drew).trans HB6.out).size (.cells #[.int .i64 e6, .int .i64 p6] 46)).cell hp) fun hH => ?_
          refine wpAnyH_done (by kernel_rfl) ?_ _
          clear hH
          try simp only [Act.put, List.setIfInBounds_toArray, List.set_cons_zero, List.set_cons_succ, List.getElem_toArray, List.getElem_cons_zero, List.getElem_cons_succ]
          go_wp2_with fail
          go_meet
          exact R10.last (((Below.refl w5.heap.size w5).drew).trans HB6.out) HMR.out
        · go_simp
          refine hK14.out _ _ (fun p hp => (((Below.refl w5.heap.size w5).drew).alloc (Nat.le_refl _) (.cells #[.int .i64 0, .int .i64 0] 46)).cell hp) fun hH => ?_
          refine wpAnyH_ready (rs := [10]) (by kernel_rfl) (by simp) ?_
          refine AllReadyH.cons rfl (fun K10 hK10 => ?_) AllReadyH.nil
          go_simp
          refine (HMT.out (w5.drew.alloc (.cells #[.int .i64 0, .int .i64 0] 46)) ((HB5.out.trans ((((Below.refl w5.heap.size w5).drew).alloc (Nat.le_refl _) (.cells #[.int .i64 0, .int .i64 0] 46)).mono HB5.out.size)))).mono ?_
          intro r w6 hmo
          obtain ⟨a6, n6, c6, e6, p6, rfl, hb6, hmr⟩ := hmo.one
          have HMR := mkHid hmr
          have HB6 := mkHid hb6
          clear hmr hmo hb6
          refine hK10.out _ _ (fun p hp => ((((Below.refl w5.heap.size w5).drew).alloc (Nat.le_refl _) (.cells #[.int .i64 0, .int .i64 0] 46)).trans (HB6.out.mono (((Below.refl w5.heap.size w5).drew).alloc (Nat.le_refl _) (.cells #[.int .i64 0, .int .i64 0] 46)).size)).cell hp) fun hH => ?_
          have hz6 : w6.heap[w5.heap.size]? = some (.cells #[.int .i64 0, .int .i64 0] 46 (0, 0)) := (HB6.out.block _ (by simp)).trans (heap_alloc_new w5.drew _)
          have z0 := cell_of hz6 0 (x := .int .i64 0) rfl
          have z1 := cell_of hz6 1 (x := .int .i64 0) rfl
          have zf := frz_of hz6
          have HT6 := mkHid (two_set hz6 (.int .i64 e6) (.int .i64 p6) (Nat.le_refl w5.heap.size)).2.1
          clear hz6
          refine ta 11 (.tuple #[.slice a6 n6 c6, .agg #[.int .i64 e6, .int .i64 p6]]) rfl hH ?_
          refine ta 12 (.slice a6 n6 c6) rfl hH ?_
          refine ta 13 (.agg #[.int .i64 e6, .int .i64 p6]) rfl hH ?_
          refine ta 15 (.slice a6 n6 c6) rfl hH ?_
          refine wpAnyH_ready (rs := [16]) (by kernel_rfl) (by simp) ?_
          refine AllReadyH.cons rfl (fun K16 hK16 => ?_) AllReadyH.nil
          go_simp
          refine hK16.out _ _ (fun p hp => (((((Below.refl w5.heap.size w5).drew).alloc (Nat.le_refl _) (.cells #[.int .i64 0, .int .i64 0] 46)).trans (HB6.out.mono (((Below.refl w5.heap.size w5).drew).alloc (Nat.le_refl _) (.cells #[.int .i64 0, .int .i64 0] 46)).size)).trans HT6.out).cell hp) fun hH => ?_
          refine wpAnyH_done (by kernel_rfl) ?_ _
          clear hH
          try simp only [Act.put, List.setIfInBounds_toArray, List.set_cons_zero, List.set_cons_succ, List.getElem_toArray, List.getElem_cons_zero, List.getElem_cons_succ]
          go_wp2_with fail
          go_meet
          exact R10.first rfl HB6.out HMR.out
      · go_simp
        refine hK14.out _ _ (fun p hp => (((Below.refl w5.heap.size w5).drew).alloc (Nat.le_refl _) (.cells #[.int .i64 0, .int .i64 0] 46)).cell hp) fun hH => ?_
        refine wpAnyH_ready (rs := [9]) (by kernel_rfl) (by simp) ?_
        refine AllReadyH.cons rfl (fun K9 hK9 => ?_) AllReadyH.nil
        go_simp
        refine (HCM.out _).mono ?_
        rintro r u9 ⟨rfl, hu9⟩
        rw [hu9]
        refine hK9.out _ _ (fun p hp => (((Below.refl w5.heap.size w5).drew).alloc (Nat.le_refl _) (.cells #[.int .i64 0, .int .i64 0] 46)).cell hp) fun hH => ?_
        clear hu9 u9
        refine wpAnyH_ready (rs := [10]) (by kernel_rfl) (by simp) ?_
        refine AllReadyH.cons rfl (fun K10 hK10 => ?_) AllReadyH.nil
        go_simp
        refine (HMT.out (w5.drew.alloc (.cells #[.int .i64 0, .int .i64 0] 46)) ((HB5.out.trans ((((Below.refl w5.heap.size w5).drew).alloc (Nat.le_refl _) (.cells #[.int .i64 0, .int .i64 0] 46)).mono HB5.out.size)))).mono ?_
        intro r w6 hmo
        obtain ⟨a6, n6, c6, e6, p6, rfl, hb6, hmr⟩ := hmo.one
        have HMR := mkHid hmr
        have HB6 := mkHid hb6
        clear hmr hmo hb6
        refine hK10.out _ _ (fun p hp => ((((Below.refl w5.heap.size w5).drew).alloc (Nat.le_refl _) (.cells #[.int .i64 0, .int .i64 0] 46)).trans (HB6.out.mono (((Below.refl w5.heap.size w5).drew).alloc (Nat.le_refl _) (.cells #[.int .i64 0, .int .i64 0] 46)).size)).cell hp) fun hH => ?_
        have hz6 : w6.heap[w5.heap.size]? = some (.cells #[.int .i64 0, .int .i64 0] 46 (0, 0)) := (HB6.out.block _ (by simp)).trans (heap_alloc_new w5.drew _)
        have z0 := cell_of hz6 0 (x := .int .i64 0) rfl
        have z1 := cell_of hz6 1 (x := .int .i64 0) rfl
        have zf := frz_of hz6
        have HT6 := mkHid (two_set hz6 (.int .i64 e6) (.int .i64 p6) (Nat.le_refl w5.heap.size)).2.1
        clear hz6
        refine ta 11 (.tuple #[.slice a6 n6 c6, .agg #[.int .i64 e6, .int .i64 p6]]) rfl hH ?_
        refine ta 12 (.slice a6 n6 c6) rfl hH ?_
        refine ta 13 (.agg #[.int .i64 e6, .int .i64 p6]) rfl hH ?_
        refine ta 15 (.slice a6 n6 c6) rfl hH ?_
        refine wpAnyH_ready (rs := [16]) (by kernel_rfl) (by simp) ?_
        refine AllReadyH.cons rfl (fun K16 hK16 => ?_) AllReadyH.nil
        go_simp
        refine hK16.out _ _ (fun p hp => (((((Below.refl w5.heap.size w5).drew).alloc (Nat.le_refl _) (.cells #[.int .i64 0, .int .i64 0] 46)).trans (HB6.out.mono (((Below.refl w5.heap.size w5).drew).alloc (Nat.le_refl _) (.cells #[.int .i64 0, .int .i64 0] 46)).size)).trans HT6.out).cell hp) fun hH => ?_
        refine wpAnyH_done (by kernel_rfl) ?_ _
        clear hH
        try simp only [Act.put, List.setIfInBounds_toArray, List.set_cons_zero, List.set_cons_succ, List.getElem_toArray, List.getElem_cons_zero, List.getElem_cons_succ]
        go_wp2_with fail
        go_meet
        exact R10.first rfl HB6.out HMR.out
    case rest =>
      rename World => w6
      obtain ⟨a6, n6, c6, e6, p6, b6, rfl, rfl, hb6, hbb, hF6, hmr⟩ := hcut
      have y0 := cell_of hF6 0 (x := .int .i64 e6) rfl
      have y1 := cell_of hF6 1 (x := .int .i64 p6) rfl
      have HB6 := mkHid hb6
      have HF6 := mkHid hF6
      have HBB := mkHid hbb
      have HBW6 : Hid (Below w.heap.size w w6) := (HB4.out.trans (HB5.out.mono HB4.out.size)).trans (hb6.mono (HB4.out.trans (HB5.out.mono HB4.out.size)).size)
      clear k3 f0 f1 f2 f3 f4 lK5 lC5 hb6 hF6 hbb HCM HMT HCH
      rcases hmr with ⟨he0, s, hs, hn6, hsl⟩ | ⟨hne, hn6⟩
      rotate_left
      · subst hn6
        have hnb : (e6 != 0) = true := by simpa using hne
        go_wp2_with fail
        go_ret
        exact ⟨rfl, HBW6.out⟩
      subst he0
      obtain ⟨ins, hfull, hr⟩ := HRG.out s hs
      have hM6 := (HB6.out.block _ (lt_of HM5.out)).trans HM5.out
      have HM6 := mkHid hM6
      have mc := cell_of hM6 7 (x := .string m.code) rfl
      have HSL := mkHid hsl
      have HFU := mkHid hfull
      have HRR := mkHid hr
      have hlen : n6 = ins.length := hn6.trans hr.ls
      have HLS : Hid (s.S.length = ins.length) := hr.ls
      have HI2 : Hid (ins.length ≤ 200) := (full_all hfull).2
      subst hlen
      clear hs hn6 hsl hfull hr hM6
      go_wp2_with fail
      refine (Cd.Decode_any w6 m.code (HTT.out.below HBW6.out) HCZ.out).mono ?_
      rintro r w7 ⟨hb7, ⟨l7, v7, hf7, hl7, rfl, ho7⟩ | ⟨e7, p7, hf7, -⟩⟩
      rotate_left
      · rw [HFU.out] at hf7
        cases hf7
      obtain rfl : ins = l7 := by rw [HFU.out] at hf7; exact Except.ok.inj hf7
      have hps := HRR.out.ps
      rcases ho7.2 with ⟨-, hz⟩ | ⟨g, cap, cur, e, hg, -⟩
      · omega
      subst e
      have HH7 := mkHid (own_has ho7)
      have hF7 := (hb7.block _ (lt_of HF6.out)).trans HF6.out
      have z0 := cell_of hF7 0 (x := .int .i64 0) rfl
      have z1 := cell_of hF7 1 (x := .int .i64 p6) rfl
      have zf := frz_of hF7
      have lb6 : b6 < w7.heap.size := lt_of hF7
      have hg6 : g ≠ b6 := by have := lt_of HF6.out; omega
      obtain ⟨t1, t2, t3⟩ := two_set hF7 (.int .i64 0) (.int .i64 0) (Nat.le_refl b6)
      have hsz := set_size w7 ⟨b6, 0, none⟩ ⟨b6, 1, none⟩ (.int .i64 0) (.int .i64 0)
      obtain ⟨w8, hw8⟩ : ∃ w8, w8 = (w7.setCell ⟨b6, 0, none⟩ (.int .i64 0)).setCell ⟨b6, 1, none⟩ (.int .i64 0) := ⟨_, rfl⟩
      rw [← hw8] at t1 t2 t3 hsz
      have HW8 := mkHid hw8
      have HB7 := mkHid hb7
      have HBW7 : Hid (Below w.heap.size w w7) := HBW6.out.trans (hb7.mono HBW6.out.size)
      have HBW8 : Hid (Below w.heap.size w w8) := HBW7.out.trans (t2.mono (by have := (HB4.out.trans (HB5.out.mono HB4.out.size)).size; have := HBB.out; omega))
      have HS8 : Hid (SL 3 RSt (fun k => k < w8.heap.size) w8 (.slice a6 ins.length c6) s.S) := ((HSL.out.keptSt (w' := w7) ⟨hb7.size, fun b h _ => hb7.block b h.2⟩).keptSt (w' := w8) ⟨by omega, fun b h _ => t3 b h.1⟩).monoSt fun b h => by have := h.2; have := hb7.size; omega
      have HH8 : Hid (Cd.Has w8 g 0 ins) := Has.same HH7.out.1 (t3 g hg6) (by omega)
      have HMB8 : Hid (w8.heap[w4.heap.size]? = some (.cells #[.string m.name, .bool m.static, .slice aa m.args.length ca, .int .i64 m.ret.kind, .string m.ret.cls, .int .i64 m.stack, .int .i64 m.locals, .string m.code, .slice ah m.hands.length ch] 43 (0, 0))) := (t3 _ (by have := HBB.out; have := lt_of HM5.out; omega)).trans ((hb7.block _ (lt_of HM6.out)).trans HM6.out)
      have d0 := cell_of t1 0 (x := .int .i64 0) rfl
      have d1 := cell_of t1 1 (x := .int .i64 0) rfl
      have HSZ8 := mkHid hsz
      clear hf7 hl7 ho7 hg hb7 hF7 t1 t2 t3 hsz hw8 hg6 mc y0 y1
      go_upto_region 14 with fail
      rw [← HW8.out]
      clear z0 z1 zf lb6
      have hlt0 : 0 < s.S.length := by rw [HLS.out]; exact hps
      obtain ⟨bS, oS, a1, c1, a2, c2, e9, hbS, x0, -⟩ := HS8.out.atSt 0 hlt0
      subst e9
      have hcm0 : s.S[0].comes = true := by have := HRR.out.fs; rw [List.getElem?_eq_getElem hlt0] at this; exact this
      rw [hcm0, Nat.zero_mul, Nat.add_zero] at x0
      have q1 : ((ins.length : Int) != (ins.length : Int)) = false := by simp
      have q2 : ((ins.length : Int) == 0) = false := beq_eq_false_iff_ne.2 (by omega)
      have q3 : (0 : Int) < ins.length := by omega
      have q4 : ¬ (ins.length : Int) = 0 := by omega
      clear hcm0 hlt0
      go_wp2_with fail
      clear d0 d1 x0 q1 q2 q3 q4
      go_loopw [13] (fun i wr => ∃ k : Nat, k ≤ ins.length ∧ i = .int .i64 k ∧ Hid (Below w8.heap.size w8 wr)) (fun i _ => ins.length - (intOf i).toNat)
      case atStart => exact ⟨0, Nat.zero_le _, rfl, Below.refl _ _⟩
      case round =>
        rename World => wr
        obtain ⟨k, hk, rfl, HBR⟩ := hrel
        by_cases hlt : k < ins.length
        · have hks : k < s.S.length := by rw [HLS.out]; exact hlt
          have HSR := mkHid (HS8.out.keptSt (w' := wr) ⟨HBR.out.size, fun b h _ => HBR.out.block b h⟩)
          obtain ⟨bX, oX, a1, c1, a2, c2, e9, lS, x0, x1, x2, hl1, hl2⟩ := HSR.out.atSt k hks
          simp only [Option.some.injEq, Addr.mk.injEq, and_true] at e9
          obtain ⟨rfl, rfl⟩ := e9
          have HHR := mkHid (HH8.out.below HBR.out HH8.out.lt)
          have i1 := HHR.out.c1 k hlt
          have i2 := HHR.out.c2 k hlt
          rw [Nat.zero_add] at i1 i2
          have hMr := (HBR.out.block _ (lt_of HMB8.out)).trans HMB8.out
          have n5 := cell_of hMr 5 (x := .int .i64 m.stack) rfl
          have n6 := cell_of hMr 6 (x := .int .i64 m.locals) rfl
          have lM := lt_of hMr
          have lG := HHR.out.lt
          have gd : ∀ j (h : j < s.S.length), (s.S[j]?).getD st0 = s.S[j] := fun j h => by rw [List.getElem?_eq_getElem h]; rfl
          have h01 : (k : Int) < ins.length := by omega
          have h00 : (0 : Int) ≤ k := by omega
          have HLT := mkHid hlt
          have HBX : Hid (∀ o, Below w8.heap.size w8 (wr.alloc o)) := fun o => HBR.out.alloc HBR.out.size o
          have hI2 := HI2.out
          have hwk : IntKind.i64.wrap ((k : Int) + 1) = (k : Int) + 1 := wrap_i64_small _ (by omega) (by omega)
          clear hMr
          cases hcm : s.S[k].comes with
          | false =>
            obtain ⟨g1, g2⟩ := HRR.out.no k (by rw [gd k hks]; exact hcm)
            rw [gd k hks] at g1 g2
            rw [hcm] at x0
            rw [g1] at x1
            rw [g2] at x2
            clear g1 g2 gd hl1 hl2 hcm hks hlt hI2 hk
            go_wp2_with fail
            go_roundw
            case rel => exact ⟨k + 1, HLT.out, by go_num, HBX.out _⟩
            case measure => have := HLT.out; simp [intOf]; omega
          | true =>
            have hst := HRR.out.st k (by rw [gd k hks]; exact hcm)
            have hlo := HRR.out.lo k (by rw [gd k hks]; exact hcm)
            have hon := HRR.out.on k (by rw [gd k hks]; exact hcm)
            have hbr := HRR.out.br k (by rw [gd k hks]; exact hcm)
            rw [gd k hks] at hst hlo
            have hmo := HMO.out
            obtain ⟨o, ho, eo⟩ := ((full_all HFU.out).1 _ (Cd.get4_mem ins k hlt)).1
            rw [eo] at i1 hon hbr
            rw [hcm] at x0
            have HON : Hid (goesD (o : Int) = true → ∃ h : k + 1 < s.S.length, s.S[k + 1].comes = true) := fun hg => by
              have h1 := hon hg
              by_cases h2 : k + 1 < s.S.length
              · rw [gd _ h2] at h1
                exact ⟨h2, h1⟩
              · rw [List.getElem?_eq_none (by omega)] at h1
                cases h1
            have HGT : Hid ((Cd.kOf o == 2) = true → ∃ j : Nat, Cd.placeM ins (Cd.get4 ins k).a = j ∧ j < ins.length ∧ wr.cell? ⟨bS, oS + j * 3, none⟩ = some (.bool true)) := fun h2 => by
              obtain ⟨j, hj, hjl⟩ := full_place HFU.out hlt eo h2
              have hjs : j < s.S.length := by rw [HLS.out]; exact hjl
              have h3 := hbr (br_of ho h2)
              rw [Cd.placeN_some hj, Int.toNat_natCast, gd j hjs] at h3
              obtain ⟨bY, oY, _, _, _, _, e9, -, xj, -⟩ := HSR.out.atSt j hjs
              simp only [Option.some.injEq, Addr.mk.injEq, and_true] at e9
              obtain ⟨rfl, rfl⟩ := e9
              rw [h3] at xj
              exact ⟨j, Cd.placeM_some hj, hjl, xj⟩
            have hle : (s.S[k].locals.length : Int) = m.locals := by rw [hlo]; omega
            have r1 : ((s.S[k].locals.length : Int) != m.locals) = false := by rw [hle]; simp
            have HSRN : Hid (∀ h : k + 1 < s.S.length, s.S[k + 1].comes = true → wr.cell? ⟨bS, oS + (k + 1) * 3, none⟩ = some (.bool true)) := fun h h9 => by
              obtain ⟨bY, oY, _, _, _, _, e9, -, xj, -⟩ := HSR.out.atSt (k + 1) h
              simp only [Option.some.injEq, Addr.mk.injEq, and_true] at e9
              obtain ⟨rfl, rfl⟩ := e9
              rw [h9] at xj
              exact xj
            have hops : (o : Int) = 13 ∨ (o : Int) = 27 ∨ (o : Int) = 28 ∨ (¬ (o : Int) = 13 ∧ ¬ (o : Int) = 27 ∧ ¬ (o : Int) = 28) := by omega
            generalize (Cd.get4 ins k).a = xa at *
            generalize s.S[k].locals.length = nl at *
            generalize s.S[k].stack.length = ns at *
            clear hlo hon hbr eo hcm gd hmo hl1 hl2 hI2 hk
            rcases hops with h | h | h | ⟨g1, g2, g3⟩
            focus
              have b1 : ((o : Int) != 13) = false := by rw [h]; rfl
              clear hlt hks h
              go_wp2_with fail
            rotate_left
            focus
              have b1 : ((o : Int) != 13) = true := by rw [h]; rfl
              have b2 : ((o : Int) != 27) = false := by rw [h]; rfl
              have h' : ¬ (o : Int) = 13 := by omega
              clear hlt hks h
              go_wp2_with fail
            rotate_left
            focus
              have b1 : ((o : Int) != 13) = true := by rw [h]; rfl
              have b2 : ((o : Int) != 27) = true := by rw [h]; rfl
              have b3 : ((o : Int) != 28) = false := by rw [h]; rfl
              have h' : ¬ (o : Int) = 13 := by omega
              have h'' : ¬ (o : Int) = 27 := by omega
              clear hlt hks h
              go_wp2_with fail
            rotate_left
            focus
              have b1 : ((o : Int) != 13) = true := bne_iff_ne.2 g1
              have b2 : ((o : Int) != 27) = true := bne_iff_ne.2 g2
              have b3 : ((o : Int) != 28) = true := bne_iff_ne.2 g3
              obtain ⟨h1, h2⟩ := HON.out (goes_of g1 g2 g3)
              have xn := HSRN.out h1 h2
              have hk1 : ((k : Int) + 1 == (ins.length : Int)) = false := beq_eq_false_iff_ne.2 (by have := HLS.out; omega)
              have hk2 : ¬ (k : Int) + 1 = (ins.length : Int) := by have := HLS.out; omega
              have hk3 : (k : Int) + 1 < (ins.length : Int) := by have := HLS.out; omega
              have hk4 : (0 : Int) ≤ (k : Int) + 1 := by omega
              have hk5 : ((k : Int) + 1).toNat = k + 1 := by omega
              clear h1 h2 hlt hks
              go_wp2_with fail
            rotate_left
            all_goals
              refine (Cd.goesTo_any _ o ho).mono ?_
              rintro r u1 ⟨rfl, hu1⟩
              rw [hu1]
              clear hu1
              cases hk9 : (Cd.kOf o == 2) with
              | false =>
                go_wp2_with fail
                go_roundw
                case rel => exact ⟨k + 1, HLT.out, by go_num, HBX.out _⟩
                case measure => have := HLT.out; simp [intOf]; omega
              | true =>
                obtain ⟨j, hj, hjl, xj⟩ := HGT.out hk9
                have hj0 : ¬ (j : Int) < 0 := by omega
                have hj1 : (j : Int) < ins.length := by omega
                have hj2 : (0 : Int) ≤ j := by omega
                clear hk9 hjl
                go_wp2_with fail
                refine (Cd.placeOf_any _ g 0 cap ins xa (HH8.out.below (HBX.out _) HH8.out.lt) (by have := HI2.out; omega) HH7.out.2).mono ?_
                rintro r u2 ⟨rfl, hu2⟩
                rw [hu2, hj]
                clear hu2
                go_wp2_with fail
                go_roundw
                case rel => exact ⟨k + 1, HLT.out, by go_num, HBX.out _⟩
                case measure => have := HLT.out; simp [intOf]; omega
        · have h01 : ¬ (k : Int) < ins.length := by omega
          go_wp2_with fail
          go_ret
          exact ⟨rfl, HBW8.out.trans (HBR.out.mono HBW8.out.size)⟩
end Go.Proofs.YtfibgdcpbkaaoaaGreatDoor
