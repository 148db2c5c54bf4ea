/- Package verify's kinds: the least kind that two fit, asked of the program. -/
import Derived.Test.YtfibgdcpbkaaoaaGreatDoorJVkNVkF
namespace Go.Proofs.YtfibgdcpbkaaoaaGreatDoor
open Go.RowKit Go.Maps
theorem vup {a b c : World} (h : Below a.heap.size a b) (k : Below b.heap.size b c) : Below a.heap.size a c := h.trans (k.mono h.size)
set_option maxRecDepth 100000 in
set_option maxHeartbeats 8000000 in
theorem kJoin_any (w : World) (B : Nat) (kC kS kF kN kT : Value) (Bm : Nat) (d : LinkD) (hk : Kd B w kC kS kF kN kT Bm d) (hB : B ≤ w.heap.size) (hg : GlK w) {L : ByteArray → List ByteArray} (hc : Cls d L) (a b : KindD) (ha : GdK (fun s => 0 ≤ num d.classes s) a) (hs : a.cls.size ≤ maxLen) (hb : GdK (fun s => 0 ≤ num d.classes s) b) (hsb : b.cls.size ≤ maxLen) :
    Calls Tryz.prog 138 #[kdV kC kS kF kN kT Bm, kv a, kv b] w fun r w' => r = .returned (kv (joinB topName L a b)) ∧ Below w.heap.size w w' := by
  obtain ⟨W0, hW0, hB0, hs0, k0, k1, k2, k3⟩ := boxes4 w #[kC, kS, kF, kN, kT, .map (some Bm)] #[.int .i64 a.kind, .string a.cls] #[.int .i64 b.kind, .string b.cls] #[.int .i64 0, .string ⟨#[]⟩] 75 40 40 40
  have hz : B ≤ W0.heap.size := Nat.le_trans hB hB0.size
  have HV : Hid (∀ V, Below W0.heap.size W0 V → V.heap[w.heap.size]? = some (.cells #[kC, kS, kF, kN, kT, .map (some Bm)] 75 (0, 0)) ∧ V.heap[w.heap.size + 1]? = some (.cells #[.int .i64 a.kind, .string a.cls] 40 (0, 0)) ∧ V.heap[w.heap.size + 1 + 1]? = some (.cells #[.int .i64 b.kind, .string b.cls] 40 (0, 0)) ∧ V.heap[w.heap.size + 1 + 1 + 1]? = some (.cells #[.int .i64 0, .string ⟨#[]⟩] 40 (0, 0))) := fun V hV => ⟨(hV.block _ (lt_of k0)).trans k0, (hV.block _ (lt_of k1)).trans k1, (hV.block _ (lt_of k2)).trans k2, (hV.block _ (lt_of k3)).trans k3⟩
  have HG : Hid (∀ V, Below W0.heap.size W0 V → GlK V) := fun V hV => (hg.below hB0).below hV
  have HK : Hid (∀ V, Below W0.heap.size W0 V → Kd B V kC kS kF kN kT Bm d ∧ B ≤ V.heap.size) := fun V hV => ⟨(hk.below (hB0.mono hB)).below (hV.mono hz), Nat.le_trans hz hV.size⟩
  have HFB : Hid (∀ V, Below W0.heap.size W0 V → Calls Tryz.prog 173 #[kdV kC kS kF kN kT Bm, kv b, kv a] V fun r w' => r = .returned (.bool (fitB topName L b a)) ∧ Below V.heap.size V w') := fun V hV => kFits_any V B _ _ _ _ _ _ d (HK.out V hV).1 (HK.out V hV).2 (HG.out V hV) hc b a hb hsb
  have HFA : Hid (∀ V, Below W0.heap.size W0 V → Calls Tryz.prog 173 #[kdV kC kS kF kN kT Bm, kv a, kv b] V fun r w' => r = .returned (.bool (fitB topName L a b)) ∧ Below V.heap.size V w') := fun V hV => kFits_any V B _ _ _ _ _ _ d (HK.out V hV).1 (HK.out V hV).2 (HG.out V hV) hc a b ha hs
  have HAB : Hid (a.kind = 3 → b.kind = 3 → ∀ V, Below W0.heap.size W0 V → Calls Tryz.prog 175 #[kdV kC kS kF kN kT Bm, .string a.cls, .string b.cls] V fun r w' => r = .returned (.string (abvN (L a.cls) (L b.cls) a.cls)) ∧ Below V.heap.size V w') := fun h1 h2 V hV => kAbove_any V B _ _ _ _ _ _ d (HK.out V hV).1 (HK.out V hV).2 hc _ _ (ha.cls h1) hs (hb.cls h2) hsb
  have HB0 := mkHid hB0
  have HP3 : Hid (w.heap.size ≤ w.heap.size + 1 + 1 + 1) := by show _ ≤ _; omega
  have HR : Hid (joinB topName L a b = if fitB topName L b a then a else if fitB topName L a b then b else if decide (a.kind = 3) && decide (b.kind = 3) then ⟨3, abvN (L a.cls) (L b.cls) a.cls⟩ else if (!sameK a numK && !sameK a anyK) && (!sameK b numK && !sameK b anyK) then ⟨3, topName⟩ else anyK) := rfl
  clear ha hb hk hg k0 k1 k2 k3 hB0 hs0
  cases h1 : fitB topName L b a with
  | true =>
    rw [h1] at HR
    go_enter Tryz.func138, Tryz.ntmps138
    go_wp2_with fail
    rw [← hW0]
    refine (HFB.out _ (Below.refl _ _)).mono ?_
    rw [h1]
    rintro r w2 ⟨rfl, hb2⟩
    have HB2 := mkHid hb2
    clear hb2 hW0
    obtain ⟨q0, q1, q2, q3⟩ := HV.out _ HB2.out; have x0 := cell_of q0 0 (x := kC) rfl; have x1 := cell_of q0 1 (x := kS) rfl; have x2 := cell_of q0 2 (x := kF) rfl; have x3 := cell_of q0 3 (x := kN) rfl; have x4 := cell_of q0 4 (x := kT) rfl; have x5 := cell_of q0 5 (x := .map (some Bm)) rfl; have y0 := cell_of q1 0 (x := .int .i64 a.kind) rfl; have y1 := cell_of q1 1 (x := .string a.cls) rfl; have z0 := cell_of q2 0 (x := .int .i64 b.kind) rfl; have z1 := cell_of q2 1 (x := .string b.cls) rfl; have r0 := cell_of q3 0 (x := .int .i64 0) rfl; have r1 := cell_of q3 1 (x := .string ⟨#[]⟩) rfl; have rf := frz_of q3; clear q0 q1 q2 q3
    go_wp2_with fail
    exact bodyPost_ret (v := kv a) (by simp [results, Tryz.results138, go_sem, r0, r1]) rfl ⟨by rw [HR.out]; rfl, ((HB0.out.trans (HB2.out.mono HB0.out.size)).setCell HP3.out _).setCell HP3.out _⟩
  | false =>
    rw [h1] at HR
    cases h2 : fitB topName L a b with
    | true =>
      rw [h2] at HR
      go_enter Tryz.func138, Tryz.ntmps138
      go_wp2_with fail
      rw [← hW0]
      refine (HFB.out _ (Below.refl _ _)).mono ?_
      rw [h1]
      rintro r w2 ⟨rfl, hb2⟩
      have HB2 := mkHid hb2
      clear hb2 hW0
      obtain ⟨q0, q1, q2, q3⟩ := HV.out _ HB2.out; have x0 := cell_of q0 0 (x := kC) rfl; have x1 := cell_of q0 1 (x := kS) rfl; have x2 := cell_of q0 2 (x := kF) rfl; have x3 := cell_of q0 3 (x := kN) rfl; have x4 := cell_of q0 4 (x := kT) rfl; have x5 := cell_of q0 5 (x := .map (some Bm)) rfl; have y0 := cell_of q1 0 (x := .int .i64 a.kind) rfl; have y1 := cell_of q1 1 (x := .string a.cls) rfl; have z0 := cell_of q2 0 (x := .int .i64 b.kind) rfl; have z1 := cell_of q2 1 (x := .string b.cls) rfl; have r0 := cell_of q3 0 (x := .int .i64 0) rfl; have r1 := cell_of q3 1 (x := .string ⟨#[]⟩) rfl; have rf := frz_of q3; clear q0 q1 q2 q3
      go_wp2_with fail
      refine (HFA.out _ HB2.out).mono ?_
      rw [h2]
      rintro r w3 ⟨rfl, hb3⟩
      have HB3 := mkHid (vup HB2.out hb3)
      clear hb3
      clear x0 x1 x2 x3 x4 x5 y0 y1 z0 z1 r0 r1 rf; obtain ⟨q0, q1, q2, q3⟩ := HV.out _ HB3.out; have x0 := cell_of q0 0 (x := kC) rfl; have x1 := cell_of q0 1 (x := kS) rfl; have x2 := cell_of q0 2 (x := kF) rfl; have x3 := cell_of q0 3 (x := kN) rfl; have x4 := cell_of q0 4 (x := kT) rfl; have x5 := cell_of q0 5 (x := .map (some Bm)) rfl; have y0 := cell_of q1 0 (x := .int .i64 a.kind) rfl; have y1 := cell_of q1 1 (x := .string a.cls) rfl; have z0 := cell_of q2 0 (x := .int .i64 b.kind) rfl; have z1 := cell_of q2 1 (x := .string b.cls) rfl; have r0 := cell_of q3 0 (x := .int .i64 0) rfl; have r1 := cell_of q3 1 (x := .string ⟨#[]⟩) rfl; have rf := frz_of q3; clear q0 q1 q2 q3
      go_wp2_with fail
      exact bodyPost_ret (v := kv b) (by simp [results, Tryz.results138, go_sem, r0, r1]) rfl ⟨by rw [HR.out]; rfl, ((HB0.out.trans (HB3.out.mono HB0.out.size)).setCell HP3.out _).setCell HP3.out _⟩
    | false =>
      rw [h2] at HR
      cases ho : (decide (a.kind = 3) && decide (b.kind = 3)) with
      | true =>
        rw [ho] at HR
        have HO := mkHid ho
        have HK3 : Hid (a.kind = 3 ∧ b.kind = 3) := by rw [Bool.and_eq_true, decide_eq_true_iff, decide_eq_true_iff] at ho; exact ho
        clear ho
        go_enter Tryz.func138, Tryz.ntmps138
        go_wp2_with fail
        rw [← hW0]
        refine (HFB.out _ (Below.refl _ _)).mono ?_
        rw [h1]
        rintro r w2 ⟨rfl, hb2⟩
        have HB2 := mkHid hb2
        clear hb2 hW0
        obtain ⟨q0, q1, q2, q3⟩ := HV.out _ HB2.out; have x0 := cell_of q0 0 (x := kC) rfl; have x1 := cell_of q0 1 (x := kS) rfl; have x2 := cell_of q0 2 (x := kF) rfl; have x3 := cell_of q0 3 (x := kN) rfl; have x4 := cell_of q0 4 (x := kT) rfl; have x5 := cell_of q0 5 (x := .map (some Bm)) rfl; have y0 := cell_of q1 0 (x := .int .i64 a.kind) rfl; have y1 := cell_of q1 1 (x := .string a.cls) rfl; have z0 := cell_of q2 0 (x := .int .i64 b.kind) rfl; have z1 := cell_of q2 1 (x := .string b.cls) rfl; have r0 := cell_of q3 0 (x := .int .i64 0) rfl; have r1 := cell_of q3 1 (x := .string ⟨#[]⟩) rfl; have rf := frz_of q3; clear q0 q1 q2 q3
        go_wp2_with fail
        refine (HFA.out _ HB2.out).mono ?_
        rw [h2]
        rintro r w3 ⟨rfl, hb3⟩
        have HB3 := mkHid (vup HB2.out hb3)
        clear hb3
        clear x0 x1 x2 x3 x4 x5 y0 y1 z0 z1 r0 r1 rf; obtain ⟨q0, q1, q2, q3⟩ := HV.out _ HB3.out; have x0 := cell_of q0 0 (x := kC) rfl; have x1 := cell_of q0 1 (x := kS) rfl; have x2 := cell_of q0 2 (x := kF) rfl; have x3 := cell_of q0 3 (x := kN) rfl; have x4 := cell_of q0 4 (x := kT) rfl; have x5 := cell_of q0 5 (x := .map (some Bm)) rfl; have y0 := cell_of q1 0 (x := .int .i64 a.kind) rfl; have y1 := cell_of q1 1 (x := .string a.cls) rfl; have z0 := cell_of q2 0 (x := .int .i64 b.kind) rfl; have z1 := cell_of q2 1 (x := .string b.cls) rfl; have r0 := cell_of q3 0 (x := .int .i64 0) rfl; have r1 := cell_of q3 1 (x := .string ⟨#[]⟩) rfl; have rf := frz_of q3; clear q0 q1 q2 q3
        go_wp2_with fail
        refine (areObjects_any _ a b).mono ?_
        rw [HO.out]
        rintro r w4 ⟨rfl, hb4⟩
        have HB4 := mkHid (vup HB3.out hb4)
        clear hb4
        clear x0 x1 x2 x3 x4 x5 y0 y1 z0 z1 r0 r1 rf; obtain ⟨q0, q1, q2, q3⟩ := HV.out _ HB4.out; have x0 := cell_of q0 0 (x := kC) rfl; have x1 := cell_of q0 1 (x := kS) rfl; have x2 := cell_of q0 2 (x := kF) rfl; have x3 := cell_of q0 3 (x := kN) rfl; have x4 := cell_of q0 4 (x := kT) rfl; have x5 := cell_of q0 5 (x := .map (some Bm)) rfl; have y0 := cell_of q1 0 (x := .int .i64 a.kind) rfl; have y1 := cell_of q1 1 (x := .string a.cls) rfl; have z0 := cell_of q2 0 (x := .int .i64 b.kind) rfl; have z1 := cell_of q2 1 (x := .string b.cls) rfl; have r0 := cell_of q3 0 (x := .int .i64 0) rfl; have r1 := cell_of q3 1 (x := .string ⟨#[]⟩) rfl; have rf := frz_of q3; clear q0 q1 q2 q3
        go_wp2_with fail
        refine (HAB.out HK3.out.1 HK3.out.2 _ HB4.out).mono ?_
        rintro r w5 ⟨rfl, hb5⟩
        have HB5 := mkHid (vup HB4.out hb5)
        clear hb5
        clear x0 x1 x2 x3 x4 x5 y0 y1 z0 z1 r0 r1 rf; obtain ⟨q0, q1, q2, q3⟩ := HV.out _ HB5.out; have x0 := cell_of q0 0 (x := kC) rfl; have x1 := cell_of q0 1 (x := kS) rfl; have x2 := cell_of q0 2 (x := kF) rfl; have x3 := cell_of q0 3 (x := kN) rfl; have x4 := cell_of q0 4 (x := kT) rfl; have x5 := cell_of q0 5 (x := .map (some Bm)) rfl; have y0 := cell_of q1 0 (x := .int .i64 a.kind) rfl; have y1 := cell_of q1 1 (x := .string a.cls) rfl; have z0 := cell_of q2 0 (x := .int .i64 b.kind) rfl; have z1 := cell_of q2 1 (x := .string b.cls) rfl; have r0 := cell_of q3 0 (x := .int .i64 0) rfl; have r1 := cell_of q3 1 (x := .string ⟨#[]⟩) rfl; have rf := frz_of q3; clear q0 q1 q2 q3
        go_wp2_with fail
        refine (object_any _ _).mono ?_
        rintro r w6 ⟨rfl, hb6⟩
        have HB6 := mkHid (vup HB5.out hb6)
        clear hb6
        clear x0 x1 x2 x3 x4 x5 y0 y1 z0 z1 r0 r1 rf; obtain ⟨q0, q1, q2, q3⟩ := HV.out _ HB6.out; have x0 := cell_of q0 0 (x := kC) rfl; have x1 := cell_of q0 1 (x := kS) rfl; have x2 := cell_of q0 2 (x := kF) rfl; have x3 := cell_of q0 3 (x := kN) rfl; have x4 := cell_of q0 4 (x := kT) rfl; have x5 := cell_of q0 5 (x := .map (some Bm)) rfl; have y0 := cell_of q1 0 (x := .int .i64 a.kind) rfl; have y1 := cell_of q1 1 (x := .string a.cls) rfl; have z0 := cell_of q2 0 (x := .int .i64 b.kind) rfl; have z1 := cell_of q2 1 (x := .string b.cls) rfl; have r0 := cell_of q3 0 (x := .int .i64 0) rfl; have r1 := cell_of q3 1 (x := .string ⟨#[]⟩) rfl; have rf := frz_of q3; clear q0 q1 q2 q3
        go_wp2_with fail
        exact bodyPost_ret (v := kv ⟨3, abvN (L a.cls) (L b.cls) a.cls⟩) (by simp [results, Tryz.results138, go_sem, r0, r1]) rfl ⟨by rw [HR.out]; rfl, ((HB0.out.trans (HB6.out.mono HB0.out.size)).setCell HP3.out _).setCell HP3.out _⟩
      | false =>
        rw [ho] at HR
        have HO := mkHid ho
        clear ho
        cases h4 : isTh a with
        | true =>
          have e4 : (!sameK a numK && !sameK a anyK) = true := h4
          rw [e4] at HR
          cases h5 : isTh b with
          | true =>
            have e5 : (!sameK b numK && !sameK b anyK) = true := h5
            rw [e5] at HR
            clear e4 e5
            go_enter Tryz.func138, Tryz.ntmps138
            go_wp2_with fail
            rw [← hW0]
            refine (HFB.out _ (Below.refl _ _)).mono ?_
            rw [h1]
            rintro r w2 ⟨rfl, hb2⟩
            have HB2 := mkHid hb2
            clear hb2 hW0
            obtain ⟨q0, q1, q2, q3⟩ := HV.out _ HB2.out; have x0 := cell_of q0 0 (x := kC) rfl; have x1 := cell_of q0 1 (x := kS) rfl; have x2 := cell_of q0 2 (x := kF) rfl; have x3 := cell_of q0 3 (x := kN) rfl; have x4 := cell_of q0 4 (x := kT) rfl; have x5 := cell_of q0 5 (x := .map (some Bm)) rfl; have y0 := cell_of q1 0 (x := .int .i64 a.kind) rfl; have y1 := cell_of q1 1 (x := .string a.cls) rfl; have z0 := cell_of q2 0 (x := .int .i64 b.kind) rfl; have z1 := cell_of q2 1 (x := .string b.cls) rfl; have r0 := cell_of q3 0 (x := .int .i64 0) rfl; have r1 := cell_of q3 1 (x := .string ⟨#[]⟩) rfl; have rf := frz_of q3; clear q0 q1 q2 q3
            go_wp2_with fail
            refine (HFA.out _ HB2.out).mono ?_
            rw [h2]
            rintro r w3 ⟨rfl, hb3⟩
            have HB3 := mkHid (vup HB2.out hb3)
            clear hb3
            clear x0 x1 x2 x3 x4 x5 y0 y1 z0 z1 r0 r1 rf; obtain ⟨q0, q1, q2, q3⟩ := HV.out _ HB3.out; have x0 := cell_of q0 0 (x := kC) rfl; have x1 := cell_of q0 1 (x := kS) rfl; have x2 := cell_of q0 2 (x := kF) rfl; have x3 := cell_of q0 3 (x := kN) rfl; have x4 := cell_of q0 4 (x := kT) rfl; have x5 := cell_of q0 5 (x := .map (some Bm)) rfl; have y0 := cell_of q1 0 (x := .int .i64 a.kind) rfl; have y1 := cell_of q1 1 (x := .string a.cls) rfl; have z0 := cell_of q2 0 (x := .int .i64 b.kind) rfl; have z1 := cell_of q2 1 (x := .string b.cls) rfl; have r0 := cell_of q3 0 (x := .int .i64 0) rfl; have r1 := cell_of q3 1 (x := .string ⟨#[]⟩) rfl; have rf := frz_of q3; clear q0 q1 q2 q3
            go_wp2_with fail
            refine (areObjects_any _ a b).mono ?_
            rw [HO.out]
            rintro r w4 ⟨rfl, hb4⟩
            have HB4 := mkHid (vup HB3.out hb4)
            clear hb4
            clear x0 x1 x2 x3 x4 x5 y0 y1 z0 z1 r0 r1 rf; obtain ⟨q0, q1, q2, q3⟩ := HV.out _ HB4.out; have x0 := cell_of q0 0 (x := kC) rfl; have x1 := cell_of q0 1 (x := kS) rfl; have x2 := cell_of q0 2 (x := kF) rfl; have x3 := cell_of q0 3 (x := kN) rfl; have x4 := cell_of q0 4 (x := kT) rfl; have x5 := cell_of q0 5 (x := .map (some Bm)) rfl; have y0 := cell_of q1 0 (x := .int .i64 a.kind) rfl; have y1 := cell_of q1 1 (x := .string a.cls) rfl; have z0 := cell_of q2 0 (x := .int .i64 b.kind) rfl; have z1 := cell_of q2 1 (x := .string b.cls) rfl; have r0 := cell_of q3 0 (x := .int .i64 0) rfl; have r1 := cell_of q3 1 (x := .string ⟨#[]⟩) rfl; have rf := frz_of q3; clear q0 q1 q2 q3
            go_wp2_with fail
            refine (isThing_any _ a (HG.out _ HB4.out)).mono ?_
            rw [h4]
            rintro r w5 ⟨rfl, hb5⟩
            have HB5 := mkHid (vup HB4.out hb5)
            clear hb5
            clear x0 x1 x2 x3 x4 x5 y0 y1 z0 z1 r0 r1 rf; obtain ⟨q0, q1, q2, q3⟩ := HV.out _ HB5.out; have x0 := cell_of q0 0 (x := kC) rfl; have x1 := cell_of q0 1 (x := kS) rfl; have x2 := cell_of q0 2 (x := kF) rfl; have x3 := cell_of q0 3 (x := kN) rfl; have x4 := cell_of q0 4 (x := kT) rfl; have x5 := cell_of q0 5 (x := .map (some Bm)) rfl; have y0 := cell_of q1 0 (x := .int .i64 a.kind) rfl; have y1 := cell_of q1 1 (x := .string a.cls) rfl; have z0 := cell_of q2 0 (x := .int .i64 b.kind) rfl; have z1 := cell_of q2 1 (x := .string b.cls) rfl; have r0 := cell_of q3 0 (x := .int .i64 0) rfl; have r1 := cell_of q3 1 (x := .string ⟨#[]⟩) rfl; have rf := frz_of q3; clear q0 q1 q2 q3
            go_wp2_with fail
            refine (isThing_any _ b (HG.out _ HB5.out)).mono ?_
            rw [h5]
            rintro r w6 ⟨rfl, hb6⟩
            have HB6 := mkHid (vup HB5.out hb6)
            clear hb6
            clear x0 x1 x2 x3 x4 x5 y0 y1 z0 z1 r0 r1 rf; obtain ⟨q0, q1, q2, q3⟩ := HV.out _ HB6.out; have x0 := cell_of q0 0 (x := kC) rfl; have x1 := cell_of q0 1 (x := kS) rfl; have x2 := cell_of q0 2 (x := kF) rfl; have x3 := cell_of q0 3 (x := kN) rfl; have x4 := cell_of q0 4 (x := kT) rfl; have x5 := cell_of q0 5 (x := .map (some Bm)) rfl; have y0 := cell_of q1 0 (x := .int .i64 a.kind) rfl; have y1 := cell_of q1 1 (x := .string a.cls) rfl; have z0 := cell_of q2 0 (x := .int .i64 b.kind) rfl; have z1 := cell_of q2 1 (x := .string b.cls) rfl; have r0 := cell_of q3 0 (x := .int .i64 0) rfl; have r1 := cell_of q3 1 (x := .string ⟨#[]⟩) rfl; have rf := frz_of q3; clear q0 q1 q2 q3
            obtain ⟨t0, t1, a0, a1, -, -, -, -, -, -, -⟩ := HG.out _ HB6.out
            go_wp2_with fail
            exact bodyPost_ret (v := kv ⟨3, topName⟩) (by simp [results, Tryz.results138, go_sem, r0, r1]) rfl ⟨by rw [HR.out]; rfl, ((HB0.out.trans (HB6.out.mono HB0.out.size)).setCell HP3.out _).setCell HP3.out _⟩
          | false =>
            have e5 : (!sameK b numK && !sameK b anyK) = false := h5
            rw [e5] at HR
            clear e4 e5
            go_enter Tryz.func138, Tryz.ntmps138
            go_wp2_with fail
            rw [← hW0]
            refine (HFB.out _ (Below.refl _ _)).mono ?_
            rw [h1]
            rintro r w2 ⟨rfl, hb2⟩
            have HB2 := mkHid hb2
            clear hb2 hW0
            obtain ⟨q0, q1, q2, q3⟩ := HV.out _ HB2.out; have x0 := cell_of q0 0 (x := kC) rfl; have x1 := cell_of q0 1 (x := kS) rfl; have x2 := cell_of q0 2 (x := kF) rfl; have x3 := cell_of q0 3 (x := kN) rfl; have x4 := cell_of q0 4 (x := kT) rfl; have x5 := cell_of q0 5 (x := .map (some Bm)) rfl; have y0 := cell_of q1 0 (x := .int .i64 a.kind) rfl; have y1 := cell_of q1 1 (x := .string a.cls) rfl; have z0 := cell_of q2 0 (x := .int .i64 b.kind) rfl; have z1 := cell_of q2 1 (x := .string b.cls) rfl; have r0 := cell_of q3 0 (x := .int .i64 0) rfl; have r1 := cell_of q3 1 (x := .string ⟨#[]⟩) rfl; have rf := frz_of q3; clear q0 q1 q2 q3
            go_wp2_with fail
            refine (HFA.out _ HB2.out).mono ?_
            rw [h2]
            rintro r w3 ⟨rfl, hb3⟩
            have HB3 := mkHid (vup HB2.out hb3)
            clear hb3
            clear x0 x1 x2 x3 x4 x5 y0 y1 z0 z1 r0 r1 rf; obtain ⟨q0, q1, q2, q3⟩ := HV.out _ HB3.out; have x0 := cell_of q0 0 (x := kC) rfl; have x1 := cell_of q0 1 (x := kS) rfl; have x2 := cell_of q0 2 (x := kF) rfl; have x3 := cell_of q0 3 (x := kN) rfl; have x4 := cell_of q0 4 (x := kT) rfl; have x5 := cell_of q0 5 (x := .map (some Bm)) rfl; have y0 := cell_of q1 0 (x := .int .i64 a.kind) rfl; have y1 := cell_of q1 1 (x := .string a.cls) rfl; have z0 := cell_of q2 0 (x := .int .i64 b.kind) rfl; have z1 := cell_of q2 1 (x := .string b.cls) rfl; have r0 := cell_of q3 0 (x := .int .i64 0) rfl; have r1 := cell_of q3 1 (x := .string ⟨#[]⟩) rfl; have rf := frz_of q3; clear q0 q1 q2 q3
            go_wp2_with fail
            refine (areObjects_any _ a b).mono ?_
            rw [HO.out]
            rintro r w4 ⟨rfl, hb4⟩
            have HB4 := mkHid (vup HB3.out hb4)
            clear hb4
            clear x0 x1 x2 x3 x4 x5 y0 y1 z0 z1 r0 r1 rf; obtain ⟨q0, q1, q2, q3⟩ := HV.out _ HB4.out; have x0 := cell_of q0 0 (x := kC) rfl; have x1 := cell_of q0 1 (x := kS) rfl; have x2 := cell_of q0 2 (x := kF) rfl; have x3 := cell_of q0 3 (x := kN) rfl; have x4 := cell_of q0 4 (x := kT) rfl; have x5 := cell_of q0 5 (x := .map (some Bm)) rfl; have y0 := cell_of q1 0 (x := .int .i64 a.kind) rfl; have y1 := cell_of q1 1 (x := .string a.cls) rfl; have z0 := cell_of q2 0 (x := .int .i64 b.kind) rfl; have z1 := cell_of q2 1 (x := .string b.cls) rfl; have r0 := cell_of q3 0 (x := .int .i64 0) rfl; have r1 := cell_of q3 1 (x := .string ⟨#[]⟩) rfl; have rf := frz_of q3; clear q0 q1 q2 q3
            go_wp2_with fail
            refine (isThing_any _ a (HG.out _ HB4.out)).mono ?_
            rw [h4]
            rintro r w5 ⟨rfl, hb5⟩
            have HB5 := mkHid (vup HB4.out hb5)
            clear hb5
            clear x0 x1 x2 x3 x4 x5 y0 y1 z0 z1 r0 r1 rf; obtain ⟨q0, q1, q2, q3⟩ := HV.out _ HB5.out; have x0 := cell_of q0 0 (x := kC) rfl; have x1 := cell_of q0 1 (x := kS) rfl; have x2 := cell_of q0 2 (x := kF) rfl; have x3 := cell_of q0 3 (x := kN) rfl; have x4 := cell_of q0 4 (x := kT) rfl; have x5 := cell_of q0 5 (x := .map (some Bm)) rfl; have y0 := cell_of q1 0 (x := .int .i64 a.kind) rfl; have y1 := cell_of q1 1 (x := .string a.cls) rfl; have z0 := cell_of q2 0 (x := .int .i64 b.kind) rfl; have z1 := cell_of q2 1 (x := .string b.cls) rfl; have r0 := cell_of q3 0 (x := .int .i64 0) rfl; have r1 := cell_of q3 1 (x := .string ⟨#[]⟩) rfl; have rf := frz_of q3; clear q0 q1 q2 q3
            go_wp2_with fail
            refine (isThing_any _ b (HG.out _ HB5.out)).mono ?_
            rw [h5]
            rintro r w6 ⟨rfl, hb6⟩
            have HB6 := mkHid (vup HB5.out hb6)
            clear hb6
            clear x0 x1 x2 x3 x4 x5 y0 y1 z0 z1 r0 r1 rf; obtain ⟨q0, q1, q2, q3⟩ := HV.out _ HB6.out; have x0 := cell_of q0 0 (x := kC) rfl; have x1 := cell_of q0 1 (x := kS) rfl; have x2 := cell_of q0 2 (x := kF) rfl; have x3 := cell_of q0 3 (x := kN) rfl; have x4 := cell_of q0 4 (x := kT) rfl; have x5 := cell_of q0 5 (x := .map (some Bm)) rfl; have y0 := cell_of q1 0 (x := .int .i64 a.kind) rfl; have y1 := cell_of q1 1 (x := .string a.cls) rfl; have z0 := cell_of q2 0 (x := .int .i64 b.kind) rfl; have z1 := cell_of q2 1 (x := .string b.cls) rfl; have r0 := cell_of q3 0 (x := .int .i64 0) rfl; have r1 := cell_of q3 1 (x := .string ⟨#[]⟩) rfl; have rf := frz_of q3; clear q0 q1 q2 q3
            obtain ⟨t0, t1, a0, a1, -, -, -, -, -, -, -⟩ := HG.out _ HB6.out
            go_wp2_with fail
            exact bodyPost_ret (v := kv anyK) (by simp [results, Tryz.results138, go_sem, r0, r1, anyK]) rfl ⟨by rw [HR.out]; rfl, ((HB0.out.trans (HB6.out.mono HB0.out.size)).setCell HP3.out _).setCell HP3.out _⟩
        | false =>
          have e4 : (!sameK a numK && !sameK a anyK) = false := h4
          rw [e4] at HR
          clear e4
          go_enter Tryz.func138, Tryz.ntmps138
          go_wp2_with fail
          rw [← hW0]
          refine (HFB.out _ (Below.refl _ _)).mono ?_
          rw [h1]
          rintro r w2 ⟨rfl, hb2⟩
          have HB2 := mkHid hb2
          clear hb2 hW0
          obtain ⟨q0, q1, q2, q3⟩ := HV.out _ HB2.out; have x0 := cell_of q0 0 (x := kC) rfl; have x1 := cell_of q0 1 (x := kS) rfl; have x2 := cell_of q0 2 (x := kF) rfl; have x3 := cell_of q0 3 (x := kN) rfl; have x4 := cell_of q0 4 (x := kT) rfl; have x5 := cell_of q0 5 (x := .map (some Bm)) rfl; have y0 := cell_of q1 0 (x := .int .i64 a.kind) rfl; have y1 := cell_of q1 1 (x := .string a.cls) rfl; have z0 := cell_of q2 0 (x := .int .i64 b.kind) rfl; have z1 := cell_of q2 1 (x := .string b.cls) rfl; have r0 := cell_of q3 0 (x := .int .i64 0) rfl; have r1 := cell_of q3 1 (x := .string ⟨#[]⟩) rfl; have rf := frz_of q3; clear q0 q1 q2 q3
          go_wp2_with fail
          refine (HFA.out _ HB2.out).mono ?_
          rw [h2]
          rintro r w3 ⟨rfl, hb3⟩
          have HB3 := mkHid (vup HB2.out hb3)
          clear hb3
          clear x0 x1 x2 x3 x4 x5 y0 y1 z0 z1 r0 r1 rf; obtain ⟨q0, q1, q2, q3⟩ := HV.out _ HB3.out; have x0 := cell_of q0 0 (x := kC) rfl; have x1 := cell_of q0 1 (x := kS) rfl; have x2 := cell_of q0 2 (x := kF) rfl; have x3 := cell_of q0 3 (x := kN) rfl; have x4 := cell_of q0 4 (x := kT) rfl; have x5 := cell_of q0 5 (x := .map (some Bm)) rfl; have y0 := cell_of q1 0 (x := .int .i64 a.kind) rfl; have y1 := cell_of q1 1 (x := .string a.cls) rfl; have z0 := cell_of q2 0 (x := .int .i64 b.kind) rfl; have z1 := cell_of q2 1 (x := .string b.cls) rfl; have r0 := cell_of q3 0 (x := .int .i64 0) rfl; have r1 := cell_of q3 1 (x := .string ⟨#[]⟩) rfl; have rf := frz_of q3; clear q0 q1 q2 q3
          go_wp2_with fail
          refine (areObjects_any _ a b).mono ?_
          rw [HO.out]
          rintro r w4 ⟨rfl, hb4⟩
          have HB4 := mkHid (vup HB3.out hb4)
          clear hb4
          clear x0 x1 x2 x3 x4 x5 y0 y1 z0 z1 r0 r1 rf; obtain ⟨q0, q1, q2, q3⟩ := HV.out _ HB4.out; have x0 := cell_of q0 0 (x := kC) rfl; have x1 := cell_of q0 1 (x := kS) rfl; have x2 := cell_of q0 2 (x := kF) rfl; have x3 := cell_of q0 3 (x := kN) rfl; have x4 := cell_of q0 4 (x := kT) rfl; have x5 := cell_of q0 5 (x := .map (some Bm)) rfl; have y0 := cell_of q1 0 (x := .int .i64 a.kind) rfl; have y1 := cell_of q1 1 (x := .string a.cls) rfl; have z0 := cell_of q2 0 (x := .int .i64 b.kind) rfl; have z1 := cell_of q2 1 (x := .string b.cls) rfl; have r0 := cell_of q3 0 (x := .int .i64 0) rfl; have r1 := cell_of q3 1 (x := .string ⟨#[]⟩) rfl; have rf := frz_of q3; clear q0 q1 q2 q3
          go_wp2_with fail
          refine (isThing_any _ a (HG.out _ HB4.out)).mono ?_
          rw [h4]
          rintro r w5 ⟨rfl, hb5⟩
          have HB5 := mkHid (vup HB4.out hb5)
          clear hb5
          clear x0 x1 x2 x3 x4 x5 y0 y1 z0 z1 r0 r1 rf; obtain ⟨q0, q1, q2, q3⟩ := HV.out _ HB5.out; have x0 := cell_of q0 0 (x := kC) rfl; have x1 := cell_of q0 1 (x := kS) rfl; have x2 := cell_of q0 2 (x := kF) rfl; have x3 := cell_of q0 3 (x := kN) rfl; have x4 := cell_of q0 4 (x := kT) rfl; have x5 := cell_of q0 5 (x := .map (some Bm)) rfl; have y0 := cell_of q1 0 (x := .int .i64 a.kind) rfl; have y1 := cell_of q1 1 (x := .string a.cls) rfl; have z0 := cell_of q2 0 (x := .int .i64 b.kind) rfl; have z1 := cell_of q2 1 (x := .string b.cls) rfl; have r0 := cell_of q3 0 (x := .int .i64 0) rfl; have r1 := cell_of q3 1 (x := .string ⟨#[]⟩) rfl; have rf := frz_of q3; clear q0 q1 q2 q3
          obtain ⟨t0, t1, a0, a1, -, -, -, -, -, -, -⟩ := HG.out _ HB5.out
          go_wp2_with fail
          exact bodyPost_ret (v := kv anyK) (by simp [results, Tryz.results138, go_sem, r0, r1, anyK]) rfl ⟨by rw [HR.out]; rfl, ((HB0.out.trans (HB5.out.mono HB0.out.size)).setCell HP3.out _).setCell HP3.out _⟩
end Go.Proofs.YtfibgdcpbkaaoaaGreatDoor
