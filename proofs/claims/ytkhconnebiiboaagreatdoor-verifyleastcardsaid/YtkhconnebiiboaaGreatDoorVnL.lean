/- The law: Join is the least kind that both fit; whatever fits what fits fits. -/
import Derived.Test.YtkhconnebiiboaaGreatDoorJVmRVnB
import Derived.Test.YtkhconnebiiboaaGreatDoorJLFiLBeg
namespace Go.Proofs.YtkhconnebiiboaaGreatDoor
open Go.RowKit Go.Maps

/-- The boxes of the law. -/
structure Bxs (V : World) (K A : Nat) (kC kS kF kN kT : Value) (a b c : KindD) : Prop where
  bK : V.heap[K]? = some (.cells #[kC, kS, kF, kN, kT] 31 (0, 0))
  bA : V.heap[A]? = some (.cells #[.int .i64 a.kind, .string a.cls] 24 (0, 0))
  bB : V.heap[A + 1]? = some (.cells #[.int .i64 b.kind, .string b.cls] 24 (0, 0))
  bC : V.heap[A + 1 + 1]? = some (.cells #[.int .i64 c.kind, .string c.cls] 24 (0, 0))
theorem Bxs.up {V V' : World} {K A : Nat} {kC kS kF kN kT : Value} {a b c : KindD} (h : Bxs V K A kC kS kF kN kT a b c) (hb : Below V.heap.size V V') : Bxs V' K A kC kS kF kN kT a b c :=
  ⟨(hb.block _ (lt_of h.bK)).trans h.bK, (hb.block _ (lt_of h.bA)).trans h.bA, (hb.block _ (lt_of h.bB)).trans h.bB, (hb.block _ (lt_of h.bC)).trans h.bC⟩
set_option maxRecDepth 100000 in
set_option maxHeartbeats 16000000 in
theorem verifyLeast_any (w : World) (B : Nat) (v : Value) (l : List ClassD) (hv : SL 4 RC (· < B) w v l) (hB : B ≤ w.heap.size) (hg : GlK w) (hT : Cd.Tabs w) (a b c : KindD) (hsa : a.cls.size ≤ maxLen) (hsb : b.cls.size ≤ maxLen) (hsc : c.cls.size ≤ maxLen) :
    Calls Tryz.prog 3 #[v, kv a, kv b, kv c] w fun r w' => r = .returned (.bool true) ∧ Below w.heap.size w w' := by
  obtain ⟨W0, hW0, hB0, hs0, q0, q1, q2⟩ := boxes3 w #[.int .i64 a.kind, .string a.cls] #[.int .i64 b.kind, .string b.cls] #[.int .i64 c.kind, .string c.cls] 24 24 24
  have HB0 := mkHid hB0
  have HQ := mkHid (And.intro q0 (And.intro q1 q2))
  have HSa := mkHid hsa
  have HSb := mkHid hsb
  have HSc := mkHid hsc
  have HVB := mkHid (verifyBegun_any W0 (hg.below hB0) (hT.below hB0))
  have HG := mkHid hg
  have HV := mkHid hv
  obtain ⟨av, cv, rfl, -⟩ := hv
  clear hg hT hB0 hs0 q0 q1 q2 hsa hsb hsc
  go_enter Tryz.func3, Tryz.ntmps3
  go_wp2_with fail
  rw [← hW0]
  clear hW0
  refine HVB.out.mono ?_
  rintro r w1 ⟨rfl, hb1⟩
  have HB1 := mkHid hb1
  clear hb1
  go_wp2_with fail
  refine (linkBegun_any w1).mono ?_
  rintro r w2 ⟨rfl, hb2⟩
  have HB2 : Hid (Below W0.heap.size W0 w2) := HB1.out.trans (hb2.mono HB1.out.size)
  have HBw2 := mkHid (HB0.out.trans (HB2.out.mono HB0.out.size))
  clear hb2
  go_wp2_with fail
  refine (Link_any w2 B l _ (HV.out.keptC (Kp.below (HBw2.out.mono hB))) (Nat.le_trans hB HBw2.out.size)).mono ?_
  rintro r w3 ⟨hb3, ⟨htie, kC, kS, kF, kN, kT, rfl, hk⟩ | ⟨htie, rfl⟩⟩
  rotate_left
  · have HBF := mkHid (fun o => (HBw2.out.trans (hb3.mono HBw2.out.size)).alloc (Nat.le_trans HBw2.out.size hb3.size) o)
    have hne : ¬ tieRes l = 0 := htie
    have hnb : (tieRes l != 0) = true := by simpa using htie
    unfold nilLk
    generalize tieRes l = e at *
    clear hb3 htie
    go_wp2_with fail
    go_ret
    exact ⟨rfl, HBF.out _⟩
  have HTIE := mkHid htie
  have hkk := hk.mono (M' := (· < w3.heap.size)) fun k h => h.2
  obtain ⟨aC, cC, aS, cS, aF, cF, aN, cN, aT, cT, rfl, rfl, rfl, rfl, rfl⟩ := hkk.agg
  have HB3 : Hid (Below W0.heap.size W0 w3) := HB2.out.trans (hb3.mono HB2.out.size)
  have HBw3 := mkHid (HB0.out.trans (HB3.out.mono HB0.out.size))
  have HK := mkHid hkk
  have HCLS := mkHid (cls_link htie)
  have HCHK := mkHid (chk_link htie)
  have HGD : Hid (∀ x, okK (linkD l) x = true ↔ GdK (fun s => 0 ≤ num l s) x) := fun x => okK_gd htie
  have HTEN : Hid ((linkD l).classes.length ≤ 10) := by
    have h9 := tie_chk htie
    unfold checkL at h9
    have h8 : decide (l.length ≤ 10) = true := (dem_zero h9 (by decide)).1
    exact (of_decide_eq_true h8 : l.length ≤ 10)
  obtain ⟨d, hd⟩ : ∃ d, d = linkD l := ⟨_, rfl⟩
  have HDC : Hid (d.classes = l) := by rw [hd]; rfl
  rw [← hd] at HK HCLS HCHK HGD HTEN
  rw [← hd]
  clear hk hkk hb3 htie hd
  obtain ⟨v4, hv4, hB4, hs4, hbK⟩ := boxes1 w3 #[.slice aC d.classes.length cC, .slice aS d.supers.length cS, .slice aF d.fields.length cF, .slice aN d.names.length cN, .slice aT d.targets.length cT] 31
  have HB4 : Hid (Below W0.heap.size W0 v4) := HB3.out.trans (hB4.mono HB3.out.size)
  have HX4 : Hid (Bxs v4 w3.heap.size w.heap.size (.slice aC d.classes.length cC) (.slice aS d.supers.length cS) (.slice aF d.fields.length cF) (.slice aN d.names.length cN) (.slice aT d.targets.length cT) a b c) := ⟨hbK, (HB4.out.block _ (lt_of HQ.out.1)).trans HQ.out.1, (HB4.out.block _ (lt_of HQ.out.2.1)).trans HQ.out.2.1, (HB4.out.block _ (lt_of HQ.out.2.2)).trans HQ.out.2.2⟩
  have HW4 : Hid (Below w3.heap.size w3 v4) := hB4
  have HBL : Hid (∀ V, Below w3.heap.size w3 V → Below w.heap.size w V) := fun V hV => HBw3.out.trans (hV.mono HBw3.out.size)
  have hlen : d.classes = l := HDC.out
  have HFT : Hid (∀ (V : World) (x y : KindD), x.cls.size ≤ maxLen → y.cls.size ≤ maxLen → Below w3.heap.size w3 V → Calls Tryz.prog 8 #[.agg #[.slice aC d.classes.length cC, .slice aS d.supers.length cS, .slice aF d.fields.length cF, .slice aN d.names.length cN, .slice aT d.targets.length cT], kv x, kv y] V fun r w' => Below V.heap.size V w' ∧ ∃ (bv : Bool) (e : Int), r = .returned (.tuple #[.bool bv, .int .i64 e]) ∧ ((e = 0 → okK d x = true ∧ okK d y = true ∧ bv = fitB topName (lnN l) x y) ∧ (okK d x = true → okK d y = true → e = 0))) := fun V x y hx hy hV => by
    refine (Fits_any V w3.heap.size aC aS aF aN aT cC cS cF cN cT d (HK.out.kept (Kp.below hV)) hV.size (HG.out.below (HBL.out V hV)) HCHK.out HTEN.out HCLS.out (fun z hz => by rw [hlen]; exact (HGD.out z).1 hz) x y hx hy).mono ?_
    rintro r w' ⟨hb, ⟨ho, rfl⟩ | ⟨ho, e, he, rfl⟩⟩
    · rw [Bool.and_eq_true] at ho
      exact ⟨hb, _, _, rfl, fun _ => ⟨ho.1, ho.2, rfl⟩, fun _ _ => rfl⟩
    · refine ⟨hb, _, _, rfl, fun h => absurd h he, fun h1 h2 => ?_⟩
      rw [h1, h2] at ho
      cases ho
  have HJN : Hid (Calls Tryz.prog 7 #[.agg #[.slice aC d.classes.length cC, .slice aS d.supers.length cS, .slice aF d.fields.length cF, .slice aN d.names.length cN, .slice aT d.targets.length cT], kv a, kv b] v4 fun r w' => Below v4.heap.size v4 w' ∧ ∃ (j : KindD) (e : Int), r = .returned (.tuple #[kv j, .int .i64 e]) ∧ j.cls.size ≤ maxLen ∧ (e = 0 → okK d a = true ∧ okK d b = true ∧ j = joinB topName (lnN l) a b)) := by
    refine (Join_any v4 w3.heap.size aC aS aF aN aT cC cS cF cN cT d (HK.out.kept (Kp.below HW4.out)) HW4.out.size (HG.out.below (HBL.out _ HW4.out)) HCHK.out HTEN.out HCLS.out (fun z hz => by rw [hlen]; exact (HGD.out z).1 hz) a b HSa.out HSb.out).mono ?_
    rintro r w' ⟨hb, ⟨ho, rfl⟩ | ⟨ho, e, he, rfl⟩⟩
    · rw [Bool.and_eq_true] at ho
      refine ⟨hb, _, _, rfl, ?_, fun _ => ⟨ho.1, ho.2, rfl⟩⟩
      have hj := (joinB_spec HCLS.out.lin (a := a) (b := b) (by rw [hlen]; exact (HGD.out a).1 ho.1) (by rw [hlen]; exact (HGD.out b).1 ho.2)).1
      rcases hj with ⟨-, h⟩ | h | h | h | h
      · obtain ⟨n, hn, -, e⟩ := HCLS.out.nm _ h
        obtain ⟨_, _, _, _, _, _, _, _, _, _, _, _, h, _⟩ := HK.out.C.atC n hn
        rw [← e]
        exact h
      all_goals rw [h]; exact Nat.zero_le _
    · exact ⟨hb, ⟨0, ⟨#[]⟩⟩, _, rfl, Nat.zero_le _, fun h => absurd h he⟩
  clear hB4 hs4 hbK hlen
  have y0 := (HB3.out.block _ (lt_of HQ.out.1)).trans HQ.out.1
  have y1 := (HB3.out.block _ (lt_of HQ.out.2.1)).trans HQ.out.2.1
  have p9_0 := cell_of y0 0 (x := .int .i64 a.kind) rfl
  have p9_1 := cell_of y0 1 (x := .string a.cls) rfl
  have q9_0 := cell_of y1 0 (x := .int .i64 b.kind) rfl
  have q9_1 := cell_of y1 1 (x := .string b.cls) rfl
  have l9_0 := lt_of y0
  have l9_1 := lt_of y1
  clear y0 y1
  go_wp2_with fail
  rw [← hv4]
  clear hv4
  refine HJN.out.mono ?_
  rintro r u5 ⟨hb5, j, ej, rfl, hjs, hje⟩
  have HSj := mkHid hjs
  have HZ5 := mkHid hje
  have HXu := mkHid (HX4.out.up hb5)
  obtain ⟨v5, hv5, hB5, hs5, hbJ⟩ := boxes1 u5 #[.int .i64 j.kind, .string j.cls] 24
  have HJB5 := mkHid hbJ
  have HX5 := mkHid (HXu.out.up hB5)
  have HW5a := mkHid (HW4.out.trans (hb5.mono HW4.out.size))
  have HW5 := mkHid (HW5a.out.trans (hB5.mono HW5a.out.size))
  clear hb5 hjs hje hB5 hs5 hbJ p9_0 p9_1 q9_0 q9_1 l9_0 l9_1 HJN
  have f6_0 := cell_of HXu.out.bK 0 (x := .slice aC d.classes.length cC) rfl
  have f6_1 := cell_of HXu.out.bK 1 (x := .slice aS d.supers.length cS) rfl
  have f6_2 := cell_of HXu.out.bK 2 (x := .slice aF d.fields.length cF) rfl
  have f6_3 := cell_of HXu.out.bK 3 (x := .slice aN d.names.length cN) rfl
  have f6_4 := cell_of HXu.out.bK 4 (x := .slice aT d.targets.length cT) rfl
  have p6_0 := cell_of HXu.out.bA 0 (x := .int .i64 a.kind) rfl
  have p6_1 := cell_of HXu.out.bA 1 (x := .string a.cls) rfl
  have q6_0 := cell_of HXu.out.bB 0 (x := .int .i64 b.kind) rfl
  have q6_1 := cell_of HXu.out.bB 1 (x := .string b.cls) rfl
  have l6_0 := lt_of HXu.out.bK
  have l6_1 := lt_of HXu.out.bA
  have l6_2 := lt_of HXu.out.bB
  go_wp2_with fail
  rw [← hv5]
  refine (HFT.out v5 a b HSa.out HSb.out HW5.out).mono ?_
  rintro r v6 ⟨hb6, b6, e6, rfl, hz6⟩
  have HX6 := mkHid (HX5.out.up hb6)
  have HW6 := mkHid (HW5.out.trans (hb6.mono HW5.out.size))
  have HZ6 := mkHid hz6
  have HJB6 := mkHid ((hb6.block _ (lt_of HJB5.out)).trans HJB5.out)
  clear hb6 hz6 hv5 l6_0 l6_1 l6_2
  clear f6_0 f6_1 f6_2 f6_3 f6_4 p6_0 p6_1 q6_0 q6_1
  have f7_0 := cell_of HX6.out.bK 0 (x := .slice aC d.classes.length cC) rfl
  have f7_1 := cell_of HX6.out.bK 1 (x := .slice aS d.supers.length cS) rfl
  have f7_2 := cell_of HX6.out.bK 2 (x := .slice aF d.fields.length cF) rfl
  have f7_3 := cell_of HX6.out.bK 3 (x := .slice aN d.names.length cN) rfl
  have f7_4 := cell_of HX6.out.bK 4 (x := .slice aT d.targets.length cT) rfl
  have p7_0 := cell_of HX6.out.bB 0 (x := .int .i64 b.kind) rfl
  have p7_1 := cell_of HX6.out.bB 1 (x := .string b.cls) rfl
  have q7_0 := cell_of HX6.out.bC 0 (x := .int .i64 c.kind) rfl
  have q7_1 := cell_of HX6.out.bC 1 (x := .string c.cls) rfl
  go_wp2_with fail
  refine (HFT.out v6 b c HSb.out HSc.out HW6.out).mono ?_
  rintro r v7 ⟨hb7, b7, e7, rfl, hz7⟩
  have HX7 := mkHid (HX6.out.up hb7)
  have HW7 := mkHid (HW6.out.trans (hb7.mono HW6.out.size))
  have HZ7 := mkHid hz7
  have HJB7 := mkHid ((hb7.block _ (lt_of HJB6.out)).trans HJB6.out)
  clear hb7 hz7
  clear f7_0 f7_1 f7_2 f7_3 f7_4 p7_0 p7_1 q7_0 q7_1
  have f8_0 := cell_of HX7.out.bK 0 (x := .slice aC d.classes.length cC) rfl
  have f8_1 := cell_of HX7.out.bK 1 (x := .slice aS d.supers.length cS) rfl
  have f8_2 := cell_of HX7.out.bK 2 (x := .slice aF d.fields.length cF) rfl
  have f8_3 := cell_of HX7.out.bK 3 (x := .slice aN d.names.length cN) rfl
  have f8_4 := cell_of HX7.out.bK 4 (x := .slice aT d.targets.length cT) rfl
  have p8_0 := cell_of HX7.out.bA 0 (x := .int .i64 a.kind) rfl
  have p8_1 := cell_of HX7.out.bA 1 (x := .string a.cls) rfl
  have q8_0 := cell_of HX7.out.bC 0 (x := .int .i64 c.kind) rfl
  have q8_1 := cell_of HX7.out.bC 1 (x := .string c.cls) rfl
  go_wp2_with fail
  refine (HFT.out v7 a c HSa.out HSc.out HW7.out).mono ?_
  rintro r v8 ⟨hb8, b8, e8, rfl, hz8⟩
  have HX8 := mkHid (HX7.out.up hb8)
  have HW8 := mkHid (HW7.out.trans (hb8.mono HW7.out.size))
  have HZ8 := mkHid hz8
  have HJB8 := mkHid ((hb8.block _ (lt_of HJB7.out)).trans HJB7.out)
  clear hb8 hz8
  clear f8_0 f8_1 f8_2 f8_3 f8_4 p8_0 p8_1 q8_0 q8_1
  by_cases h5 : ¬ ej = 0
  · have g5 : (ej != 0) = true := by simpa using h5
    go_wp2_with fail
    go_ret
    exact ⟨rfl, HBL.out _ HW8.out⟩
  replace h5 := Classical.not_not.1 h5
  have g5 : (ej != 0) = false := by rw [h5]; rfl
  by_cases h6 : ¬ e6 = 0
  · have g6 : (e6 != 0) = true := by simpa using h6
    go_wp2_with fail
    go_ret
    exact ⟨rfl, HBL.out _ HW8.out⟩
  replace h6 := Classical.not_not.1 h6
  have g6 : (e6 != 0) = false := by rw [h6]; rfl
  by_cases h7 : ¬ e7 = 0
  · have g7 : (e7 != 0) = true := by simpa using h7
    go_wp2_with fail
    go_ret
    exact ⟨rfl, HBL.out _ HW8.out⟩
  replace h7 := Classical.not_not.1 h7
  have g7 : (e7 != 0) = false := by rw [h7]; rfl
  by_cases h8 : ¬ e8 = 0
  · have g8 : (e8 != 0) = true := by simpa using h8
    go_wp2_with fail
    go_ret
    exact ⟨rfl, HBL.out _ HW8.out⟩
  replace h8 := Classical.not_not.1 h8
  have g8 : (e8 != 0) = false := by rw [h8]; rfl
  obtain ⟨oa, ob, ejj⟩ := HZ5.out h5
  obtain ⟨-, -, e6b⟩ := HZ6.out.1 h6
  obtain ⟨-, oc, e7b⟩ := HZ7.out.1 h7
  obtain ⟨-, -, e8b⟩ := HZ8.out.1 h8
  have hlen : d.classes = l := HDC.out
  have hga : GdK (fun s => 0 ≤ num d.classes s) a := by rw [hlen]; exact (HGD.out a).1 oa
  have hgb : GdK (fun s => 0 ≤ num d.classes s) b := by rw [hlen]; exact (HGD.out b).1 ob
  have hgc : GdK (fun s => 0 ≤ num d.classes s) c := by rw [hlen]; exact (HGD.out c).1 oc
  obtain ⟨j1, j2, j3, j4⟩ := joinB_spec HCLS.out.lin hga hgb
  rw [← ejj] at j1 j2 j3 j4
  have oj : okK d j = true := (HGD.out j).2 (by rw [← hlen]; exact j1)
  have HTR : Hid (b6 = true → b7 = true → b8 = true) := fun x1 x2 => by
    rw [e6b] at x1
    rw [e7b] at x2
    rw [e8b]
    exact fitB_iff.2 (FitK.trans HCLS.out.lin hga hgb (fitB_iff.1 x1) (fitB_iff.1 x2))
  have HAJ : Hid (fitB topName (lnN l) a j = true) := fitB_iff.2 j2
  have HBJ : Hid (fitB topName (lnN l) b j = true) := fitB_iff.2 j3
  have HJC : Hid (b8 = true → b7 = true → fitB topName (lnN l) j c = true) := fun x1 x2 => by
    rw [e8b] at x1
    rw [e7b] at x2
    exact fitB_iff.2 (j4 c hgc (fitB_iff.1 x1) (fitB_iff.1 x2))
  have HOA := mkHid oa
  have HOB := mkHid ob
  have HOC := mkHid oc
  have HOJ := mkHid oj
  clear oa ob oc oj ejj e6b e7b e8b hga hgb hgc j1 j2 j3 j4 hlen HZ5 HZ6 HZ7 HZ8
  subst h5
  subst h6
  subst h7
  subst h8
  have f9_0 := cell_of HX8.out.bK 0 (x := .slice aC d.classes.length cC) rfl
  have f9_1 := cell_of HX8.out.bK 1 (x := .slice aS d.supers.length cS) rfl
  have f9_2 := cell_of HX8.out.bK 2 (x := .slice aF d.fields.length cF) rfl
  have f9_3 := cell_of HX8.out.bK 3 (x := .slice aN d.names.length cN) rfl
  have f9_4 := cell_of HX8.out.bK 4 (x := .slice aT d.targets.length cT) rfl
  have p9_0 := cell_of HX8.out.bA 0 (x := .int .i64 a.kind) rfl
  have p9_1 := cell_of HX8.out.bA 1 (x := .string a.cls) rfl
  have q9_0 := cell_of HJB8.out 0 (x := .int .i64 j.kind) rfl
  have q9_1 := cell_of HJB8.out 1 (x := .string j.cls) rfl
  go_wp2_with fail
  refine (HFT.out v8 a j HSa.out HSj.out HW8.out).mono ?_
  rintro r v9 ⟨hb9, b9, e9, rfl, hz9⟩
  have HX9 := mkHid (HX8.out.up hb9)
  have HW9 := mkHid (HW8.out.trans (hb9.mono HW8.out.size))
  have HZ9 := mkHid hz9
  have HJB9 := mkHid ((hb9.block _ (lt_of HJB8.out)).trans HJB8.out)
  clear hb9 hz9
  clear f9_0 f9_1 f9_2 f9_3 f9_4 p9_0 p9_1 q9_0 q9_1
  have f10_0 := cell_of HX9.out.bK 0 (x := .slice aC d.classes.length cC) rfl
  have f10_1 := cell_of HX9.out.bK 1 (x := .slice aS d.supers.length cS) rfl
  have f10_2 := cell_of HX9.out.bK 2 (x := .slice aF d.fields.length cF) rfl
  have f10_3 := cell_of HX9.out.bK 3 (x := .slice aN d.names.length cN) rfl
  have f10_4 := cell_of HX9.out.bK 4 (x := .slice aT d.targets.length cT) rfl
  have p10_0 := cell_of HX9.out.bB 0 (x := .int .i64 b.kind) rfl
  have p10_1 := cell_of HX9.out.bB 1 (x := .string b.cls) rfl
  have q10_0 := cell_of HJB9.out 0 (x := .int .i64 j.kind) rfl
  have q10_1 := cell_of HJB9.out 1 (x := .string j.cls) rfl
  go_wp2_with fail
  refine (HFT.out v9 b j HSb.out HSj.out HW9.out).mono ?_
  rintro r v10 ⟨hb10, b10, e10, rfl, hz10⟩
  have HX10 := mkHid (HX9.out.up hb10)
  have HW10 := mkHid (HW9.out.trans (hb10.mono HW9.out.size))
  have HZ10 := mkHid hz10
  have HJB10 := mkHid ((hb10.block _ (lt_of HJB9.out)).trans HJB9.out)
  clear hb10 hz10
  clear f10_0 f10_1 f10_2 f10_3 f10_4 p10_0 p10_1 q10_0 q10_1
  have f11_0 := cell_of HX10.out.bK 0 (x := .slice aC d.classes.length cC) rfl
  have f11_1 := cell_of HX10.out.bK 1 (x := .slice aS d.supers.length cS) rfl
  have f11_2 := cell_of HX10.out.bK 2 (x := .slice aF d.fields.length cF) rfl
  have f11_3 := cell_of HX10.out.bK 3 (x := .slice aN d.names.length cN) rfl
  have f11_4 := cell_of HX10.out.bK 4 (x := .slice aT d.targets.length cT) rfl
  have p11_0 := cell_of HJB10.out 0 (x := .int .i64 j.kind) rfl
  have p11_1 := cell_of HJB10.out 1 (x := .string j.cls) rfl
  have q11_0 := cell_of HX10.out.bC 0 (x := .int .i64 c.kind) rfl
  have q11_1 := cell_of HX10.out.bC 1 (x := .string c.cls) rfl
  go_wp2_with fail
  refine (HFT.out v10 j c HSj.out HSc.out HW10.out).mono ?_
  rintro r v11 ⟨hb11, b11, e11, rfl, hz11⟩
  have HX11 := mkHid (HX10.out.up hb11)
  have HW11 := mkHid (HW10.out.trans (hb11.mono HW10.out.size))
  have HZ11 := mkHid hz11
  have HJB11 := mkHid ((hb11.block _ (lt_of HJB10.out)).trans HJB10.out)
  clear hb11 hz11
  clear f11_0 f11_1 f11_2 f11_3 f11_4 p11_0 p11_1 q11_0 q11_1
  have z9 : e9 = 0 := HZ9.out.2 HOA.out HOJ.out
  have z10 : e10 = 0 := HZ10.out.2 HOB.out HOJ.out
  have z11 : e11 = 0 := HZ11.out.2 HOJ.out HOC.out
  obtain ⟨-, -, y9⟩ := HZ9.out.1 z9
  obtain ⟨-, -, y10⟩ := HZ10.out.1 z10
  obtain ⟨-, -, y11⟩ := HZ11.out.1 z11
  rw [HAJ.out] at y9
  rw [HBJ.out] at y10
  have HJ2 : Hid (b8 = true → b7 = true → b11 = true) := fun x1 x2 => by rw [y11]; exact HJC.out x1 x2
  clear y11
  subst z9
  subst z10
  subst z11
  subst y9
  subst y10
  clear HZ9 HZ10 HZ11 g5 g6 g7 g8 HJC HAJ HBJ
  cases b6 <;> cases b7 <;> cases b8 <;> cases b11
  all_goals
    first
      | exact absurd (HTR.out rfl rfl) (by decide)
      | exact absurd (HJ2.out rfl rfl) (by decide)
      | (go_wp2_with fail
         go_ret
         exact ⟨rfl, HBL.out _ HW11.out⟩)
end Go.Proofs.YtkhconnebiiboaaGreatDoor
