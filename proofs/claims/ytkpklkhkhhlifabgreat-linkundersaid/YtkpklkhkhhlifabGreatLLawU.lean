/- The law LinkUnder, walked. -/
import Derived.Test.YtkpklkhkhhlifabGreatLPu7
import Derived.Test.YtkpklkhkhhlifabGreatJLKcLLawC
import Derived.Test.YtkpklkhkhhlifabGreatJLLkLBeg
import Derived.Test.YtkpklkhkhhlifabGreatLLawF
import Derived.Test.YtkpklkhkhhlifabGreatLRf4
namespace Go.Proofs.YtkpklkhkhhlifabGreat
open Go.RowKit Go.Maps

theorem chk_in {d : LinkD} (h : chkRes d [] = 0) {a b : Nat} (ha : a < d.classes.length) (hb : b < d.classes.length) : chkRes d [(a : Int), (b : Int)] = 0 := by
  rw [chk_some h]
  simp [inB]
  omega
theorem isVal_in {d : LinkD} (h : chkRes d [] = 0) {a b : Nat} (ha : a < d.classes.length) (hb : b < d.classes.length) : isVal d a b = decide (b ∈ lineOf d.classes a) := by
  rw [isVal, if_pos (chk_in h ha hb), Bool.eq_iff_iff, underB_mem, decide_eq_true_iff]

set_option maxRecDepth 100000 in
set_option maxHeartbeats 4000000 in
theorem linkUnder_any (w : World) (v : Value) (l : List ClassD) (a b : Int) (hv : SL 4 RC (· < w.heap.size) w v l) (ha1 : -9223372036854775808 ≤ a) (ha2 : a ≤ 9223372036854775807) (hb1 : -9223372036854775808 ≤ b) (hb2 : b ≤ 9223372036854775807) :
    Calls Tryz.prog 7 #[v, .int .i64 a, .int .i64 b] w fun r w' => r = .returned (.bool true) ∧ Below w.heap.size w w' := by
  have HV := mkHid hv
  have HBD := mkHid (And.intro (And.intro ha1 ha2) (And.intro hb1 hb2))
  have hll : l.length ≤ 9223372036854775807 := by obtain ⟨_, _, -, -, h, -⟩ := hv; unfold maxLen at h; omega
  obtain ⟨ao, cl, rfl, -⟩ := hv
  clear ha1 ha2 hb1 hb2
  go_enter Tryz.func7, Tryz.ntmps7
  go_wp2_with fail
  refine (linkBegun_any _).mono ?_
  rintro r w1 ⟨rfl, hb1⟩
  have HB1 := mkHid hb1
  clear hb1
  go_wp2_with fail
  refine (Link_any w1 w.heap.size l _ (HV.out.keptC (Kp.below HB1.out)) HB1.out.size).mono ?_
  rintro r w2 ⟨hb2, ⟨ht, kC, kS, kF, kN, kT, rfl, hk⟩ | ⟨ht, rfl⟩⟩
  rotate_left
  · have hne : (tieRes l == 0) = false := beq_eq_false_iff_ne.2 ht
    have HBF := mkHid (fun o => (HB1.out.trans (hb2.mono HB1.out.size)).alloc (Nat.le_trans HB1.out.size hb2.size) o)
    clear hb2 ht
    generalize tieRes l = te at *
    unfold nilLk
    go_wp2_with fail
    go_ret
    exact ⟨by simp, HBF.out _⟩
  have hk0 := hk.mono (M' := (· < w2.heap.size)) fun k h => h.2
  obtain ⟨aC, cC, aS, cS, aF, cF, aN, cN, aT, cT, rfl, rfl, rfl, rfl, rfl⟩ := hk.agg
  have eS : (linkD l).supers.length = l.length := by simp [linkD]
  have eF : (linkD l).fields.length = l.length := by simp [linkD]
  have eN : (linkD l).names.length = l.length := by simp [linkD]
  have eT : (linkD l).targets.length = l.length := by simp [linkD]
  have eC : (linkD l).classes.length = l.length := rfl
  have HH := mkHid (Hang.of ht)
  have HCK := mkHid (ok_linkD ht)
  have hfew := (list_fine (tie_chk ht)).1
  have hpos : 0 < l.length := by
    have h1 := (Hang.of ht).top
    rw [askTop, Bool.and_eq_true, hasC, decide_eq_true_iff] at h1
    have := (num_le l topName).2
    omega
  rw [eC, eS, eF, eN, eT] at hk0
  rw [eC, eS, eF, eN, eT]
  have HB2 := mkHid (HB1.out.trans (hb2.mono HB1.out.size))
  obtain ⟨W0, hW⟩ : ∃ W0, W0 = w2.alloc (.cells #[.slice aC l.length cC, .slice aS l.length cS, .slice aF l.length cF, .slice aN l.length cN, .slice aT l.length cT] 28) := ⟨_, rfl⟩
  have hA : Below w2.heap.size w2 W0 := hW ▸ (Below.refl w2.heap.size w2).alloc (Nat.le_refl _) _
  have HA := mkHid hA
  have HX : Hid (W0.heap[w2.heap.size]? = some (.cells #[.slice aC l.length cC, .slice aS l.length cS, .slice aF l.length cF, .slice aN l.length cN, .slice aT l.length cT] 28 (0, 0))) := hW ▸ heap_alloc_new w2 _
  have HW0 := mkHid (HB2.out.trans (hA.mono HB2.out.size))
  have HKW : Hid (∀ W, Below W0.heap.size W0 W → RLk (· < w2.heap.size) W (.slice aC l.length cC) (.slice aS l.length cS) (.slice aF l.length cF) (.slice aN l.length cN) (.slice aT l.length cT) (linkD l) ∧ w2.heap.size ≤ W.heap.size ∧ SL 4 RC (· < w.heap.size) W (.slice ao l.length cl) l) := fun W h => have hb := hA.trans (h.mono hA.size); ⟨hk0.kept (Kp.below hb), hb.size, HV.out.keptC (Kp.below (HW0.out.trans (h.mono HW0.out.size)))⟩
  obtain ⟨a', ha', HCA⟩ := choose_any a l.length HBD.out.1.1 HBD.out.1.2 hpos hfew
  obtain ⟨b', hb', HCB⟩ := choose_any b l.length HBD.out.2.1 HBD.out.2.2 hpos hfew
  have HCA := mkHid HCA
  have HCB := mkHid HCB
  have HC1 : Hid (∀ W, Below W0.heap.size W0 W → Calls Tryz.prog 12 #[.agg #[.slice aC l.length cC, .slice aS l.length cS, .slice aF l.length cF, .slice aN l.length cN, .slice aT l.length cT]] W fun r w' => r = .returned (.int .i64 0) ∧ Below W.heap.size W w') := fun W h => HCK.out ▸ LCheck_any W w2.heap.size _ _ _ _ _ (linkD l) (HKW.out W h).1 (HKW.out W h).2.1
  have HC2 : Hid (∀ x y : Nat, x < l.length → y < l.length → ∀ W, Below W0.heap.size W0 W → Calls Tryz.prog 18 #[.agg #[.slice aC l.length cC, .slice aS l.length cS, .slice aF l.length cF, .slice aN l.length cN, .slice aT l.length cT], .int .i64 (x : Int), .int .i64 (y : Int)] W fun r w' => r = .returned (.tuple #[.bool (decide (y ∈ lineOf l x)), .int .i64 0]) ∧ Below W.heap.size W w') := fun x y hx hy W h => by
    have := Is_any W w2.heap.size _ _ _ _ _ (linkD l) x y (HKW.out W h).1 (HKW.out W h).2.1
    rwa [isVal_in HCK.out hx hy, chk_in HCK.out hx hy] at this
  have HC3 : Hid (∀ s : ByteArray, 0 ≤ idxS (namesOf l a') s → ∀ W, Below W0.heap.size W0 W → Calls Tryz.prog 15 #[.agg #[.slice aC l.length cC, .slice aS l.length cS, .slice aF l.length cF, .slice aN l.length cN, .slice aT l.length cT], .int .i64 (a' : Int), .string s] W fun r w' => r = .returned (.tuple #[.agg #[.int .i64 (tgAt l a' s).cls, .int .i64 (tgAt l a' s).meth], .int .i64 0]) ∧ Below W.heap.size W w') := fun s hs W h => by
    have := Target_any W w2.heap.size _ _ _ _ _ (linkD l) a' s (HKW.out W h).1 (HKW.out W h).2.1
    have h1 : chkRes (linkD l) [(a' : Int)] = 0 := by rw [chk_some HCK.out]; simp [inB]; exact ha'
    obtain ⟨h3, h4⟩ := tg_hit (d := linkD l) h1 hs
    rwa [h3, h4] at this
  clear hb2 hk hk0 hA eS eF eN eT eC
  obtain ⟨bN, oN, aU, cU, rfl, hbN, eU, sU⟩ := (HKW.out W0 (Below.refl _ _)).1.N.atSl a' (by simpa [linkD] using ha')
  obtain ⟨bN2, oN2, aU2, cU2, hN2, -, eU2, sU2⟩ := (HKW.out W0 (Below.refl _ _)).1.N.atSl b' (by simpa [linkD] using hb')
  obtain ⟨rfl, rfl⟩ : bN2 = bN ∧ oN2 = oN := by simpa using hN2.symm
  obtain ⟨bF, oF, aV, cV, rfl, hbF, eV, sV⟩ := (HKW.out W0 (Below.refl _ _)).1.F.atSl a' (by simpa [linkD] using ha')
  obtain ⟨bF2, oF2, aV2, cV2, hF2, -, eV2, sV2⟩ := (HKW.out W0 (Below.refl _ _)).1.F.atSl b' (by simpa [linkD] using hb')
  obtain ⟨rfl, rfl⟩ : bF2 = bF ∧ oF2 = oF := by simpa using hF2.symm
  have g1 : (linkD l).names[a']'(by simpa [linkD] using ha') = namesOf l a' := by simp [linkD]
  have g2 : (linkD l).names[b']'(by simpa [linkD] using hb') = namesOf l b' := by simp [linkD]
  have g3 : (linkD l).fields[a']'(by simpa [linkD] using ha') = fieldsOf l a' := by simp [linkD]
  have g4 : (linkD l).fields[b']'(by simpa [linkD] using hb') = fieldsOf l b' := by simp [linkD]
  rw [g1] at eU sU
  rw [g2] at eU2 sU2
  rw [g3] at eV sV
  rw [g4] at eV2 sV2
  clear g1 g2 g3 g4 hN2 hF2
  have HEU := mkHid (And.intro (And.intro eU eU2) (And.intro eV eV2))
  have HSU := mkHid sU
  have HSU2 := mkHid sU2
  have HSV := mkHid sV
  have HSV2 := mkHid sV2
  have hmu : (namesOf l a').length ≤ 9223372036854775807 := by obtain ⟨_, _, -, -, h, -⟩ := sU; unfold maxLen at h; omega
  have hmu2 : (namesOf l b').length ≤ 9223372036854775807 := by obtain ⟨_, _, -, -, h, -⟩ := sU2; unfold maxLen at h; omega
  have hcv : (fieldsOf l a').length ≤ cV := by obtain ⟨_, _, e, h, -⟩ := sV; cases e; exact h
  have HLB := mkHid (And.intro hbN hbF)
  clear eU eU2 eV eV2 sU sU2 sV sV2 hbN hbF
  have HST : Hid (∀ (k : Nat) (hk : k < (namesOf l a').length), ∃ (u j : Nat) (hu : u < l.length) (hj : j < l[u].meths.length), tgAt l a' (namesOf l a')[k] = ⟨u, j⟩ ∧ u ∈ lineOf l a' ∧ l[u].meths[j].name = (namesOf l a')[k]) := fun k hk => stands_in ha' (idx_self hk)
  have HC3k : Hid (∀ (k : Nat) (hk : k < (namesOf l a').length), ∀ W, Below W0.heap.size W0 W → Calls Tryz.prog 15 #[.agg #[.slice aC l.length cC, .slice aS l.length cS, .slice (some ⟨bF2, oF2, none⟩) l.length cF, .slice (some ⟨bN2, oN2, none⟩) l.length cN, .slice aT l.length cT], .int .i64 (a' : Int), .string (namesOf l a')[k]] W fun r w' => r = .returned (.tuple #[.agg #[.int .i64 (tgAt l a' (namesOf l a')[k]).cls, .int .i64 (tgAt l a' (namesOf l a')[k]).meth], .int .i64 0]) ∧ Below W.heap.size W w') := fun k hk => HC3.out _ (idx_self hk)
  have HPF : Hid (b' ∈ lineOf l a' → (∃ X, fieldsOf l a' = fieldsOf l b' ++ X) ∧ ∃ X, namesOf l a' = namesOf l b' ++ X) := fun h => by
    obtain ⟨-, R, e⟩ := HH.out.pre a' ha' b' h
    exact ⟨under_fields e, under_names e⟩
  generalize namesOf l a' = na at *
  generalize namesOf l b' = nb at *
  generalize fieldsOf l a' = fa at *
  generalize fieldsOf l b' = fb at *
  have hia : (0 : Int) ≤ a' := by omega
  have hia1 : (a' : Int) < l.length := by omega
  have hib : (0 : Int) ≤ b' := by omega
  have hib1 : (b' : Int) < l.length := by omega
  clear HCK HC3 HH
  go_wp2_with fail
  rw [← hW]
  clear hW
  refine (HC1.out _ (Below.refl _ _)).mono ?_
  rintro r w3 ⟨rfl, hb3⟩
  have HB3 := mkHid hb3
  have HX3 := mkHid ((hb3.block _ (lt_of HX.out)).trans HX.out)
  clear hb3
  have x0 := cell_of HX3.out 0 (x := .slice aC l.length cC) rfl
  have x1 := cell_of HX3.out 1 (x := .slice aS l.length cS) rfl
  have x2 := cell_of HX3.out 2 (x := .slice (some ⟨bF2, oF2, none⟩) l.length cF) rfl
  have x3 := cell_of HX3.out 3 (x := .slice (some ⟨bN2, oN2, none⟩) l.length cN) rfl
  have x4 := cell_of HX3.out 4 (x := .slice aT l.length cT) rfl
  have lx := lt_of HX3.out
  go_wp2_with fail
  refine (HCA.out _).mono ?_
  rintro r _ ⟨rfl, rfl⟩
  go_wp2_with fail
  refine (HCB.out _).mono ?_
  rintro r _ ⟨rfl, rfl⟩
  go_wp2_with fail
  refine (HC2.out a' b' ha' hb' _ HB3.out).mono ?_
  rintro r w4 ⟨rfl, hb4⟩
  have HB4 := mkHid (HB3.out.trans (hb4.mono HB3.out.size))
  have HOB : Hid ((decide (b' ∈ lineOf l a')) = true → b' ∈ lineOf l a') := of_decide_eq_true
  generalize decide (b' ∈ lineOf l a') = ob at *
  clear x0 x1 x2 x3 x4 lx hb4
  go_wp2_with fail
  go_loopw [11] (fun i wr => ∃ k : Nat, k ≤ na.length ∧ i = .int .i64 k ∧ Hid (Below W0.heap.size W0 wr)) (fun i _ => na.length - (intOf i).toNat)
  case atStart => exact ⟨0, Nat.zero_le _, rfl, HB4.out⟩
  case round =>
    obtain ⟨k, hk, rfl, HBr⟩ := hrel
    have HXr := mkHid ((HBr.out.block _ (lt_of HX.out)).trans HX.out)
    have x0 := cell_of HXr.out 0 (x := .slice aC l.length cC) rfl
    have x1 := cell_of HXr.out 1 (x := .slice aS l.length cS) rfl
    have x2 := cell_of HXr.out 2 (x := .slice (some ⟨bF2, oF2, none⟩) l.length cF) rfl
    have x3 := cell_of HXr.out 3 (x := .slice (some ⟨bN2, oN2, none⟩) l.length cN) rfl
    have x4 := cell_of HXr.out 4 (x := .slice aT l.length cT) rfl
    have lx := lt_of HXr.out
    have u0 := (HBr.out.cell (p := ⟨bN2, oN2 + a', none⟩) HLB.out.1).trans HEU.out.1.1
    by_cases hlt : k < na.length
    · obtain ⟨u, j, hul, hj, et, hu, hnm⟩ := HST.out k hlt
      have HCT : Hid (∀ W, Below W0.heap.size W0 W → Calls Tryz.prog 15 #[.agg #[.slice aC l.length cC, .slice aS l.length cS, .slice (some ⟨bF2, oF2, none⟩) l.length cF, .slice (some ⟨bN2, oN2, none⟩) l.length cN, .slice aT l.length cT], .int .i64 (a' : Int), .string na[k]] W fun r w' => r = .returned (.tuple #[.agg #[.int .i64 (u : Int), .int .i64 (j : Int)], .int .i64 0]) ∧ Below W.heap.size W w') := fun W h => by
        have := HC3k.out k hlt W h
        rwa [et] at this
      have HCI : Hid (∀ W, Below W0.heap.size W0 W → Calls Tryz.prog 18 #[.agg #[.slice aC l.length cC, .slice aS l.length cS, .slice (some ⟨bF2, oF2, none⟩) l.length cF, .slice (some ⟨bN2, oN2, none⟩) l.length cN, .slice aT l.length cT], .int .i64 (a' : Int), .int .i64 (u : Int)] W fun r w' => r = .returned (.tuple #[.bool true, .int .i64 0]) ∧ Below W.heap.size W w') := fun W h => by
        have := HC2.out a' u ha' hul W h
        rwa [decide_eq_true hu] at this
      obtain ⟨bu, ou, rfl, hbu, s0, -⟩ := (HSU.out.keptS (Kp.below (HBr.out.mono HA.out.size))).atS k hlt
      have hk0 : (0 : Int) ≤ k := by omega
      have hk1 : (k : Int) < na.length := by omega
      have lN : bN2 < wr.heap.size := Nat.lt_of_lt_of_le HLB.out.1 HBr.out.size
      go_wp2_with fail
      go_region_held3 (fun W' => ∀ p : Addr, p.block < wr.heap.size → W'.cell? p = wr.cell? p) (exact fun p hp => Below.cell (B := wr.heap.size) (w := wr) (by repeat (first | assumption | exact Below.refl _ _ | refine Below.drew ?_ | refine Below.alloc ?_ (by first | exact Nat.le_refl _ | (simp <;> omega) | exact HS5.out) _ | refine Below.setCell ?_ (by first | exact Nat.le_refl _ | exact HS5.out) _)) hp) (
        (go_at_call 15; refine (HCT.out _ ?_).mono ?_; (first | exact HBr.out.drew | exact HBr.out.drew.alloc HBr.out.size _ | exact (HBr.out.alloc HBr.out.size _).drew); rintro r w5 ⟨rfl, hb5⟩; have HB5 := mkHid hb5; have hb6 : Below wr.heap.size wr w5 := (by first | exact ((Below.refl _ _).drew).trans (hb5.mono (Nat.le_refl _)) | exact (((Below.refl _ _).drew).alloc (Nat.le_refl _) _).trans (hb5.mono (by simp))); have HS5 := mkHid hb6.size; (try (have hv5 := (hb5.block wr.heap.size (by simp)).trans (heap_alloc_new wr (.cells #[.int .i64 0, .int .i64 0] 40)); have r0 := cell_of hv5 0 (x := .int .i64 0) rfl; have r1 := cell_of hv5 1 (x := .int .i64 0) rfl; have z5 := frz_of hv5; have l5 := lt_of hv5; clear hv5)); clear hb5))
      · rename_i hHeld
        obtain ⟨W6, h6, hB6, t0, t1, l6⟩ : ∃ W6, W6 = w5.alloc (.cells #[.int .i64 (u : Int), .int .i64 (j : Int)] 40) ∧ Below W0.heap.size W0 W6 ∧ W6.cell? ⟨w5.heap.size, 0, none⟩ = some (.int .i64 (u : Int)) ∧ W6.cell? ⟨w5.heap.size, 1, none⟩ = some (.int .i64 (j : Int)) ∧ w5.heap.size < W6.heap.size :=
          ⟨_, rfl, (HBr.out.trans (hb6.mono HBr.out.size)).alloc (Nat.le_trans HBr.out.size hb6.size) _, by simp [go_sem], by simp [go_sem], by simp⟩
        rw [← h6] at hHeld ⊢
        clear h6
        clear x0 x1 x2 x3 x4 lx u0 s0 hHeld hb6 hbu lN
        have HB6 := mkHid hB6
        have HX6 := mkHid ((hB6.block _ (lt_of HX.out)).trans HX.out)
        have x0 := cell_of HX6.out 0 (x := .slice aC l.length cC) rfl
        have x1 := cell_of HX6.out 1 (x := .slice aS l.length cS) rfl
        have x2 := cell_of HX6.out 2 (x := .slice (some ⟨bF2, oF2, none⟩) l.length cF) rfl
        have x3 := cell_of HX6.out 3 (x := .slice (some ⟨bN2, oN2, none⟩) l.length cN) rfl
        have x4 := cell_of HX6.out 4 (x := .slice aT l.length cT) rfl
        have lx := lt_of HX6.out
        have u0 := (hB6.cell (p := ⟨bN2, oN2 + a', none⟩) HLB.out.1).trans HEU.out.1.1
        obtain ⟨bu6, ou6, hbo, hbu6, s0, -⟩ := (HSU.out.keptS (Kp.below (hB6.mono HA.out.size))).atS k hlt
        obtain ⟨rfl, rfl⟩ : bu6 = bu ∧ ou6 = ou := by simpa using hbo.symm
        obtain ⟨b9, o9, vf, vm, rfl, hb9, -, -, -, e3, -, em, -, -⟩ := (HKW.out _ hB6).2.2.atC u hul
        obtain ⟨am, cm, rfl, -⟩ := id em
        obtain ⟨bm, om, va, vh, rfl, hbm, m0, -⟩ := em.atM j hj
        rw [hnm] at m0
        clear hnm em hbo hB6
        generalize l[u].meths.length = ml at *
        generalize na[k] = nk at *
        have lN : bN2 < W6.heap.size := Nat.lt_of_lt_of_le HLB.out.1 HB6.out.size
        have q1 : ¬ (u : Int) < 0 := by omega
        have q2 : ¬ (l.length : Int) ≤ (u : Int) := by omega
        have q3 : ¬ (j : Int) < 0 := by omega
        have q4 : ¬ (ml : Int) ≤ (j : Int) := by omega
        have q5 : (0 : Int) ≤ (u : Int) := by omega
        have q6 : (u : Int) < l.length := by omega
        have q7 : (0 : Int) ≤ (j : Int) := by omega
        have q8 : (j : Int) < ml := by omega
        clear HST HC3k et hu
        go_wp2_with fail
        go_quiet (fail)
        go_wp2_with fail
        refine (HCI.out _ (below_dn HB6.out _)).mono ?_
        rintro r w7 ⟨rfl, hb7⟩
        have HB7 := mkHid ((below_dn HB6.out _).trans (hb7.mono (Nat.le_trans HB6.out.size (Nat.le_refl _))))
        clear hb7 x0 x1 x2 x3 x4 lx u0 s0 t0 t1 m0 e3 lN
        go_wp2_with fail
        go_roundw
        case rel => exact ⟨k + 1, by omega, by go_num, HB7.out⟩
        case measure => simp [intOf]; omega
      · rename_i hHeld
        obtain ⟨hg, t0, t1⟩ := two_set w5 wr.heap.size (.int .i64 (u : Int)) (.int .i64 (j : Int)) r0 r1
        obtain ⟨W6, h6⟩ : ∃ W6, W6 = (w5.setCell ⟨wr.heap.size, 0, none⟩ (.int .i64 (u : Int))).setCell ⟨wr.heap.size, 1, none⟩ (.int .i64 (j : Int)) := ⟨_, rfl⟩
        have hB6 : Below W0.heap.size W0 W6 := h6 ▸ (((HBr.out.trans (hb6.mono HBr.out.size)).setCell HBr.out.size _).setCell HBr.out.size _)
        rw [← h6] at hHeld hg t0 t1 ⊢
        have l6 : wr.heap.size < W6.heap.size := Nat.lt_of_lt_of_le l5 hg.size
        clear h6 hg r0 r1 z5 l5
        clear x0 x1 x2 x3 x4 lx u0 s0 hHeld hb6 hbu lN
        have HB6 := mkHid hB6
        have HX6 := mkHid ((hB6.block _ (lt_of HX.out)).trans HX.out)
        have x0 := cell_of HX6.out 0 (x := .slice aC l.length cC) rfl
        have x1 := cell_of HX6.out 1 (x := .slice aS l.length cS) rfl
        have x2 := cell_of HX6.out 2 (x := .slice (some ⟨bF2, oF2, none⟩) l.length cF) rfl
        have x3 := cell_of HX6.out 3 (x := .slice (some ⟨bN2, oN2, none⟩) l.length cN) rfl
        have x4 := cell_of HX6.out 4 (x := .slice aT l.length cT) rfl
        have lx := lt_of HX6.out
        have u0 := (hB6.cell (p := ⟨bN2, oN2 + a', none⟩) HLB.out.1).trans HEU.out.1.1
        obtain ⟨bu6, ou6, hbo, hbu6, s0, -⟩ := (HSU.out.keptS (Kp.below (hB6.mono HA.out.size))).atS k hlt
        obtain ⟨rfl, rfl⟩ : bu6 = bu ∧ ou6 = ou := by simpa using hbo.symm
        obtain ⟨b9, o9, vf, vm, rfl, hb9, -, -, -, e3, -, em, -, -⟩ := (HKW.out _ hB6).2.2.atC u hul
        obtain ⟨am, cm, rfl, -⟩ := id em
        obtain ⟨bm, om, va, vh, rfl, hbm, m0, -⟩ := em.atM j hj
        rw [hnm] at m0
        clear hnm em hbo hB6
        generalize l[u].meths.length = ml at *
        generalize na[k] = nk at *
        have lN : bN2 < W6.heap.size := Nat.lt_of_lt_of_le HLB.out.1 HB6.out.size
        have q1 : ¬ (u : Int) < 0 := by omega
        have q2 : ¬ (l.length : Int) ≤ (u : Int) := by omega
        have q3 : ¬ (j : Int) < 0 := by omega
        have q4 : ¬ (ml : Int) ≤ (j : Int) := by omega
        have q5 : (0 : Int) ≤ (u : Int) := by omega
        have q6 : (u : Int) < l.length := by omega
        have q7 : (0 : Int) ≤ (j : Int) := by omega
        have q8 : (j : Int) < ml := by omega
        clear HST HC3k et hu
        go_wp2_with fail
        go_quiet (fail)
        go_wp2_with fail
        refine (HCI.out _ (below_dn HB6.out _)).mono ?_
        rintro r w7 ⟨rfl, hb7⟩
        have HB7 := mkHid ((below_dn HB6.out _).trans (hb7.mono (Nat.le_trans HB6.out.size (Nat.le_refl _))))
        clear hb7 x0 x1 x2 x3 x4 lx u0 s0 t0 t1 m0 e3 lN
        go_wp2_with fail
        go_roundw
        case rel => exact ⟨k + 1, by omega, by go_num, HB7.out⟩
        case measure => simp [intOf]; omega
    · cases ob with
      | false =>
        go_wp2_with fail
        go_ret
        exact ⟨by simp, HW0.out.trans (HBr.out.mono HW0.out.size)⟩
      | true =>
        obtain ⟨⟨X, eX⟩, Y, eY⟩ := HPF.out (HOB.out rfl)
        have hla : fb.length ≤ fa.length := by rw [eX]; simp
        have hln : nb.length ≤ na.length := by rw [eY]; simp
        have HSF : Hid (∀ n, Calls Tryz.prog 23 #[.slice aV fb.length cV, .slice aV2 fb.length cV2] (wr.drewN n) fun r w' => r = .returned (.bool true) ∧ ∃ m, w' = (wr.drewN n).drewN m) := fun n => by
          have hb := below_dn HBr.out n
          have h1 := (HSV.out.take fb.length hla).keptF (Kp.below (hb.mono HA.out.size))
          have h2 := HSV2.out.keptF (Kp.below (hb.mono HA.out.size))
          have e : fa.take fb.length = fb := by rw [eX]; simp
          rw [e] at h1
          have := SameFields_any (wr.drewN n) _ _ _ _ _ _ h1 h2
          rwa [eqL_refl fun x => by simp [sameF, sameK]] at this
        have HNM : Hid (∀ (i : Nat) (h1 : i < na.length) (h2 : i < nb.length), na[i] = nb[i]) := fun i h1 h2 => by
          subst eY
          rw [List.getElem_append_left h2]
        have v0 := (HBr.out.cell (p := ⟨bF2, oF2 + a', none⟩) HLB.out.2).trans HEU.out.2.1
        have v1 := (HBr.out.cell (p := ⟨bF2, oF2 + b', none⟩) HLB.out.2).trans HEU.out.2.2
        have u1 := (HBr.out.cell (p := ⟨bN2, oN2 + b', none⟩) HLB.out.1).trans HEU.out.1.2
        have lN : bN2 < wr.heap.size := Nat.lt_of_lt_of_le HLB.out.1 HBr.out.size
        have lF : bF2 < wr.heap.size := Nat.lt_of_lt_of_le HLB.out.2 HBr.out.size
        have q1 : ¬ (fa.length : Int) < fb.length := by omega
        have q2 : ¬ (na.length : Int) < nb.length := by omega
        have q3 : (0 : Int) ≤ fb.length := by omega
        have q4 : (fb.length : Int) ≤ cV := by omega
        clear eX eY HPF HOB
        go_wp2_with fail
        go_quiet (first | (go_at_call 23; exact Calls.quiet_of (HSF.out _)))
        go_wp2_with fail
        clear x0 x1 x2 x3 x4 lx u0 v0 v1 u1 lN lF HSF HXr q1 q2 q3 q4
        go_loopw [16] (fun i wx => ∃ k2 : Nat, k2 ≤ nb.length ∧ i = .int .i64 k2 ∧ Hid (Below W0.heap.size W0 wx)) (fun i _ => nb.length - (intOf i).toNat)
        case atStart => exact ⟨0, Nat.zero_le _, rfl, below_dn HBr.out _⟩
        case round =>
          obtain ⟨k2, hk2, rfl, HBx⟩ := hrel
          have HXx := mkHid ((HBx.out.block _ (lt_of HX.out)).trans HX.out)
          have x0 := cell_of HXx.out 0 (x := .slice aC l.length cC) rfl
          have x1 := cell_of HXx.out 1 (x := .slice aS l.length cS) rfl
          have x2 := cell_of HXx.out 2 (x := .slice (some ⟨bF2, oF2, none⟩) l.length cF) rfl
          have x3 := cell_of HXx.out 3 (x := .slice (some ⟨bN2, oN2, none⟩) l.length cN) rfl
          have x4 := cell_of HXx.out 4 (x := .slice aT l.length cT) rfl
          have lx := lt_of HXx.out
          have u0 := (HBx.out.cell (p := ⟨bN2, oN2 + a', none⟩) HLB.out.1).trans HEU.out.1.1
          have u1 := (HBx.out.cell (p := ⟨bN2, oN2 + b', none⟩) HLB.out.1).trans HEU.out.1.2
          have lN : bN2 < wr.heap.size := Nat.lt_of_lt_of_le HLB.out.1 HBx.out.size
          by_cases hlt2 : k2 < nb.length
          · have hka : k2 < na.length := by omega
            obtain ⟨bu, ou, rfl, hbu, s0, -⟩ := (HSU.out.keptS (Kp.below (HBx.out.mono HA.out.size))).atS k2 hka
            obtain ⟨bu2, ou2, rfl, hbu2, s1, -⟩ := (HSU2.out.keptS (Kp.below (HBx.out.mono HA.out.size))).atS k2 hlt2
            rw [HNM.out k2 hka hlt2] at s0
            generalize nb[k2] = nk at *
            have q1 : (0 : Int) ≤ k2 := by omega
            have q2 : (k2 : Int) < na.length := by omega
            have q3 : (k2 : Int) < nb.length := by omega
            clear HST HC3k
            go_wp2_with fail
            go_quiet (fail)
            go_wp2_with fail
            go_roundw
            case rel => exact ⟨k2 + 1, by omega, by go_num, below_dn HBx.out _⟩
            case measure => simp [intOf]; omega
          · go_wp2_with fail
            go_ret
            exact ⟨by simp, HW0.out.trans (HBx.out.mono HW0.out.size)⟩
end Go.Proofs.YtkpklkhkhhlifabGreat
