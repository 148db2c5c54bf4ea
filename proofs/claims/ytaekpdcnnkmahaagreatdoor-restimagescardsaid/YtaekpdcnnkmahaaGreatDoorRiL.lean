/- The law RestImages, walked. -/
import Derived.Test.YtaekpdcnnkmahaaGreatDoorJWriteLawReads
import Derived.Test.YtaekpdcnnkmahaaGreatDoorJLPu5LLaw
import Derived.Test.YtaekpdcnnkmahaaGreatDoorJRefOfImageOf
import Derived.Test.YtaekpdcnnkmahaaGreatDoorRefClass
import Derived.Test.YtaekpdcnnkmahaaGreatDoorJSpoSpC
import Derived.Test.YtaekpdcnnkmahaaGreatDoorJCdInsOfCdOne
import Derived.Test.YtaekpdcnnkmahaaGreatDoorCdSame
import Derived.Test.YtaekpdcnnkmahaaGreatDoorJCdCaughtCdBegun
namespace Go.Proofs.YtaekpdcnnkmahaaGreatDoor
open Go.RowKit Go.Maps

theorem SL.lift {w w' : World} {v : Value} {l : List ClassD} (h : SL 4 RC (· < w.heap.size) w v l) (hb : Below w.heap.size w w') : SL 4 RC (· < w'.heap.size) w' v l := (h.keptC (Kp.below hb)).monoC fun _ hk => Nat.lt_of_lt_of_le hk hb.size
theorem bup {a b c : World} (h : Below a.heap.size a b) (k : Below b.heap.size b c) : Below a.heap.size a c := h.trans (k.mono h.size)
theorem NewL.more {B B' : Nat} {w : World} {kC kS kF kN : Value} (h : NewL B w kC kS kF kN) (hB : B' ≤ B) : NewL B' w kC kS kF kN := by
  obtain ⟨lC, lS, lF, lN, a1, a2, a3, a4⟩ := h
  have hm : ∀ k, NF B w k → NF B' w k := fun k h => h.more hB
  exact ⟨lC, lS, lF, lN, a1.monoC hm, a2.monoI hm, a3.monoSl hm fun _ _ h => h, a4.monoSl hm fun _ _ h => h⟩
theorem Cd.YSh.more {B B' : Nat} {w : World} {v : Value} {n : Nat} (h : Cd.YSh B w v n) (hB : B' ≤ B) : Cd.YSh B' w v n := by
  obtain ⟨ao, cap, rfl, h⟩ := h
  refine ⟨ao, cap, rfl, fun k hk => ?_⟩
  obtain ⟨b, off, e, h1, h2⟩ := h k hk
  exact ⟨b, off, e, h1.more hB, h2⟩
theorem nf_below {B : Nat} {w w' : World} (hb : Below w.heap.size w w') : ∀ k, NF B w k → w'.heap[k]? = w.heap[k]? := fun k h => hb.block k h.lt
theorem SL.nfC {B : Nat} {w w' : World} {v : Value} {l : List ClassD} (h : SL 4 RC (NF B w) w v l) (hb : Below w.heap.size w w') : SL 4 RC (NF B w') w' v l :=
  (h.keptC ⟨hb.size, fun k hk _ => hb.block k hk.lt⟩).monoC fun k hk => hk.kept (hb.block k hk.lt)
set_option maxRecDepth 100000 in
set_option maxHeartbeats 16000000 in
theorem restImages_any (w : World) (s t : ByteArray) (v : Value) (l : List ClassD) (hs : s.size ≤ maxLen) (ht : t.size ≤ maxLen) (hv : SL 4 RC (· < w.heap.size) w v l) (hT : Cd.Tabs w) :
    Calls Tryz.prog 3 #[.string s, .string t, v] w fun r w' => r = .returned (.bool true) ∧ Below w.heap.size w w' := by
  obtain ⟨e, d, hL, hO⟩ := LinkN_one l
  obtain ⟨ei, pi, li, hli, hD, hI⟩ := Cd.ins_one t ht
  have HV := mkHid hv
  have HS := mkHid hs
  have HL := mkHid hL
  have HO := mkHid hO
  have HD := mkHid hD
  have HI := mkHid hI
  have HT := mkHid hT
  obtain ⟨ao, cl, rfl, -⟩ := hv
  clear hL hO hD hI hT hs ht
  go_enter Tryz.func3, Tryz.ntmps3
  go_wp2_with fail
  refine (imageBegun_any _).mono ?_
  rintro r w1 ⟨rfl, hb1⟩
  have HB1 := mkHid hb1
  clear hb1
  go_wp2_with fail
  refine (Cd.begun_any _ (HT.out.below HB1.out)).mono ?_
  rintro r w2 ⟨rfl, hb2⟩
  have HB2 := mkHid (bup HB1.out hb2)
  clear hb2 HB1
  go_wp2_with fail
  refine (linkBegun_any _).mono ?_
  rintro r w3 ⟨rfl, hb3⟩
  have HB3 := mkHid (bup HB2.out hb3)
  clear hb3 HB2
  go_wp2_with fail
  refine (classesOf_any _ s HS.out).mono ?_
  rintro r w4 ⟨hb4, v4, rfl, s4⟩
  have HB4 := mkHid (bup HB3.out hb4)
  clear hb4 HB3
  generalize hrr : readRes s = rr at *
  obtain ⟨lx, ex⟩ := rr
  have HRR := mkHid hrr
  clear hrr
  dsimp only at *
  have HX4 := mkHid s4
  obtain ⟨a4, c4, rfl, -⟩ := s4
  go_wp2_with fail
  refine (HI.out _).mono ?_
  rintro r w5 ⟨hb5, v5, rfl, h5⟩
  have HB5 := mkHid (bup HB4.out hb5)
  have HX5 := mkHid (HX4.out.lift hb5)
  have HY5 := mkHid h5
  clear hb5 HB4 HX4 h5
  have HB5a : Hid (∀ o, Below w.heap.size w (w5.alloc o)) := fun o => HB5.out.alloc HB5.out.size o
  have HF5 := mkHid (heap_alloc_new w5 (.cells #[.int .i64 ei, .int .i64 pi] 29))
  go_wp2_with fail
  refine (HO.out _ w.heap.size _ (HV.out.keptC (Kp.below (HB5a.out _))) (HB5a.out _).size).mono ?_
  rintro r w6 ⟨hb6, jC, jS, jF, jN, jT, rfl, hj⟩
  have HJ6 := mkHid hj
  obtain ⟨aC, cC, aS, cS, aF, cF, aN, cN, aT, cT, rfl, rfl, rfl, rfl, rfl⟩ := hj.agg
  have HA5 := mkHid ((Below.refl w5.heap.size w5).alloc (Nat.le_refl _) (.cells #[.int .i64 ei, .int .i64 pi] 29))
  have HB6 := mkHid (bup (HB5a.out _) hb6)
  have HC6 := mkHid (bup HA5.out hb6)
  have HF6 := mkHid ((hb6.block w5.heap.size (by simp)).trans HF5.out)
  have HX6 := mkHid (HX5.out.lift HC6.out)
  have HY6 := mkHid (HY5.out.below HC6.out)
  clear hb6 hj HB5 HB5a HF5 HA5 HC6 HX5 HY5
  have HK6 := mkHid (heap_alloc_new w6 (.cells #[.slice aC d.classes.length cC, .slice aS d.supers.length cS, .slice aF d.fields.length cF, .slice aN d.names.length cN, .slice aT d.targets.length cT] 37))
  have HA6 := mkHid ((Below.refl w6.heap.size w6).alloc (Nat.le_refl _) (.cells #[.slice aC d.classes.length cC, .slice aS d.supers.length cS, .slice aF d.fields.length cF, .slice aN d.names.length cN, .slice aT d.targets.length cT] 37))
  have HBA := mkHid (bup HB6.out HA6.out)
  go_wp2_with fail
  refine (checkClassesOf_any _ w.heap.size l _ (HV.out.keptC (Kp.below HBA.out)) HBA.out.size).mono ?_
  rintro r w7 ⟨rfl, hb7⟩
  have HC7 := mkHid (bup HA6.out hb7)
  have HX7 := mkHid (HX6.out.lift HC7.out)
  have HY7 := mkHid (HY6.out.below HC7.out)
  have HF7 := mkHid ((HC7.out.block w5.heap.size (lt_of HF6.out)).trans HF6.out)
  have HK7 := mkHid ((hb7.block w6.heap.size (by simp)).trans HK6.out)
  have HB7 := mkHid (bup HB6.out HC7.out)
  have HJ7 : Hid (RLk (· < w7.heap.size) w7 _ _ _ _ _ d) := (HJ6.out.kept (Kp.below HC7.out)).mono fun _ hk => Nat.lt_of_lt_of_le hk HC7.out.size
  clear hb7 HB6 HF6 HX6 HY6 HK6 HA6 HBA HC7 HJ6
  have HCK := mkHid (fun (V : World) (hV : Below w7.heap.size w7 V) => checkClassesOf_any V w.heap.size l _ (HV.out.keptC (Kp.below (bup HB7.out hV))) (bup HB7.out hV).size)
  by_cases hc : checkL l = 0
  case' pos =>
    have hce : (checkL l == 0) = true := by rw [hc]; rfl
    have HIM := mkHid (fun (V : World) (hV : Below w7.heap.size w7 V) => imageOf_any V w.heap.size l _ (HV.out.keptC (Kp.below (bup HB7.out hV))) (bup HB7.out hV).size hc)
    clear hc
    generalize checkL l = cu at *
    go_wp2_with fail
    refine (HIM.out _ (Below.refl _ _)).mono ?_
    rintro r w8 ⟨rfl, hb8⟩
    have HB8 := mkHid hb8
    have HE8 : Hid ((cu == 0) = true → ∀ V, Below w7.heap.size w7 V → Calls Tryz.prog 11 #[.slice ao l.length cl] V fun r w' => r = .returned (.string (Bx (wImage l))) ∧ Below V.heap.size V w') := fun _ => HIM.out
    clear hb8 HIM
    generalize Bx (wImage l) = im at *
    go_wp2_with fail
  case' neg =>
    have hce : (checkL l == 0) = false := by rw [beq_eq_false_iff_ne]; exact hc
    obtain ⟨w8, hw8⟩ : ∃ w8, w8 = w7 := ⟨_, rfl⟩
    have HB8 : Hid (Below w7.heap.size w7 w8) := by rw [hw8]; exact Below.refl _ _
    obtain ⟨im, him⟩ : ∃ im : ByteArray, im = ⟨#[]⟩ := ⟨_, rfl⟩
    clear hc
    generalize checkL l = cu at *
    have HE8 : Hid ((cu == 0) = true → ∀ V, Below w7.heap.size w7 V → Calls Tryz.prog 11 #[.slice ao l.length cl] V fun r w' => r = .returned (.string im) ∧ Below V.heap.size V w') := fun h => by rw [hce] at h; cases h
    go_wp2_with fail
    rw [← hw8, ← him]
    clear hw8 him
  all_goals
    clear HO HI
    go_loopw [15] (fun i wr => ∃ k : Nat, k ≤ 2 ∧ i = .int .i64 k ∧ Hid (Below w7.heap.size w7 wr)) (fun i _ => 2 - (intOf i).toNat)
    case atStart => exact ⟨0, by omega, rfl, HB8.out⟩
    case round =>
      rename World => wr
      obtain ⟨k, hk, rfl, HR⟩ := hrel
      by_cases hlt : k < 2
      rotate_left
      · have q : ¬ (k : Int) < 2 := by omega
        have HZ := mkHid (bup HB7.out HR.out)
        go_wp2_with fail
        go_ret
        exact ⟨rfl, HZ.out⟩
      have q : (k : Int) < 2 := by omega
      have HBr := mkHid (bup HB7.out HR.out)
      go_wp2_with fail
      refine (ReadN_any _ s HS.out).mono ?_
      rintro r w9 ⟨hb9, v9, rfl, s9⟩
      rw [HRR.out] at s9 ⊢
      dsimp only at *
      have HX9 := mkHid s9
      obtain ⟨a9, c9, rfl, -⟩ := s9
      have HC9 := mkHid hb9
      clear hb9
      go_wp2_with fail
      refine (HD.out _ (HT.out.below (bup HBr.out HC9.out))).mono ?_
      rintro r w10 ⟨hb10, vy, rfl, hy, hys⟩
      have HY10 := mkHid hy
      have HYS := mkHid hys
      obtain ⟨ay, cy, rfl, -⟩ := hys
      have HC10 := mkHid (bup HC9.out hb10)
      have HD10 := mkHid hb10
      clear hy hb10
      have HA10 := mkHid ((Below.refl w10.heap.size w10).alloc (Nat.le_refl _) (.cells #[.int .i64 ei, .int .i64 pi] 29))
      have HF10 := mkHid (heap_alloc_new w10 (.cells #[.int .i64 ei, .int .i64 pi] 29))
      have HBA := mkHid (bup (bup HBr.out HC10.out) HA10.out)
      go_wp2_with fail
      refine (HL.out _ w.heap.size _ (HV.out.keptC (Kp.below HBA.out)) HBA.out.size).mono ?_
      rintro r w11 ⟨hb11, kC, kS, kF, kN, kT, rfl, hk11, hn11⟩
      have HK11 := mkHid hk11
      obtain ⟨bC, eC, bS, eS, bF, eF, bN, eN, bT, eT, rfl, rfl, rfl, rfl, rfl⟩ := hk11.agg
      have HN11 := mkHid hn11
      have HD11 := mkHid (bup HA10.out hb11)
      have HF11 := mkHid ((hb11.block w10.heap.size (by simp)).trans HF10.out)
      clear hk11 hn11 hb11 HBA HF10 HA10
      have HA11 := mkHid ((Below.refl w11.heap.size w11).alloc (Nat.le_refl _) (.cells #[.slice bC d.classes.length eC, .slice bS d.supers.length eS, .slice bF d.fields.length eF, .slice bN d.names.length eN, .slice bT d.targets.length eT] 37))
      have HK12 := mkHid (heap_alloc_new w11 (.cells #[.slice bC d.classes.length eC, .slice bS d.supers.length eS, .slice bF d.fields.length eF, .slice bN d.names.length eN, .slice bT d.targets.length eT] 37))
      go_wp2_with fail
      generalize w11.alloc (.cells #[.slice bC d.classes.length eC, .slice bS d.supers.length eS, .slice bF d.fields.length eF, .slice bN d.names.length eN, .slice bT d.targets.length eT] 37) = w12 at *
      have HC12 := mkHid (bup HD10.out (bup HD11.out HA11.out))
      have HB12 := mkHid (bup HR.out (bup HC9.out HC12.out))
      have HV12 : Hid (∀ V, Below w12.heap.size w12 V → Below w.heap.size w V) := fun V hV => bup HB7.out (bup HB12.out hV)
      have hf5 := lt_of HF7.out
      have hk6 := lt_of HK7.out
      have hzz := HB12.out.size
      have HP : Hid (∀ V, Below w12.heap.size w12 V → V.heap[w5.heap.size]? = some (.cells #[.int .i64 ei, .int .i64 pi] 29 (0, 0)) ∧ V.heap[w10.heap.size]? = some (.cells #[.int .i64 ei, .int .i64 pi] 29 (0, 0)) ∧
          V.heap[w6.heap.size]? = some (.cells #[.slice aC d.classes.length cC, .slice aS d.supers.length cS, .slice aF d.fields.length cF, .slice aN d.names.length cN, .slice aT d.targets.length cT] 37 (0, 0)) ∧
          V.heap[w11.heap.size]? = some (.cells #[.slice bC d.classes.length eC, .slice bS d.supers.length eS, .slice bF d.fields.length eF, .slice bN d.names.length eN, .slice bT d.targets.length eT] 37 (0, 0))) := fun V hV =>
        ⟨((bup HB12.out hV).block _ hf5).trans HF7.out, ((bup HA11.out hV).block _ (lt_of HF11.out)).trans HF11.out, ((bup HB12.out hV).block _ hk6).trans HK7.out, (hV.block _ (lt_of HK12.out)).trans HK12.out⟩
      have HX12 := mkHid (HX9.out.nfC HC12.out)
      have HW12 := mkHid (HX7.out.lift HB12.out)
      have HY12 := mkHid (HY10.out.below (bup HD11.out HA11.out))
      have HI12 := mkHid (HY7.out.below HB12.out)
      have HS12 : Hid (Cd.YSh wr.heap.size w12 (.slice ay li.length cy) li.length) := (HYS.out.kept (nf_below (bup HD11.out HA11.out))).more HC9.out.size
      have HM12 : Hid (RLk (· < w12.heap.size) w12 (.slice bC d.classes.length eC) (.slice bS d.supers.length eS) (.slice bF d.fields.length eF) (.slice bN d.names.length eN) (.slice bT d.targets.length eT) d) := (HK11.out.kept (Kp.below HA11.out)).mono fun _ h => Nat.lt_of_lt_of_le h HA11.out.size
      have HJ12 : Hid (RLk (· < w12.heap.size) w12 (.slice aC d.classes.length cC) (.slice aS d.supers.length cS) (.slice aF d.fields.length cF) (.slice aN d.names.length cN) (.slice aT d.targets.length cT) d) := (HJ7.out.kept (Kp.below HB12.out)).mono fun _ h => Nat.lt_of_lt_of_le h HB12.out.size
      have HN12 : Hid (NewL wr.heap.size w12 (.slice bC d.classes.length eC) (.slice bS d.supers.length eS) (.slice bF d.fields.length eF) (.slice bN d.names.length eN)) := (HN11.out.kept HA11.out.size (nf_below HA11.out)).more (by have := HC10.out.size; simp; omega)
      have HR12 := mkHid (bup HC9.out HC12.out)
      have HCK12 : Hid (∀ V, Below wr.heap.size wr V → Below w7.heap.size w7 V) := fun V hV => bup HR.out hV
      clear HC12 HB12 HX9 HY10 HYS HK11 HN11 HF11 HK12 HA11 HD10 HD11 HC9 HC10 HR hf5 hk6 hzz
      refine (sameClasses_any _ _ _ lx (HX12.out.monoC fun _ h => h.lt) HW12.out).mono ?_
      rintro r w13 ⟨rfl, hb13⟩
      have HB13 := mkHid hb13
      obtain ⟨p5, p10, p6, p11⟩ := HP.out w13 hb13
      have g0 := cell_of p5 0 (x := .int .i64 ei) rfl
      have g1 := cell_of p5 1 (x := .int .i64 pi) rfl
      have g2 := cell_of p10 0 (x := .int .i64 ei) rfl
      have g3 := cell_of p10 1 (x := .int .i64 pi) rfl
      clear hb13 p5 p10 p6 p11
      go_wp2_with fail
      refine (Cd.same_any _ _ _ li (HY12.out.below HB13.out) (HI12.out.below HB13.out) (by omega)).mono ?_
      rintro r wd ⟨rfl, n, hwd⟩
      have HB14 : Hid (Below w12.heap.size w12 wd) := by rw [hwd]; exact below_drewN HB13.out n
      clear hwd
      obtain ⟨-, -, p6, p11⟩ := HP.out _ HB14.out
      have y0 := cell_of p6 0 (x := .slice aC d.classes.length cC) rfl
      have y1 := cell_of p6 1 (x := .slice aS d.supers.length cS) rfl
      have y2 := cell_of p6 2 (x := .slice aF d.fields.length cF) rfl
      have y3 := cell_of p6 3 (x := .slice aN d.names.length cN) rfl
      have y4 := cell_of p6 4 (x := .slice aT d.targets.length cT) rfl
      have x0 := cell_of p11 0 (x := .slice bC d.classes.length eC) rfl
      have x1 := cell_of p11 1 (x := .slice bS d.supers.length eS) rfl
      have x2 := cell_of p11 2 (x := .slice bF d.fields.length eF) rfl
      have x3 := cell_of p11 3 (x := .slice bN d.names.length eN) rfl
      have x4 := cell_of p11 4 (x := .slice bT d.targets.length eT) rfl
      have HSM := mkHid (SameLinked_any wd w12.heap.size _ _ _ _ _ _ _ _ _ _ d d (HM12.out.kept (Kp.below HB14.out)) (HJ12.out.kept (Kp.below HB14.out)) rfl HB14.out.size)
      have HSR := mkHid (sameRest_refl d)
      clear p6 p11 g0 g1 g2 g3 HB13 HM12 HJ12 HY12 HI12 HW12
      go_wp2_with (go_at_call 17; refine HSM.out.mono ?_; rw [HSR.out]; rintro r w14 ⟨rfl, hb14⟩)
      have HC14 := mkHid (HB14.out.trans (hb14.mono HB14.out.size))
      clear hb14 HSM HSR x0 x1 x2 x3 x4 y0 y1 y2 y3 y4 HB14
      have HX14 := mkHid (HX12.out.nfC HC14.out)
      have HS14 : Hid (Cd.YSh wr.heap.size w14 (.slice ay li.length cy) li.length) := HS12.out.kept (nf_below HC14.out)
      have hn14 : NewL wr.heap.size w14 (.slice bC d.classes.length eC) (.slice bS d.supers.length eS) (.slice bF d.fields.length eF) (.slice bN d.names.length eN) := HN12.out.kept HC14.out.size (nf_below HC14.out)
      have HR14 := mkHid (bup HR12.out HC14.out)
      obtain ⟨-, -, -, p11⟩ := HP.out w14 HC14.out
      have HZ0 := mkHid (cell_of p11 0 (x := .slice bC d.classes.length eC) rfl)
      have HZ1 := mkHid (cell_of p11 1 (x := .slice bS d.supers.length eS) rfl)
      have HZ2 := mkHid (cell_of p11 2 (x := .slice bF d.fields.length eF) rfl)
      have HZ3 := mkHid (cell_of p11 3 (x := .slice bN d.names.length eN) rfl)
      obtain ⟨lC, lS, lF, lN, nC, nS, nF, nN⟩ := hn14
      have HC4 := mkHid nC
      have HS4 := mkHid nS
      have HF14 := mkHid nF
      have HN14 := mkHid nN
      have hlF := nF.len
      have hlN := nN.len
      have eF : d.fields.length = lF.length := by obtain ⟨_, _, e, -⟩ := nF; injection e
      have eN' : d.names.length = lN.length := by obtain ⟨_, _, e, -⟩ := nN; injection e
      rw [eF] at HZ2 HF14
      rw [eN'] at HZ3 HN14
      clear nC nS nF nN p11 eF eN' HP HX12 HS12 HN12 HR12 HC14
      refine (spoilClasses_any w14 w14 wr.heap.size _ lx HX14.out HR14.out.size (Spo.refl _ _)).mono ?_
      rintro r w15 ⟨rfl, hsp⟩
      have HSP := mkHid hsp
      clear hsp HX14
      go_wp2_with fail
      go_loopw [22] (fun i wq => ∃ j : Nat, j ≤ li.length ∧ i = .int .i64 j ∧ Hid (Spo wr.heap.size w14 wq)) (fun i _ => li.length - (intOf i).toNat)
      case atStart => exact ⟨0, Nat.zero_le _, rfl, HSP.out⟩
      case round =>
        clear HSP
        rename World => wq
        obtain ⟨j, hj, rfl, HSP⟩ := hrel
        by_cases hjt : j < li.length
        · obtain ⟨bi, oi, rfl, hin⟩ := HS14.out.spo hjt
          obtain ⟨hnf, nm, d0⟩ := hin wq HSP.out
          have f0 := hnf.frz (oi + j * 4 + 1)
          have HN := mkHid (HSP.out.setI hnf d0 (-1))
          clear hin hnf HSP
          go_wp2_with fail
          go_roundw
          case rel => exact ⟨j + 1, by omega, by go_num, HN.out⟩
          case measure => simp [intOf]; omega
        · have z0 := HSP.out.slice HZ0.out
          go_wp2_with fail
          refine (spoilClasses_any w14 wq wr.heap.size _ lC HC4.out HR14.out.size HSP.out).mono ?_
          rintro r w16 ⟨rfl, hsp⟩
          clear HSP hjt hj z0
          have HSP := mkHid hsp
          have z1 := hsp.slice HZ1.out
          clear hsp
          go_wp2_with fail
          refine (spoilInts_any w14 w16 wr.heap.size _ lS HS4.out HSP.out).mono ?_
          rintro r w17 ⟨rfl, hsp⟩
          clear HSP z1
          have HSP := mkHid hsp
          have z2 := hsp.slice HZ2.out
          clear hsp
          go_wp2_with fail
          go_loopw [23] (fun i wq => ∃ j : Nat, j ≤ lF.length ∧ i = .int .i64 j ∧ Hid (Spo wr.heap.size w14 wq)) (fun i _ => lF.length - (intOf i).toNat)
          case atStart => exact ⟨0, Nat.zero_le _, rfl, HSP.out⟩
          case round =>
            clear HSP z2
            rename World => wq
            obtain ⟨j, hj, rfl, HSP⟩ := hrel
            have z2 := HSP.out.slice HZ2.out
            by_cases hjt : j < lF.length
            · obtain ⟨bo, oo, ra, rc, rfl, -, hrow, srow⟩ := spoSl HF14.out hjt
              have HROW := mkHid hrow
              have HSROW := mkHid srow
              have hlr := srow.len
              have z9 := hrow wq HSP.out
              clear hrow srow
              generalize lF[j] = row at *
              go_wp2_with fail
              go_loopw [24] (fun i wq => ∃ m : Nat, m ≤ row.length ∧ i = .int .i64 m ∧ Hid (Spo wr.heap.size w14 wq)) (fun i _ => row.length - (intOf i).toNat)
              case atStart => exact ⟨0, Nat.zero_le _, rfl, HSP.out⟩
              case round =>
                clear HSP z2 z9
                rename World => wz
                obtain ⟨m, hm, rfl, HSP⟩ := hrel
                have z2 := HSP.out.slice HZ2.out
                have z9 := HROW.out wz HSP.out
                by_cases hmt : m < row.length
                · obtain ⟨bi, oi, rfl, -, hin⟩ := spoF HSROW.out hmt
                  obtain ⟨hnf, nm, d0⟩ := hin wz HSP.out
                  have f0 := hnf.frz (oi + m * 3)
                  have HN := mkHid (HSP.out.setS hnf d0 ⟨#[63]⟩)
                  clear hin hnf HSP
                  go_wp2_with fail
                  go_roundw
                  case rel => exact ⟨m + 1, by omega, by go_num, HN.out⟩
                  case measure => simp [intOf]; omega
                · go_wp2_with fail
                  go_roundw
                  case rel => exact ⟨j + 1, by omega, by go_num, HSP.out⟩
                  case measure => simp [intOf]; omega
            · have z3 := HSP.out.slice HZ3.out
              go_wp2_with fail
              clear hjt hj z2
              go_loopw [25] (fun i wq => ∃ j : Nat, j ≤ lN.length ∧ i = .int .i64 j ∧ Hid (Spo wr.heap.size w14 wq)) (fun i _ => lN.length - (intOf i).toNat)
              case atStart => exact ⟨0, Nat.zero_le _, rfl, HSP.out⟩
              case round =>
                clear HSP z3
                rename World => wq
                obtain ⟨j, hj, rfl, HSP⟩ := hrel
                have z3 := HSP.out.slice HZ3.out
                by_cases hjt : j < lN.length
                · obtain ⟨bo, oo, ra, rc, rfl, -, hrow, srow⟩ := spoSl HN14.out hjt
                  have HROW := mkHid hrow
                  have HSROW := mkHid srow
                  have hlr := srow.len
                  have z9 := hrow wq HSP.out
                  clear hrow srow
                  generalize lN[j] = row at *
                  go_wp2_with fail
                  go_loopw [26] (fun i wq => ∃ m : Nat, m ≤ row.length ∧ i = .int .i64 m ∧ Hid (Spo wr.heap.size w14 wq)) (fun i _ => row.length - (intOf i).toNat)
                  case atStart => exact ⟨0, Nat.zero_le _, rfl, HSP.out⟩
                  case round =>
                    clear HSP z3 z9
                    rename World => wz
                    obtain ⟨m, hm, rfl, HSP⟩ := hrel
                    have z3 := HSP.out.slice HZ3.out
                    have z9 := HROW.out wz HSP.out
                    by_cases hmt : m < row.length
                    · obtain ⟨bi, oi, rfl, -, hin⟩ := spoS HSROW.out hmt
                      obtain ⟨hnf, nm, d0⟩ := hin wz HSP.out
                      have f0 := hnf.frz (oi + m)
                      have HN := mkHid (HSP.out.setS hnf d0 ⟨#[63]⟩)
                      clear hin hnf HSP
                      go_wp2_with fail
                      go_roundw
                      case rel => exact ⟨m + 1, by omega, by go_num, HN.out⟩
                      case measure => simp [intOf]; omega
                    · go_wp2_with fail
                      go_roundw
                      case rel => exact ⟨j + 1, by omega, by go_num, HSP.out⟩
                      case measure => simp [intOf]; omega
                · have HV9 := mkHid (HCK12.out _ (HR14.out.trans HSP.out.below))
                  clear HSP
                  go_wp2_with (first
                    | (go_at_call 10; refine (HCK.out _ HV9.out).mono ?_; rintro r w18 ⟨rfl, hb18⟩; have HV18 := mkHid (bup HV9.out hb18); clear hb18)
                    | (go_at_call 11; refine (HE8.out hce _ HV18.out).mono ?_; rintro r w19 ⟨rfl, hb19⟩; have HV19 := mkHid (bup HV18.out hb19); clear hb19))
                  go_roundw
                  case rel => exact ⟨k + 1, by omega, by go_num, by first | exact HV19.out | exact HV9.out⟩
                  case measure => simp [intOf]; omega
end Go.Proofs.YtaekpdcnnkmahaaGreatDoor
