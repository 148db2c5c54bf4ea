/- The contract of Target. -/
import Derived.Test.YtkpklkhkhhlifabGreatJLLkLBeg
import Derived.Test.YtkpklkhkhhlifabGreatJLCkDLPu4
import Derived.Test.YtkpklkhkhhlifabGreatLMdT
namespace Go.Proofs.YtkpklkhkhhlifabGreat
open Go.RowKit Go.Maps

def tgAt (l : List ClassD) (c : Nat) (s : ByteArray) : TargD := (targetsOf l c)[(idxS (namesOf l c) s).toNat]?.getD ⟨0, 0⟩
def tgErr (d : LinkD) (c : Int) (s : ByteArray) : Int := if chkRes d [c] = 0 then (if 0 ≤ idxS (namesOf d.classes c.toNat) s then 0 else 5) else chkRes d [c]
theorem one_I {W : World} {g t : Nat} {a : Int} (h : W.heap[g]? = some (.cells #[.int .i64 a] t (0, 0))) : SL 1 RI (fun _ => True) W (.slice (some ⟨g, 0, none⟩) 1 1) [a] := by
  refine ⟨some ⟨g, 0, none⟩, 1, rfl, Nat.le_refl _, by unfold maxLen; simp, fun k hk => ?_⟩
  have hk' : k < 1 := by simpa using hk
  obtain rfl : k = 0 := by omega
  refine ⟨g, 0, [.int .i64 a], rfl, trivial, lt_of h, rfl, fun j hj => ?_, rfl⟩
  obtain rfl : j = 0 := by omega
  exact cell_of h 0 rfl

set_option maxRecDepth 100000 in
set_option maxHeartbeats 2000000 in
theorem target_any (w : World) (B b : Nat) (l : List ClassD) (vC vS vF vN vT vL : Value) (Bm : Nat) (hw : Web B w b l vC vS vF vN vT vL Bm) (x : Int) (s : ByteArray) (hx : 0 ≤ x) (hx' : x < l.length) :
    Calls Tryz.prog 39 #[.pointer (some ⟨b, 0, none⟩), .int .i64 x, .string s] w fun r w' => Below w.heap.size w w' ∧
      ((0 ≤ idxS (namesOf l x.toNat) s ∧ r = .returned (.agg #[.int .i64 (tgAt l x.toNat s).cls, .int .i64 (tgAt l x.toNat s).meth])) ∨ (¬ 0 ≤ idxS (namesOf l x.toNat) s ∧ r = .panicked [wrongV 5 0])) := by
  obtain ⟨n, rfl⟩ := Int.eq_ofNat_of_zero_le hx
  show Calls _ _ _ _ fun r w' => Below w.heap.size w w' ∧ ((0 ≤ idxS (namesOf l n) s ∧ r = .returned (.agg #[.int .i64 (tgAt l n s).cls, .int .i64 (tgAt l n s).meth])) ∨ (¬ 0 ≤ idxS (namesOf l n) s ∧ r = .panicked [wrongV 5 0]))
  obtain ⟨W, hW⟩ : ∃ W, W = w.alloc (.cells #[.int .i64 0, .int .i64 0] 40) := ⟨_, rfl⟩
  have hB0 : Below w.heap.size w W := hW ▸ (Below.refl w.heap.size w).alloc (Nat.le_refl _) _
  have hka : W.heap[w.heap.size]? = some (.cells #[.int .i64 0, .int .i64 0] 40 (0, 0)) := hW ▸ heap_alloc_new w _
  have HWE := mkHid hW
  have hw1 := hw.below (hB0.mono hw.le)
  have hb1 : b < W.heap.size := Nat.lt_of_lt_of_le hw1.bB hw1.le
  have r0 := cell_of hka 0 (x := .int .i64 0) rfl
  have r1 := cell_of hka 1 (x := .int .i64 0) rfl
  have z0 := frz_of hka
  have za := lt_of hka
  have c3 := cell_of hw1.blk 3 (x := vN) rfl
  have c4 := cell_of hw1.blk 4 (x := vT) rfl
  have HB0 := mkHid hB0
  obtain ⟨aN, cN, hvN, -⟩ := hw1.sN
  obtain ⟨aT, cT, hvT, -⟩ := hw1.sT
  have hlN : ((List.range l.length).map (namesOf l)).length = l.length := by simp
  have hlT : ((List.range l.length).map (targetsOf l)).length = l.length := by simp
  rw [hlN] at hvN
  rw [hlT] at hvT
  subst hvN
  subst hvT
  obtain ⟨bN, oN, aU, cU, rfl, hbN, e1, sU⟩ := hw1.sN.atSl n (by omega)
  obtain ⟨bT, oT, aV, cV, rfl, hbT, e2, sV⟩ := hw1.sT.atSl n (by omega)
  have g1 : ((List.range l.length).map (namesOf l))[n]'(by omega) = namesOf l n := by simp
  have g2 : ((List.range l.length).map (targetsOf l))[n]'(by omega) = targetsOf l n := by simp
  rw [g1] at e1 sU
  rw [g2] at e2 sV
  have HC := mkHid (indexStr_any W (· < B) _ _ s sU)
  have hml : (namesOf l n).length ≤ 9223372036854775807 := by obtain ⟨a, c, -, -, h, -⟩ := sU; unfold maxLen at h; omega
  have HSV := mkHid sV
  have htl := (table_len l n).symm
  have HT : Hid (∀ k : Nat, idxS (namesOf l n) s = k → (hk : k < (targetsOf l n).length) → tgAt l n s = (targetsOf l n)[k]) := fun k e hk => by
    rw [tgAt, e]
    simp [hk]
  have HIG : Hid (0 ≤ idxS (namesOf l n) s → ∃ (k : Nat) (hk : k < (namesOf l n).length), idxS (namesOf l n) s = k ∧ (namesOf l n)[k] = s) := idxS_get
  rw [htl] at e2 HSV
  have HTL := mkHid htl
  clear hw hw1 sU sV g1 g2 hlN hlT hB0 hW htl hka
  generalize targetsOf l n = ts at *
  generalize namesOf l n = ns at *
  have hn0 : (0 : Int) ≤ n := hx
  have hn1 : (n : Int) < l.length := hx'
  by_cases h : 0 ≤ idxS ns s
  · obtain ⟨k, hk, ek, -⟩ := HIG.out h
    rw [ek] at HC
    have hkt : k < ts.length := by have := HTL.out; omega
    have HTK := mkHid (HT.out k ek hkt)
    have HE := mkHid h
    generalize tgAt l n s = ta at *
    obtain ⟨b9, o9, rfl, hb9, f0, f1⟩ := HSV.out.atT k hkt
    have hk0 : (0 : Int) ≤ k := by omega
    have hk1 : (k : Int) < ns.length := by omega
    generalize ts[k] = tk at *
    clear h ek HT HIG
    have hW := HWE.out
    clear HWE
    subst hW
    go_enter Tryz.func39, Tryz.ntmps39
    go_wp2_with (go_at_call 63; refine HC.out.mono ?_; rintro r w1 ⟨rfl, rfl⟩)
    refine (demand_any _ _ _).mono ?_
    rintro r w3 ⟨rfl, ⟨hb, rfl⟩ | ⟨hb, rfl⟩⟩
    · exact absurd hb (by simp)
    clear hb HC
    go_wp2_with fail
    exact bodyPost_ret (v := .agg #[.int .i64 tk.cls, .int .i64 tk.meth]) (by simp [results, Tryz.results39, go_sem]) rfl ⟨(Below.refl _ _).alloc (Nat.le_refl _) _, Or.inl ⟨HE.out, by rw [HTK.out]⟩⟩
  · have HE := mkHid h
    have hW := HWE.out
    clear HWE
    subst hW
    go_enter Tryz.func39, Tryz.ntmps39
    go_wp2_with (go_at_call 63; refine HC.out.mono ?_; rintro r w1 ⟨rfl, rfl⟩)
    refine (demand_any _ _ _).mono ?_
    rintro r w3 ⟨rfl, ⟨hb, rfl⟩ | ⟨hb, rfl⟩⟩
    · exact ⟨rfl, HB0.out, Or.inr ⟨by have := HE.out; omega, rfl⟩⟩
    · have h1 := of_decide_eq_true hb
      have h2 := HE.out
      omega

set_option maxRecDepth 100000 in
set_option maxHeartbeats 2000000 in
theorem target1_any (w : World) (B P Q R : Nat) (kC kS kF kN kT : Value) (d : LinkD) (x : Int) (s : ByteArray) (hk : RLk (· < B) w kC kS kF kN kT d) (hB : B ≤ w.heap.size)
    (hP : w.heap[P]? = some (.cells #[kC, kS, kF, kN, kT] 28 (0, 0))) (hQ : w.cell? ⟨Q, 0, none⟩ = some (.int .i64 x)) (hR : w.cell? ⟨R, 0, none⟩ = some (.string s)) :
    Calls Tryz.prog 38 #[.pointer (some ⟨P, 0, none⟩), .pointer (some ⟨Q, 0, none⟩), .pointer (some ⟨R, 0, none⟩)] w fun r w' => Below w.heap.size w w' ∧
      ((∃ v, r = .returned v ∧ (∃ a b, v = .agg #[.int .i64 a, .int .i64 b]) ∧ (tgErr d x s = 0 ∧ v = .agg #[.int .i64 (tgAt d.classes x.toNat s).cls, .int .i64 (tgAt d.classes x.toNat s).meth])) ∨ ∃ e p, r = .panicked [wrongV e p] ∧ (tgErr d x s = e ∧ e ≠ 0)) := by
  obtain ⟨W0, hW⟩ : ∃ W0, W0 = w.alloc (.cells #[.int .i64 0, .int .i64 0] 40) := ⟨_, rfl⟩
  have hB0 : Below w.heap.size w W0 := hW ▸ (Below.refl w.heap.size w).alloc (Nat.le_refl _) _
  have hka : W0.heap[w.heap.size]? = some (.cells #[.int .i64 0, .int .i64 0] 40 (0, 0)) := hW ▸ heap_alloc_new w _
  have HWE := mkHid hW
  have HW0 := mkHid hB0
  have hPl := lt_of hP
  have hQl := World.block_lt_of_cell? w _ hQ
  have hRl := World.block_lt_of_cell? w _ hR
  have up : ∀ (k j : Nat) (v : Value), k < w.heap.size → w.cell? ⟨k, j, none⟩ = some v → W0.cell? ⟨k, j, none⟩ = some v := fun k j v h e => (hB0.cell (p := ⟨k, j, none⟩) h).trans e
  have c0 := up _ _ _ hPl (cell_of hP 0 (x := kC) rfl)
  have c1 := up _ _ _ hPl (cell_of hP 1 (x := kS) rfl)
  have c2 := up _ _ _ hPl (cell_of hP 2 (x := kF) rfl)
  have c3 := up _ _ _ hPl (cell_of hP 3 (x := kN) rfl)
  have c4 := up _ _ _ hPl (cell_of hP 4 (x := kT) rfl)
  have cQ := up _ _ _ hQl hQ
  have cR := up _ _ _ hRl hR
  have lP : P < W0.heap.size := Nat.lt_of_lt_of_le hPl hB0.size
  have lQ : Q < W0.heap.size := Nat.lt_of_lt_of_le hQl hB0.size
  have lR : R < W0.heap.size := Nat.lt_of_lt_of_le hRl hB0.size
  have HCK : Hid (∀ W t, Below W0.heap.size W0 W → W.heap[W0.heap.size]? = some (.cells #[.int .i64 x] t (0, 0)) → Calls Tryz.prog 33 #[.agg #[kC, kS, kF, kN, kT], .slice (some ⟨W0.heap.size, 0, none⟩) 1 1] W fun r w' => Below W0.heap.size W0 w' ∧
      ((chkRes d [x] = 0 ∧ ∃ b vS vF vN vT vL Bm, r = .returned (.pointer (some ⟨b, 0, none⟩)) ∧ Web w'.heap.size w' b d.classes kC vS vF vN vT vL Bm) ∨ (chkRes d [x] ≠ 0 ∧ r = .panicked [wrongV (chkRes d [x]) 0]))) := fun W t hW hh =>
    (checked_any W B kC kS kF kN kT d ((hk.kept (Kp.below (hB0.mono hB))).kept (Kp.below (hW.mono (Nat.le_trans hB hB0.size)))) (Nat.le_trans (Nat.le_trans hB hB0.size) hW.size) (fun _ => True) _ [x] (one_I hh)).mono fun r w' ⟨hb, h⟩ => ⟨hW.trans (hb.mono hW.size), h.imp (fun ⟨h1, _, h3⟩ => ⟨h1, h3⟩) id⟩
  obtain ⟨aC, cC, aS, cS, aF, cF, aN, cN, aT, cT, rfl, rfl, rfl, rfl, rfl⟩ := hk.agg
  have HNW : Hid (∀ t, (W0.alloc (.cells #[.int .i64 x] t)).heap[W0.heap.size]? = some (.cells #[.int .i64 x] t (0, 0))) := fun t => heap_alloc_new W0 _
  have HRS : Hid (∀ w' : World, Below W0.heap.size W0 w' → w'.heap[w.heap.size]? = some (.cells #[.int .i64 0, .int .i64 0] 40 (0, 0))) := fun w' hb => (hb.block _ (lt_of hka)).trans hka
  clear hk hP hQ hR up hW hB0 hka
  by_cases hc : chkRes d [x] = 0
  · have hin : inB d x = true := by
      unfold chkRes at hc
      split at hc
      · split at hc
        · rename_i h; simpa using h
        · cases hc
      · cases hc
    have hx0 : 0 ≤ x ∧ x < d.classes.length := by simpa [inB] using hin
    have HX := mkHid hx0
    have HFE : Hid (tgErr d x s = if 0 ≤ idxS (namesOf d.classes x.toNat) s then 0 else 5) := by show tgErr d x s = _; rw [tgErr, if_pos hc]
    by_cases hn : 0 ≤ idxS (namesOf d.classes x.toNat) s
    · have HCK2 : Hid (∀ W t, Below W0.heap.size W0 W → W.heap[W0.heap.size]? = some (.cells #[.int .i64 x] t (0, 0)) → Calls Tryz.prog 33 #[.agg #[.slice aC d.classes.length cC, .slice aS d.supers.length cS, .slice aF d.fields.length cF, .slice aN d.names.length cN, .slice aT d.targets.length cT], .slice (some ⟨W0.heap.size, 0, none⟩) 1 1] W fun r w' => ∃ b, r = .returned (.pointer (some ⟨b, 0, none⟩)) ∧ Below W0.heap.size W0 w' ∧ Calls Tryz.prog 39 #[.pointer (some ⟨b, 0, none⟩), .int .i64 x, .string s] w' fun r w'' => r = .returned (.agg #[.int .i64 (tgAt d.classes x.toNat s).cls, .int .i64 (tgAt d.classes x.toNat s).meth]) ∧ Below W0.heap.size W0 w'') := fun W t hW hh => (HCK.out W t hW hh).mono fun r w' ⟨hb, h⟩ => by
        rcases h with ⟨_, b, _, _, _, _, _, _, h1, h2⟩ | ⟨h, _⟩
        · exact ⟨b, h1, hb, (target_any w' _ b _ _ _ _ _ _ _ _ h2 x s HX.out.1 HX.out.2).mono fun r w'' ⟨hb2, h⟩ => by
            rcases h with ⟨_, h⟩ | ⟨h, _⟩
            · exact ⟨h, hb.trans (hb2.mono hb.size)⟩
            · exact absurd hn h⟩
        · exact absurd hc h
      have HR : Hid (tgErr d x s = 0) := HFE.out.trans (if_pos hn)
      generalize tgAt d.classes x.toNat s = ta at *
      clear HCK hc hin hx0 hn HX HFE
      go_enter Tryz.func38, Tryz.ntmps38
      go_wp2_with fail
      rw [← HWE.out]
      go_wp2_with fail
      go_region_held3 (fun W' => ∀ p : Addr, p.block < w.heap.size → W'.cell? p = W0.cell? p) (exact fun p hp => Below.cell (B := w.heap.size) (w := W0) (by repeat (first | assumption | exact (by assumption : Below W0.heap.size W0 _).mono HW0.out.size | exact Below.refl _ _ | refine Below.drew ?_ | refine Below.alloc ?_ (by have := HW0.out.size; simp <;> omega) _ | refine Below.setCell ?_ (by simp) _)) hp) (first
        | (go_at_call 33; refine (HCK2.out _ 3 ?_ ?_).mono ?_; (first | exact (((Below.refl _ _).alloc (Nat.le_refl _) _).drew) | exact (((Below.refl _ _).drew).alloc (Nat.le_refl _) _)); (exact HNW.out _); rintro r w2 ⟨b2, rfl, hb2, hn2⟩; have HN2 := mkHid hn2; clear hn2)
        | (go_at_call 39; refine HN2.out.mono ?_; rintro r w4 ⟨rfl, hb4⟩; have hX4 := HRS.out _ hb4; have r0 := cell_of hX4 0 (x := .int .i64 0) rfl; have r1 := cell_of hX4 1 (x := .int .i64 0) rfl; have z4 := frz_of hX4; have lz4 := lt_of hX4; clear hX4))
      all_goals
        rename_i hS1
        clear hS1
        go_wp2_with fail
        obtain ⟨hg, q0, q1⟩ := two_set w4 w.heap.size (.int .i64 ta.cls) (.int .i64 ta.meth) r0 r1
        have hBE := below_of_grown (HW0.out.trans (hb4.mono HW0.out.size)) hg (Nat.le_refl _)
        generalize ((w4.setCell ⟨w.heap.size, 0, none⟩ (.int .i64 ta.cls)).setCell ⟨w.heap.size, 1, none⟩ (.int .i64 ta.meth)) = W2 at *
        exact bodyPost_ret (v := .agg #[.int .i64 ta.cls, .int .i64 ta.meth]) (by simp [results, Tryz.results38, go_sem, q0, q1]) rfl ⟨hBE, Or.inl ⟨_, rfl, ⟨_, _, rfl⟩, HR.out, rfl⟩⟩
    · have HCK2 : Hid (∀ W t, Below W0.heap.size W0 W → W.heap[W0.heap.size]? = some (.cells #[.int .i64 x] t (0, 0)) → Calls Tryz.prog 33 #[.agg #[.slice aC d.classes.length cC, .slice aS d.supers.length cS, .slice aF d.fields.length cF, .slice aN d.names.length cN, .slice aT d.targets.length cT], .slice (some ⟨W0.heap.size, 0, none⟩) 1 1] W fun r w' => ∃ b, r = .returned (.pointer (some ⟨b, 0, none⟩)) ∧ Below W0.heap.size W0 w' ∧ Calls Tryz.prog 39 #[.pointer (some ⟨b, 0, none⟩), .int .i64 x, .string s] w' fun r w'' => r = .panicked [wrongV 5 0] ∧ Below W0.heap.size W0 w'') := fun W t hW hh => (HCK.out W t hW hh).mono fun r w' ⟨hb, h⟩ => by
        rcases h with ⟨_, b, _, _, _, _, _, _, h1, h2⟩ | ⟨h, _⟩
        · exact ⟨b, h1, hb, (target_any w' _ b _ _ _ _ _ _ _ _ h2 x s HX.out.1 HX.out.2).mono fun r w'' ⟨hb2, h⟩ => by
            rcases h with ⟨h, _⟩ | ⟨_, h⟩
            · exact absurd h hn
            · exact ⟨h, hb.trans (hb2.mono hb.size)⟩⟩
        · exact absurd hc h
      have HR : Hid (tgErr d x s = 5) := HFE.out.trans (if_neg hn)
      clear HCK hc hin hx0 hn HX HFE
      go_enter Tryz.func38, Tryz.ntmps38
      go_wp2_with fail
      rw [← HWE.out]
      go_wp2_with fail
      refine wp_region_held_drew (S := fun W' => ∀ p : Addr, p.block < w.heap.size → W'.cell? p = W0.cell? p) (by kernel_rfl) (fun p hp => rfl) fun hH => ?_
      refine wpAnyH_take (i := 0) (v := .agg #[.slice aC d.classes.length cC, .slice aS d.supers.length cS, .slice aF d.fields.length cF, .slice aN d.names.length cN, .slice aT d.targets.length cT]) rfl (by kernel_rfl) (by kernel_rfl) (by kernel_rfl) (fun _ _ _ h => h) (Or.inl ⟨by rfl, ?_⟩) hH ?_
      · intro w hSw
        go_simp
      refine wpAnyH_take (i := 1) (v := .int .i64 x) rfl (by kernel_rfl) (by kernel_rfl) (by kernel_rfl) (fun _ _ _ h => h) (Or.inl ⟨by rfl, ?_⟩) hH ?_
      · intro w hSw
        go_simp
      refine wpAnyH_take (i := 4) (v := .int .i64 x) rfl (by kernel_rfl) (by kernel_rfl) (by kernel_rfl) (fun _ _ _ h => h) (Or.inl ⟨by rfl, ?_⟩) hH ?_
      · intro w hSw
        go_simp
      refine wpAnyH_take (i := 5) (v := .string s) rfl (by kernel_rfl) (by kernel_rfl) (by kernel_rfl) (fun _ _ _ h => h) (Or.inl ⟨by rfl, ?_⟩) hH ?_
      · intro w hSw
        go_simp
      refine wpAnyH_ready (rs := [2]) (by kernel_rfl) (by simp) ?_
      refine AllReadyH.cons rfl (fun K hK => ?_) AllReadyH.nil
      go_simp
      refine hK.out _ _ (fun p hp => Below.cell (B := W0.heap.size) (w := W0) (((Below.refl _ _).drew).alloc (Nat.le_refl _) _) (Nat.lt_of_lt_of_le hp HW0.out.size)) fun _ => ?_
      refine wpAnyH_ready (rs := [3]) (by kernel_rfl) (by simp) ?_
      refine AllReadyH.cons rfl (fun K' hK' => ?_) AllReadyH.nil
      go_simp
      refine (HCK2.out _ 3 (((Below.refl _ _).drew).alloc (Nat.le_refl _) _) (HNW.out _)).mono ?_
      rintro r w2 ⟨b2, rfl, hb2, hn2⟩
      refine hK'.out _ _ (fun p hp => hb2.cell (Nat.lt_of_lt_of_le hp HW0.out.size)) fun _ => ?_
      refine wpAnyH_ready (rs := [6]) (by kernel_rfl) (by simp) ?_
      refine AllReadyH.cons rfl (fun K2 hK2 => ?_) AllReadyH.nil
      go_simp
      refine hn2.mono ?_
      rintro r w4 ⟨rfl, hb4⟩
      exact ⟨rfl, HW0.out.trans (hb4.mono HW0.out.size), Or.inr ⟨_, _, rfl, HR.out, by decide⟩⟩
  · have HR : Hid (tgErr d x s = chkRes d [x]) := by show tgErr d x s = _; rw [tgErr, if_neg hc]
    have HCK2 : Hid (∀ W t, Below W0.heap.size W0 W → W.heap[W0.heap.size]? = some (.cells #[.int .i64 x] t (0, 0)) → Calls Tryz.prog 33 #[.agg #[.slice aC d.classes.length cC, .slice aS d.supers.length cS, .slice aF d.fields.length cF, .slice aN d.names.length cN, .slice aT d.targets.length cT], .slice (some ⟨W0.heap.size, 0, none⟩) 1 1] W fun r w' => r = .panicked [wrongV (chkRes d [x]) 0] ∧ Below W0.heap.size W0 w') := fun W t hW hh => (HCK.out W t hW hh).mono fun r w' ⟨hb, h⟩ => by
      rcases h with ⟨h, _⟩ | ⟨_, h⟩
      · exact absurd h hc
      · exact ⟨h, hb⟩
    have HNZ := mkHid hc
    clear HCK hc
    go_enter Tryz.func38, Tryz.ntmps38
    go_wp2_with fail
    rw [← HWE.out]
    go_wp2_with fail
    refine wp_region_held_drew (S := fun W' => ∀ p : Addr, p.block < w.heap.size → W'.cell? p = W0.cell? p) (by kernel_rfl) (fun p hp => rfl) fun hH => ?_
    refine wpAnyH_take (i := 0) (v := .agg #[.slice aC d.classes.length cC, .slice aS d.supers.length cS, .slice aF d.fields.length cF, .slice aN d.names.length cN, .slice aT d.targets.length cT]) rfl (by kernel_rfl) (by kernel_rfl) (by kernel_rfl) (fun _ _ _ h => h) (Or.inl ⟨by rfl, ?_⟩) hH ?_
    · intro w hSw
      go_simp
    refine wpAnyH_take (i := 1) (v := .int .i64 x) rfl (by kernel_rfl) (by kernel_rfl) (by kernel_rfl) (fun _ _ _ h => h) (Or.inl ⟨by rfl, ?_⟩) hH ?_
    · intro w hSw
      go_simp
    refine wpAnyH_take (i := 4) (v := .int .i64 x) rfl (by kernel_rfl) (by kernel_rfl) (by kernel_rfl) (fun _ _ _ h => h) (Or.inl ⟨by rfl, ?_⟩) hH ?_
    · intro w hSw
      go_simp
    refine wpAnyH_take (i := 5) (v := .string s) rfl (by kernel_rfl) (by kernel_rfl) (by kernel_rfl) (fun _ _ _ h => h) (Or.inl ⟨by rfl, ?_⟩) hH ?_
    · intro w hSw
      go_simp
    refine wpAnyH_ready (rs := [2]) (by kernel_rfl) (by simp) ?_
    refine AllReadyH.cons rfl (fun K hK => ?_) AllReadyH.nil
    go_simp
    refine hK.out _ _ (fun p hp => Below.cell (B := W0.heap.size) (w := W0) (((Below.refl _ _).drew).alloc (Nat.le_refl _) _) (Nat.lt_of_lt_of_le hp HW0.out.size)) fun _ => ?_
    refine wpAnyH_ready (rs := [3]) (by kernel_rfl) (by simp) ?_
    refine AllReadyH.cons rfl (fun K' hK' => ?_) AllReadyH.nil
    go_simp
    refine (HCK2.out _ 3 (((Below.refl _ _).drew).alloc (Nat.le_refl _) _) (HNW.out _)).mono ?_
    rintro r w2 ⟨rfl, hb2⟩
    exact ⟨rfl, HW0.out.trans (hb2.mono HW0.out.size), Or.inr ⟨_, _, rfl, HR.out, HNZ.out⟩⟩

theorem callTarget1 (args : Array Value) (w : World) : (callFunc 38 args).run Tryz.prog w = .ok (.enter 38 args) w := by kernel_rfl
def tgVal (d : LinkD) (x : Int) (s : ByteArray) : TargD := if tgErr d x s = 0 then tgAt d.classes x.toNat s else ⟨0, 0⟩

theorem finTg {w w2 : World} {Q : Nat} (hB : Below w.heap.size w w2) (hQ : w.heap.size ≤ Q) (a b : Value) (o1 o2 : Obj) {x0 x1 : Value} (h0 : w2.cell? ⟨Q, 0, none⟩ = some x0) (h1 : w2.cell? ⟨Q, 1, none⟩ = some x1) :
    ∃ W9, W9 = (((w2.setCell ⟨Q, 0, none⟩ a).setCell ⟨Q, 1, none⟩ b).alloc o1).alloc o2 ∧ Below w.heap.size w W9 ∧ W9.cell? ⟨Q, 0, none⟩ = some a ∧ W9.cell? ⟨Q, 1, none⟩ = some b := by
  have hl := World.block_lt_of_cell? w2 _ h0
  obtain ⟨G1, p0, p1⟩ := two_set w2 Q a b h0 h1
  have s1 := G1.size
  have hB1 := below_of_grown hB G1 hQ
  generalize (w2.setCell ⟨Q, 0, none⟩ a).setCell ⟨Q, 1, none⟩ b = W1 at *
  have hA : Below W1.heap.size W1 ((W1.alloc o1).alloc o2) := ((Below.refl _ _).alloc (Nat.le_refl _) _).alloc (by simp) _
  exact ⟨_, rfl, hB1.trans (hA.mono hB1.size), (hA.cell (p := ⟨Q, 0, none⟩) (Nat.lt_of_lt_of_le hl s1)).trans p0, (hA.cell (p := ⟨Q, 1, none⟩) (Nat.lt_of_lt_of_le hl s1)).trans p1⟩

set_option maxRecDepth 100000 in
set_option maxHeartbeats 2000000 in
theorem Target_any (w : World) (B : Nat) (kC kS kF kN kT : Value) (d : LinkD) (x : Int) (s : ByteArray) (hk : RLk (· < B) w kC kS kF kN kT d) (hB : B ≤ w.heap.size) :
    Calls Tryz.prog 15 #[.agg #[kC, kS, kF, kN, kT], .int .i64 x, .string s] w fun r w' => r = .returned (.tuple #[.agg #[.int .i64 (tgVal d x s).cls, .int .i64 (tgVal d x s).meth], .int .i64 (tgErr d x s)]) ∧ Below w.heap.size w w' := by
  have hmf : ∀ (fn : Fn) (first cap : Array Value) (w : World), (Instr.makeFunc fn first cap).run Tryz.prog w = .ok (.func fn first cap) w := fun _ _ _ _ => rfl
  have HK := mkHid hk
  obtain ⟨aC, cC, aS, cS, aF, cF, aN, cN, aT, cT, rfl, rfl, rfl, rfl, rfl⟩ := hk.agg
  clear hk
  obtain ⟨W0, hW⟩ : ∃ W0, W0 = (((w.alloc (.cells #[.slice aC d.classes.length cC, .slice aS d.supers.length cS, .slice aF d.fields.length cF, .slice aN d.names.length cN, .slice aT d.targets.length cT] 28)).alloc (.cells #[.int .i64 x] 3)).alloc (.cells #[.string s] 9)).alloc (.cells #[.int .i64 0, .int .i64 0] 40) := ⟨_, rfl⟩
  have hB0 : Below w.heap.size w W0 := hW ▸ ((((Below.refl _ _).alloc (Nat.le_refl _) _).alloc (by simp) _).alloc (by simp; omega) _).alloc (by simp; omega) _
  have hP : W0.heap[w.heap.size]? = some (.cells #[.slice aC d.classes.length cC, .slice aS d.supers.length cS, .slice aF d.fields.length cF, .slice aN d.names.length cN, .slice aT d.targets.length cT] 28 (0, 0)) := by rw [hW]; exact (Below.heap_alloc _ _ _ (by simp; omega)).trans ((Below.heap_alloc _ _ _ (by simp; omega)).trans ((Below.heap_alloc _ _ _ (by simp)).trans (heap_alloc_new w _)))
  have hQ : W0.cell? ⟨w.heap.size + 1, 0, none⟩ = some (.int .i64 x) := by rw [hW]; simp [go_sem]
  have hR : W0.cell? ⟨w.heap.size + 1 + 1, 0, none⟩ = some (.string s) := by rw [hW]; simp [go_sem]
  have hX : W0.heap[w.heap.size + 1 + 1 + 1]? = some (.cells #[.int .i64 0, .int .i64 0] 40 (0, 0)) := by
    have h := heap_alloc_new (((w.alloc (.cells #[.slice aC d.classes.length cC, .slice aS d.supers.length cS, .slice aF d.fields.length cF, .slice aN d.names.length cN, .slice aT d.targets.length cT] 28)).alloc (.cells #[.int .i64 x] 3)).alloc (.cells #[.string s] 9)) (.cells #[.int .i64 0, .int .i64 0] 40)
    rw [← hW] at h
    simpa using h
  have HB0 := mkHid hB0
  have HWE := mkHid hW
  clear hW
  go_enter Tryz.func15, Tryz.ntmps15
  go_wp2_with fail
  rw [← HWE.out]
  refine (madeT_any W0 38 _ (fun v _ => tgErr d x s = 0 ∧ v = .agg #[.int .i64 (tgAt d.classes x.toNat s).cls, .int .i64 (tgAt d.classes x.toNat s).meth]) (fun e _ => tgErr d x s = e ∧ e ≠ 0) callTarget1 ?hc ?hst).mono ?_
  case hc =>
    intro W hWb _
    have hb := HB0.out.trans (hWb.mono HB0.out.size)
    exact target1_any W B w.heap.size (w.heap.size + 1) (w.heap.size + 1 + 1) _ _ _ _ _ d x s (HK.out.kept (Kp.below (hb.mono hB))) (Nat.le_trans hB hb.size) ((hWb.block _ (lt_of hP)).trans hP) ((hWb.cell (p := ⟨w.heap.size + 1, 0, none⟩) (World.block_lt_of_cell? _ _ hQ)).trans hQ) ((hWb.cell (p := ⟨w.heap.size + 1 + 1, 0, none⟩) (World.block_lt_of_cell? _ _ hR)).trans hR)
  case hst => exact fun _ _ _ _ _ h => h
  rintro r w2 ⟨hb2, hz2, ⟨a', b', rfl, h0, hv⟩ | ⟨e, p, rfl, h1, h2⟩⟩
  · obtain ⟨ra, rb⟩ : a' = (tgAt d.classes x.toNat s).cls ∧ b' = (tgAt d.classes x.toNat s).meth := by simpa using hv
    have HR : Hid (tgVal d x s = tgAt d.classes x.toNat s ∧ tgErr d x s = 0) := ⟨if_pos h0, h0⟩
    have HV := mkHid (And.intro ra rb)
    have hX2 := (hb2.block _ (lt_of hX)).trans hX
    have r0 := cell_of hX2 0 (x := .int .i64 0) rfl
    have r1 := cell_of hX2 1 (x := .int .i64 0) rfl
    have z2 := frz_of hX2
    have lz := lt_of hX2
    have lz2 : w.heap.size + 1 + 1 < w2.heap.size := by omega
    have lz3 : w.heap.size + 1 + 1 + 1 < w2.heap.size + 1 := by omega
    have HB2 := mkHid (HB0.out.trans (hb2.mono HB0.out.size))
    clear hb2 h0 hv ra rb hP hQ hR hX hX2 HB0 HK hB0 HWE
    go_wp2_with fail
    go_region
    all_goals
      go_wp2
      obtain ⟨W9, h9, hB9, q0, q1⟩ := finTg HB2.out (by omega : w.heap.size ≤ w.heap.size + 1 + 1 + 1) (.int .i64 a') (.int .i64 b') (.cells #[.int .i64 a', .int .i64 b'] 40) (.cells #[.int .i64 0, .int .i64 0] 82) r0 r1
      rw [← h9]
      exact bodyPost_ret (v := .tuple #[.agg #[.int .i64 a', .int .i64 b'], .int .i64 0]) (by simp [results, Tryz.results15, go_sem, q0, q1]) rfl ⟨by rw [HR.out.1, HR.out.2, HV.out.1, HV.out.2], hB9.drew⟩
  · have HR : Hid (tgVal d x s = ⟨0, 0⟩ ∧ tgErr d x s = e) := ⟨if_neg (by rw [h1]; exact h2), h1⟩
    have hX2 := (hb2.block _ (lt_of hX)).trans hX
    have r0 := cell_of hX2 0 (x := .int .i64 0) rfl
    have r1 := cell_of hX2 1 (x := .int .i64 0) rfl
    have z2 := frz_of hX2
    have lz := lt_of hX2
    have lz2 : w.heap.size + 1 + 1 < w2.heap.size := by omega
    have lz3 : w.heap.size + 1 + 1 + 1 < w2.heap.size + 1 := by omega
    have HB2 := mkHid (HB0.out.trans (hb2.mono HB0.out.size))
    clear hb2 h1 h2 hP hQ hR hX hX2 HB0 HK hB0 HWE
    go_wp2_with fail
    go_region
    all_goals
      go_wp2
      obtain ⟨W9, h9, hB9, q0, q1⟩ := finTg HB2.out (by omega : w.heap.size ≤ w.heap.size + 1 + 1 + 1) (.int .i64 0) (.int .i64 0) (.cells #[.int .i64 0, .int .i64 0] 40) (.cells #[.int .i64 e, .int .i64 p] 82) r0 r1
      rw [← h9]
      exact bodyPost_ret (v := .tuple #[.agg #[.int .i64 0, .int .i64 0], .int .i64 e]) (by simp [results, Tryz.results15, go_sem, q0, q1]) rfl ⟨by rw [HR.out.1, HR.out.2], hB9.drew⟩
end Go.Proofs.YtkpklkhkhhlifabGreat
