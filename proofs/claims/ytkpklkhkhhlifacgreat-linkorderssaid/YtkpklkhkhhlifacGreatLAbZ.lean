/- The contract of Above. -/
import Derived.Test.YtkpklkhkhhlifacGreatLIs
import Derived.Test.YtkpklkhkhhlifacGreatLHg
namespace Go.Proofs.YtkpklkhkhhlifacGreat
open Go.RowKit Go.Maps

theorem underB_mem {l : List ClassD} {x z : Nat} : underB l (x : Int) (z : Int) = true ↔ z ∈ lineOf l x := by
  rw [underB, List.any_eq_true]
  constructor
  · rintro ⟨y, hy, e⟩
    have e' : y = z := by have := of_decide_eq_true e; omega
    subst e'
    exact hy
  · exact fun hz => ⟨z, hz, by simp⟩
theorem chkRes_ok {d : LinkD} {ns : List Int} (h : chkRes d ns = 0) : okLk d = true := by
  unfold chkRes at h
  split at h
  · assumption
  · cases h

set_option maxHeartbeats 1000000 in
theorem above_any (w : World) (B b : Nat) (l : List ClassD) (vC vS vF vN vT vL : Value) (Bm : Nat) (hw : Web B w b l vC vS vF vN vT vL Bm) (hh : Hang l) (x y : Int) (hx : 0 ≤ x) (hx' : x < l.length) (hy : 0 ≤ y) (hy' : y < l.length) :
    Calls Tryz.prog 19 #[.pointer (some ⟨b, 0, none⟩), .int .i64 x, .int .i64 y] w fun r w' => r = .returned (.int .i64 (aboveG l x.toNat y.toNat)) ∧ w' = w := by
  obtain ⟨x, rfl⟩ := Int.eq_ofNat_of_zero_le hx
  obtain ⟨y, rfl⟩ := Int.eq_ofNat_of_zero_le hy
  have hx2 : x < l.length := by omega
  have hy2 : y < l.length := by omega
  have HIS : Hid (∀ n : Nat, Calls Tryz.prog 16 #[.pointer (some ⟨b, 0, none⟩), .int .i64 (y : Int), .int .i64 (n : Int)] w fun r w' => r = .returned (.bool (underB l y n)) ∧ w' = w) := fun n => is_any w B b l _ _ _ _ _ _ Bm hw y n hy hy'
  have hlS : ((List.range l.length).map (supAt l)).length = l.length := by simp
  have HGS : Hid (∀ (k : Nat) (hk : k < ((List.range l.length).map (supAt l)).length), ((List.range l.length).map (supAt l))[k] = supAt l k) := fun k hk => by simp
  have c1 := cell_of hw.blk 1 (x := vS) rfl
  have HSS := mkHid hw.sS
  obtain ⟨aS, cS, hvS, -⟩ := hw.sS
  rw [hlS] at hvS
  subst hvS
  generalize (List.range l.length).map (supAt l) = lS at *
  have HH := mkHid hh
  have HX := mkHid (And.intro hx2 hy2)
  have HLS := mkHid hlS
  have HAF : Hid (∀ n : Nat, Abv l x y n → aboveG l x y = n) := fun n hn => hn.eq hh
  have hll : l.length ≤ 9223372036854775807 := by obtain ⟨a, c, -, -, h, -⟩ := hw.sC; unfold maxLen at h; omega
  clear hw hh hx hx' hy hy' hx2 hy2 hlS
  go_enter Tryz.func19, Tryz.ntmps19
  go_wp2_with fail
  go_loopw [7] (fun v wx => ∃ n : Nat, v = .int .i64 n ∧ n < l.length ∧ wx = w ∧ Hid (∃ R, lineOf l x = lineOf l n ++ R ∧ ∀ u ∈ R, u ∉ lineOf l y)) (fun v _ => (lineOf l (intOf v).toNat).length)
  case atStart => exact ⟨x, rfl, HX.out.1, rfl, ⟨[], by simp, fun u hu => by cases hu⟩⟩
  case round =>
    obtain ⟨n, rfl, hn, rfl, HR⟩ := hrel
    by_cases hu : underB l y n = true
    · have HE : Hid (aboveG l x y = n) := HAF.out n ⟨hn, HR.out, underB_mem.1 hu⟩
      have HT := mkHid ((HIS.out n).mono (R' := fun r w' => r = .returned (.bool true) ∧ w' = wr) fun r w' ⟨h1, h2⟩ => ⟨by rw [h1, hu], h2⟩)
      clear hu HIS
      go_wp2_with (go_at_call 16; refine HT.out.mono ?_; rintro r w1 ⟨rfl, rfl⟩)
      go_ret
      exact ⟨by have h := HE.out; show _ = Ending.returned (.int .i64 ((aboveG l x y : Nat) : Int)); rw [h]; rfl, rfl⟩
    · have hu' : underB l y n = false := Bool.eq_false_iff.2 hu
      have hne : n ∉ lineOf l y := fun h => hu (underB_mem.2 h)
      obtain ⟨m, hs, hm⟩ : ∃ m : Nat, supAt l n = m ∧ m < l.length := by
        rcases HH.out.sup hn with ⟨_, h⟩ | h
        · have := HH.out.root y HX.out.2
          rw [← h] at this
          exact absurd this hne
        · exact h
      have hst := (line_step HH.out.none hn hs).1
      have HR2 : Hid (∃ R, lineOf l x = lineOf l m ++ R ∧ ∀ u ∈ R, u ∉ lineOf l y) := by
        obtain ⟨R, e, hR⟩ := HR.out
        exact ⟨n :: R, by rw [e, hst, List.append_assoc]; rfl, fun u hu => by
          rcases List.mem_cons.1 hu with rfl | h
          · exact hne
          · exact hR u h⟩
      have HM : Hid ((lineOf l m).length < (lineOf l n).length) := by show _ < _; rw [hst]; simp
      have HT := mkHid ((HIS.out n).mono (R' := fun r w' => r = .returned (.bool false) ∧ w' = wr) fun r w' ⟨h1, h2⟩ => ⟨by rw [h1, hu'], h2⟩)
      obtain ⟨bn, on, rfl, hbn, en⟩ := HSS.out.atI n (by have := HLS.out; omega)
      rw [HGS.out n (by have := HLS.out; omega), hs] at en
      have hn0 : (0 : Int) ≤ n := by omega
      have hn1 : (n : Int) < l.length := by omega
      clear hu hu' hne hst HIS hs
      go_wp2_with (go_at_call 16; refine HT.out.mono ?_; rintro r w1 ⟨rfl, rfl⟩)
      go_roundw
      case rel => exact ⟨m, rfl, hm, (by first | rfl | trivial), HR2.out⟩
      case measure => simp [intOf]; exact HM.out

set_option maxRecDepth 100000 in
set_option maxHeartbeats 2000000 in
theorem above1_any (w : World) (B P Q R : Nat) (kC kS kF kN kT : Value) (d : LinkD) (x y : Int) (hk : RLk (· < B) w kC kS kF kN kT d) (hB : B ≤ w.heap.size)
    (hP : w.heap[P]? = some (.cells #[kC, kS, kF, kN, kT] 29 (0, 0))) (hQ : w.cell? ⟨Q, 0, none⟩ = some (.int .i64 x)) (hR : w.cell? ⟨R, 0, none⟩ = some (.int .i64 y)) :
    Calls Tryz.prog 18 #[.pointer (some ⟨P, 0, none⟩), .pointer (some ⟨Q, 0, none⟩), .pointer (some ⟨R, 0, none⟩)] w fun r w' => Below w.heap.size w w' ∧
      ((∃ v, r = .returned v ∧ (∃ n, v = .int .i64 n) ∧ (chkRes d [x, y] = 0 ∧ v = .int .i64 (aboveG d.classes x.toNat y.toNat))) ∨ ∃ e p, r = .panicked [wrongV e p] ∧ (chkRes d [x, y] = e ∧ e ≠ 0)) := by
  have hPl := lt_of hP
  have hQl := World.block_lt_of_cell? w _ hQ
  have hRl := World.block_lt_of_cell? w _ hR
  have c0 := cell_of hP 0 (x := kC) rfl
  have c1 := cell_of hP 1 (x := kS) rfl
  have c2 := cell_of hP 2 (x := kF) rfl
  have c3 := cell_of hP 3 (x := kN) rfl
  have c4 := cell_of hP 4 (x := kT) rfl
  have HCK : Hid (∀ W t, Below w.heap.size w W → W.heap[w.heap.size]? = some (.cells #[.int .i64 x, .int .i64 y] t (0, 0)) → Calls Tryz.prog 15 #[.agg #[kC, kS, kF, kN, kT], .slice (some ⟨w.heap.size, 0, none⟩) 2 2] W fun r w' => Below w.heap.size w w' ∧
      ((chkRes d [x, y] = 0 ∧ ∃ b vS vF vN vT vL Bm, r = .returned (.pointer (some ⟨b, 0, none⟩)) ∧ Web w'.heap.size w' b d.classes kC vS vF vN vT vL Bm) ∨ (chkRes d [x, y] ≠ 0 ∧ r = .panicked [wrongV (chkRes d [x, y]) 0]))) := fun W t hW hh =>
    (checked_any W B kC kS kF kN kT d (hk.kept (Kp.below (hW.mono hB))) (Nat.le_trans hB hW.size) (fun _ => True) _ [x, y] (two_I hh)).mono fun r w' ⟨hb, h⟩ => ⟨hW.trans (hb.mono hW.size), h.imp (fun ⟨h1, _, h3⟩ => ⟨h1, h3⟩) id⟩
  obtain ⟨aC, cC, aS, cS, aF, cF, aN, cN, aT, cT, rfl, rfl, rfl, rfl, rfl⟩ := hk.agg
  have HNW : Hid (∀ t, (w.alloc (.cells #[.int .i64 x, .int .i64 y] t)).heap[w.heap.size]? = some (.cells #[.int .i64 x, .int .i64 y] t (0, 0))) := fun t => heap_alloc_new w _
  clear hk hP
  by_cases hc : chkRes d [x, y] = 0
  · have hin : inB d x = true ∧ inB d y = true := by
      unfold chkRes at hc
      split at hc
      · split at hc
        · rename_i h; simpa using h
        · cases hc
      · cases hc
    have hx0 : (0 ≤ x ∧ x < d.classes.length) ∧ (0 ≤ y ∧ y < d.classes.length) := ⟨by have := hin.1; simpa [inB] using this, by have := hin.2; simpa [inB] using this⟩
    have HH := mkHid (Hang.lk (chkRes_ok hc))
    have HX := mkHid hx0
    have HCK2 : Hid (∀ W t, Below w.heap.size w W → W.heap[w.heap.size]? = some (.cells #[.int .i64 x, .int .i64 y] t (0, 0)) → Calls Tryz.prog 15 #[.agg #[.slice aC d.classes.length cC, .slice aS d.supers.length cS, .slice aF d.fields.length cF, .slice aN d.names.length cN, .slice aT d.targets.length cT], .slice (some ⟨w.heap.size, 0, none⟩) 2 2] W fun r w' => ∃ b, r = .returned (.pointer (some ⟨b, 0, none⟩)) ∧ Below w.heap.size w w' ∧ Calls Tryz.prog 19 #[.pointer (some ⟨b, 0, none⟩), .int .i64 x, .int .i64 y] w' fun r w'' => r = .returned (.int .i64 (aboveG d.classes x.toNat y.toNat)) ∧ w'' = w') := fun W t hW hh => (HCK.out W t hW hh).mono fun r w' ⟨hb, h⟩ => by
      rcases h with ⟨_, b, _, _, _, _, _, _, h1, h2⟩ | ⟨h, _⟩
      · exact ⟨b, h1, hb, above_any w' _ b _ _ _ _ _ _ _ _ h2 HH.out x y HX.out.1.1 HX.out.1.2 HX.out.2.1 HX.out.2.2⟩
      · exact absurd hc h
    have HR := mkHid hc
    clear HCK hc hin hx0
    go_enter Tryz.func18, Tryz.ntmps18
    go_wp2_with fail
    go_region_held3 (fun W' => ∀ p : Addr, p.block < w.heap.size → W'.cell? p = w.cell? p) (exact fun p hp => Below.cell (B := w.heap.size) (w := w) (by repeat (first | assumption | exact Below.refl _ _ | refine Below.drew ?_ | refine Below.alloc ?_ (by simp <;> omega) _)) hp) (first
      | (go_at_call 15; refine (HCK2.out _ 3 ?_ ?_).mono ?_; (first | exact (((Below.refl _ _).alloc (Nat.le_refl _) _).drew) | exact (((Below.refl _ _).drew).alloc (Nat.le_refl _) _)); (exact HNW.out _); rintro r w2 ⟨b2, rfl, hb2, hn2⟩; have HN2 := mkHid hn2; clear hn2)
      | (go_at_call 19; refine HN2.out.mono ?_; rintro r w4 ⟨rfl, rfl⟩))
    all_goals
      rename_i hS1
      clear hS1
      go_wp2_with fail
      go_ret
      exact ⟨hb2, Or.inl ⟨_, rfl, ⟨_, rfl⟩, HR.out, rfl⟩⟩
  · have HCK2 : Hid (∀ W t, Below w.heap.size w W → W.heap[w.heap.size]? = some (.cells #[.int .i64 x, .int .i64 y] t (0, 0)) → Calls Tryz.prog 15 #[.agg #[.slice aC d.classes.length cC, .slice aS d.supers.length cS, .slice aF d.fields.length cF, .slice aN d.names.length cN, .slice aT d.targets.length cT], .slice (some ⟨w.heap.size, 0, none⟩) 2 2] W fun r w' => r = .panicked [wrongV (chkRes d [x, y]) 0] ∧ Below w.heap.size w w') := fun W t hW hh => (HCK.out W t hW hh).mono fun r w' ⟨hb, h⟩ => by
      rcases h with ⟨h, _⟩ | ⟨_, h⟩
      · exact absurd h hc
      · exact ⟨h, hb⟩
    have HNZ := mkHid hc
    clear HCK hc
    go_enter Tryz.func18, Tryz.ntmps18
    go_wp2_with fail
    refine wp_region_held_drew (S := fun W' => ∀ p : Addr, p.block < w.heap.size → W'.cell? p = w.cell? p) (by kernel_rfl) (fun p hp => rfl) fun hH => ?_
    refine wpAnyH_take (i := 0) (v := .agg #[.slice aC d.classes.length cC, .slice aS d.supers.length cS, .slice aF d.fields.length cF, .slice aN d.names.length cN, .slice aT d.targets.length cT]) rfl (by kernel_rfl) (by kernel_rfl) (by kernel_rfl) (fun _ _ _ h => h) (Or.inl ⟨by rfl, ?_⟩) hH ?_
    · intro w hSw
      go_simp
    refine wpAnyH_take (i := 1) (v := .int .i64 x) rfl (by kernel_rfl) (by kernel_rfl) (by kernel_rfl) (fun _ _ _ h => h) (Or.inl ⟨by rfl, ?_⟩) hH ?_
    · intro w hSw
      go_simp
    refine wpAnyH_take (i := 2) (v := .int .i64 y) rfl (by kernel_rfl) (by kernel_rfl) (by kernel_rfl) (fun _ _ _ h => h) (Or.inl ⟨by rfl, ?_⟩) hH ?_
    · intro w hSw
      go_simp
    refine wpAnyH_take (i := 5) (v := .int .i64 x) rfl (by kernel_rfl) (by kernel_rfl) (by kernel_rfl) (fun _ _ _ h => h) (Or.inl ⟨by rfl, ?_⟩) hH ?_
    · intro w hSw
      go_simp
    refine wpAnyH_take (i := 6) (v := .int .i64 y) rfl (by kernel_rfl) (by kernel_rfl) (by kernel_rfl) (fun _ _ _ h => h) (Or.inl ⟨by rfl, ?_⟩) hH ?_
    · intro w hSw
      go_simp
    refine wpAnyH_ready (rs := [3]) (by kernel_rfl) (by simp) ?_
    refine AllReadyH.cons rfl (fun K hK => ?_) AllReadyH.nil
    go_simp
    refine hK.out _ _ (fun p hp => Below.cell (B := w.heap.size) (w := w) (((Below.refl _ _).drew).alloc (Nat.le_refl _) _) hp) fun _ => ?_
    refine wpAnyH_ready (rs := [4]) (by kernel_rfl) (by simp) ?_
    refine AllReadyH.cons rfl (fun K' hK' => ?_) AllReadyH.nil
    go_simp
    refine (HCK2.out _ 3 (((Below.refl _ _).drew).alloc (Nat.le_refl _) _) (HNW.out _)).mono ?_
    rintro r w2 ⟨rfl, hb2⟩
    exact ⟨rfl, hb2, Or.inr ⟨_, _, rfl, rfl, HNZ.out⟩⟩

theorem callAbove1 (args : Array Value) (w : World) : (callFunc 18 args).run Tryz.prog w = .ok (.enter 18 args) w := by kernel_rfl
def aboveVal (d : LinkD) (x y : Int) : Int := if chkRes d [x, y] = 0 then aboveG d.classes x.toNat y.toNat else 0
set_option maxHeartbeats 2000000 in
theorem Above_any (w : World) (B : Nat) (kC kS kF kN kT : Value) (d : LinkD) (x y : Int) (hk : RLk (· < B) w kC kS kF kN kT d) (hB : B ≤ w.heap.size) :
    Calls Tryz.prog 8 #[.agg #[kC, kS, kF, kN, kT], .int .i64 x, .int .i64 y] w fun r w' => r = .returned (.tuple #[.int .i64 (aboveVal d x y), .int .i64 (chkRes d [x, y])]) ∧ Below w.heap.size w w' := by
  have hmf : ∀ (fn : Fn) (first cap : Array Value) (w : World), (Instr.makeFunc fn first cap).run Tryz.prog w = .ok (.func fn first cap) w := fun _ _ _ _ => rfl
  have HK := mkHid hk
  obtain ⟨aC, cC, aS, cS, aF, cF, aN, cN, aT, cT, rfl, rfl, rfl, rfl, rfl⟩ := hk.agg
  clear hk
  go_enter Tryz.func8, Tryz.ntmps8
  go_wp2_with fail
  generalize hW : ((w.alloc (.cells #[.slice aC d.classes.length cC, .slice aS d.supers.length cS, .slice aF d.fields.length cF, .slice aN d.names.length cN, .slice aT d.targets.length cT] 29)).alloc (.cells #[.int .i64 x] 3)).alloc (.cells #[.int .i64 y] 3) = W0
  have hB0 : Below w.heap.size w W0 := hW ▸ ((((Below.refl _ _).alloc (Nat.le_refl _) _).alloc (by simp) _).alloc (by simp; omega) _)
  have hP : W0.heap[w.heap.size]? = some (.cells #[.slice aC d.classes.length cC, .slice aS d.supers.length cS, .slice aF d.fields.length cF, .slice aN d.names.length cN, .slice aT d.targets.length cT] 29 (0, 0)) := by rw [← hW]; exact (Below.heap_alloc _ _ _ (by simp; omega)).trans ((Below.heap_alloc _ _ _ (by simp)).trans (heap_alloc_new w _))
  have hQ : W0.cell? ⟨w.heap.size + 1, 0, none⟩ = some (.int .i64 x) := by rw [← hW]; simp [go_sem]
  have hR : W0.cell? ⟨w.heap.size + 1 + 1, 0, none⟩ = some (.int .i64 y) := by rw [← hW]; simp [go_sem]
  have HB0 := mkHid hB0
  refine (madeI_any W0 18 _ (fun v _ => chkRes d [x, y] = 0 ∧ v = .int .i64 (aboveG d.classes x.toNat y.toNat)) (fun e _ => chkRes d [x, y] = e ∧ e ≠ 0) callAbove1 ?hc ?hst).mono ?_
  case hc =>
    intro W hWb _
    have hb := HB0.out.trans (hWb.mono HB0.out.size)
    exact above1_any W B w.heap.size (w.heap.size + 1) (w.heap.size + 1 + 1) _ _ _ _ _ d x y (HK.out.kept (Kp.below (hb.mono hB))) (Nat.le_trans hB hb.size) ((hWb.block _ (lt_of hP)).trans hP) ((hWb.cell (p := ⟨w.heap.size + 1, 0, none⟩) (World.block_lt_of_cell? _ _ hQ)).trans hQ) ((hWb.cell (p := ⟨w.heap.size + 1 + 1, 0, none⟩) (World.block_lt_of_cell? _ _ hR)).trans hR)
  case hst => exact fun _ _ _ _ _ h => h
  rintro r w2 ⟨hb2, hz2, ⟨v, rfl, -, h0, rfl⟩ | ⟨e, p, rfl, h1, h2⟩⟩
  · have HBF := mkHid (fun o => (HB0.out.trans (hb2.mono HB0.out.size)).alloc (Nat.le_trans HB0.out.size hb2.size) o)
    have HR : Hid (aboveVal d x y = aboveG d.classes x.toNat y.toNat ∧ chkRes d [x, y] = 0) := ⟨if_pos h0, h0⟩
    clear hb2 h0 hP hQ hR hW hB0 HK HB0
    go_wp2_with fail
    go_quiet (fail)
    go_wp2_with fail
    exact bodyPost_ret (v := .tuple #[.int .i64 (aboveG d.classes x.toNat y.toNat), .int .i64 0]) (by simp [results, Tryz.results8, go_sem]) rfl ⟨by rw [HR.out.1, HR.out.2], below_dn (HBF.out _) _⟩
  · have HBF := mkHid (fun o => (HB0.out.trans (hb2.mono HB0.out.size)).alloc (Nat.le_trans HB0.out.size hb2.size) o)
    have HR : Hid (aboveVal d x y = 0 ∧ chkRes d [x, y] = e) := ⟨if_neg (by rw [h1]; exact h2), h1⟩
    clear hb2 h1 h2 hP hQ hR hW hB0 HK HB0
    go_wp2_with fail
    go_quiet (fail)
    go_wp2_with fail
    exact bodyPost_ret (v := .tuple #[.int .i64 0, .int .i64 e]) (by simp [results, Tryz.results8, go_sem]) rfl ⟨by rw [HR.out.1, HR.out.2], below_dn (HBF.out _) _⟩
end Go.Proofs.YtkpklkhkhhlifacGreat
