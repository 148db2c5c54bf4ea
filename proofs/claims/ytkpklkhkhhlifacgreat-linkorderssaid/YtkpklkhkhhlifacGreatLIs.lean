/- The contract of Is. -/
import Derived.Test.YtkpklkhkhhlifacGreatLFi
namespace Go.Proofs.YtkpklkhkhhlifacGreat
open Go.RowKit Go.Maps

theorem two_I {W : World} {g t : Nat} {a b : Int} (h : W.heap[g]? = some (.cells #[.int .i64 a, .int .i64 b] t (0, 0))) : SL 1 RI (fun _ => True) W (.slice (some ⟨g, 0, none⟩) 2 2) [a, b] := by
  refine ⟨some ⟨g, 0, none⟩, 2, rfl, Nat.le_refl _, by unfold maxLen; simp, fun k hk => ?_⟩
  have hk' : k < 2 := by simpa using hk
  rcases (by omega : k = 0 ∨ k = 1) with rfl | rfl
  · refine ⟨g, 0, [.int .i64 a], rfl, trivial, lt_of h, rfl, fun j hj => ?_, rfl⟩
    have : j = 0 := by omega
    subst this
    exact cell_of h 0 rfl
  · refine ⟨g, 0, [.int .i64 b], rfl, trivial, lt_of h, rfl, fun j hj => ?_, rfl⟩
    have : j = 0 := by omega
    subst this
    exact cell_of h 1 rfl
def underB (l : List ClassD) (a b : Int) : Bool := (lineOf l a.toNat).any fun x : Nat => decide ((x : Int) = b)

set_option maxHeartbeats 1000000 in
theorem is_any (w : World) (B b : Nat) (l : List ClassD) (vC vS vF vN vT vL : Value) (Bm : Nat) (hw : Web B w b l vC vS vF vN vT vL Bm) (x y : Int) (hx : 0 ≤ x) (hx' : x < l.length) :
    Calls Tryz.prog 16 #[.pointer (some ⟨b, 0, none⟩), .int .i64 x, .int .i64 y] w fun r w' => r = .returned (.bool (underB l x y)) ∧ w' = w := by
  obtain ⟨n, rfl⟩ := Int.eq_ofNat_of_zero_le hx
  have hlL : ((List.range l.length).map (lineOf l)).length = l.length := by simp
  have c6 := cell_of hw.blk 6 (x := vL) rfl
  obtain ⟨aL, cL, hvL, -⟩ := hw.sL
  rw [hlL] at hvL
  subst hvL
  obtain ⟨bL, oL, aU, cU, rfl, hbL, e1, sU⟩ := hw.sL.atSl n (by omega)
  have g1 : ((List.range l.length).map (lineOf l))[n]'(by omega) = lineOf l n := by simp
  rw [g1] at e1 sU
  have HC := mkHid (containsInt_any w (· < B) _ _ y sU)
  have HU : Hid (underB l n y = (lineOf l n).any fun x : Nat => decide ((x : Int) = y)) := rfl
  generalize (lineOf l n).any (fun x : Nat => decide ((x : Int) = y)) = rv at *
  clear sU g1 hlL hw
  go_enter Tryz.func16, Tryz.ntmps16
  go_wp2_with (go_at_call 34; refine HC.out.mono ?_; rintro r w1 ⟨rfl, rfl⟩)
  go_ret
  exact ⟨by rw [HU.out]; rfl, rfl⟩

set_option maxRecDepth 100000 in
set_option maxHeartbeats 2000000 in
theorem is1_any (w : World) (B P Q R : Nat) (kC kS kF kN kT : Value) (d : LinkD) (x y : Int) (hk : RLk (· < B) w kC kS kF kN kT d) (hB : B ≤ w.heap.size)
    (hP : w.heap[P]? = some (.cells #[kC, kS, kF, kN, kT] 29 (0, 0))) (hQ : w.cell? ⟨Q, 0, none⟩ = some (.int .i64 x)) (hR : w.cell? ⟨R, 0, none⟩ = some (.int .i64 y)) :
    Calls Tryz.prog 14 #[.pointer (some ⟨P, 0, none⟩), .pointer (some ⟨Q, 0, none⟩), .pointer (some ⟨R, 0, none⟩)] w fun r w' => Below w.heap.size w w' ∧
      ((∃ v, r = .returned v ∧ (∃ n, v = .bool n) ∧ (chkRes d [x, y] = 0 ∧ v = .bool (underB d.classes x y))) ∨ ∃ e p, r = .panicked [wrongV e p] ∧ (chkRes d [x, y] = e ∧ e ≠ 0)) := by
  have hPl := lt_of hP
  have hQl := World.block_lt_of_cell? w _ hQ
  have hRl := World.block_lt_of_cell? w _ hR
  have c0 := cell_of hP 0 (x := kC) rfl
  have c1 := cell_of hP 1 (x := kS) rfl
  have c2 := cell_of hP 2 (x := kF) rfl
  have c3 := cell_of hP 3 (x := kN) rfl
  have c4 := cell_of hP 4 (x := kT) rfl
  have HCK : Hid (∀ W t, Below w.heap.size w W → W.heap[w.heap.size]? = some (.cells #[.int .i64 x, .int .i64 y] t (0, 0)) → Calls Tryz.prog 15 #[.agg #[kC, kS, kF, kN, kT], .slice (some ⟨w.heap.size, 0, none⟩) 2 2] W fun r w' => Below w.heap.size w w' ∧
      ((chkRes d [x, y] = 0 ∧ ∃ b vS vF vN vT vL Bm, r = .returned (.pointer (some ⟨b, 0, none⟩)) ∧ Web w'.heap.size w' b d.classes kC vS vF vN vT vL Bm) ∨ (chkRes d [x, y] ≠ 0 ∧ r = .panicked [wrongV (chkRes d [x, y]) 0]))) := fun W t hW hh =>
    (checked_any W B kC kS kF kN kT d (hk.kept (Kp.below (hW.mono hB))) (Nat.le_trans hB hW.size) (fun _ => True) _ [x, y] (two_I hh)).mono fun r w' ⟨hb, h⟩ => ⟨hW.trans (hb.mono hW.size), h.imp (fun ⟨h1, _, h3⟩ => ⟨h1, h3⟩) id⟩
  obtain ⟨aC, cC, aS, cS, aF, cF, aN, cN, aT, cT, rfl, rfl, rfl, rfl, rfl⟩ := hk.agg
  have HNW : Hid (∀ t, (w.alloc (.cells #[.int .i64 x, .int .i64 y] t)).heap[w.heap.size]? = some (.cells #[.int .i64 x, .int .i64 y] t (0, 0))) := fun t => heap_alloc_new w _
  clear hk hP
  by_cases hc : chkRes d [x, y] = 0
  · have hin : inB d x = true ∧ inB d y = true := by
      unfold chkRes at hc
      split at hc
      · split at hc
        · rename_i h; simpa using h
        · cases hc
      · cases hc
    have hx0 : 0 ≤ x ∧ x < d.classes.length := by have := hin.1; simpa [inB] using this
    have HX := mkHid hx0
    have HCK2 : Hid (∀ W t, Below w.heap.size w W → W.heap[w.heap.size]? = some (.cells #[.int .i64 x, .int .i64 y] t (0, 0)) → Calls Tryz.prog 15 #[.agg #[.slice aC d.classes.length cC, .slice aS d.supers.length cS, .slice aF d.fields.length cF, .slice aN d.names.length cN, .slice aT d.targets.length cT], .slice (some ⟨w.heap.size, 0, none⟩) 2 2] W fun r w' => ∃ b, r = .returned (.pointer (some ⟨b, 0, none⟩)) ∧ Below w.heap.size w w' ∧ Calls Tryz.prog 16 #[.pointer (some ⟨b, 0, none⟩), .int .i64 x, .int .i64 y] w' fun r w'' => r = .returned (.bool (underB d.classes x y)) ∧ w'' = w') := fun W t hW hh => (HCK.out W t hW hh).mono fun r w' ⟨hb, h⟩ => by
      rcases h with ⟨_, b, _, _, _, _, _, _, h1, h2⟩ | ⟨h, _⟩
      · exact ⟨b, h1, hb, is_any w' _ b _ _ _ _ _ _ _ _ h2 x y HX.out.1 HX.out.2⟩
      · exact absurd hc h
    have HR := mkHid hc
    clear HCK hc hin hx0
    go_enter Tryz.func14, Tryz.ntmps14
    go_wp2_with fail
    go_region_held3 (fun W' => ∀ p : Addr, p.block < w.heap.size → W'.cell? p = w.cell? p) (exact fun p hp => Below.cell (B := w.heap.size) (w := w) (by repeat (first | assumption | exact Below.refl _ _ | refine Below.drew ?_ | refine Below.alloc ?_ (by simp <;> omega) _)) hp) (first
      | (go_at_call 15; refine (HCK2.out _ 3 ?_ ?_).mono ?_; (first | exact (((Below.refl _ _).alloc (Nat.le_refl _) _).drew) | exact (((Below.refl _ _).drew).alloc (Nat.le_refl _) _)); (exact HNW.out _); rintro r w2 ⟨b2, rfl, hb2, hn2⟩; have HN2 := mkHid hn2; clear hn2)
      | (go_at_call 16; refine HN2.out.mono ?_; rintro r w4 ⟨rfl, rfl⟩))
    all_goals
      rename_i hS1
      clear hS1
      go_wp2_with fail
      go_ret
      exact ⟨hb2, Or.inl ⟨_, rfl, ⟨_, rfl⟩, HR.out, rfl⟩⟩
  · have HCK2 : Hid (∀ W t, Below w.heap.size w W → W.heap[w.heap.size]? = some (.cells #[.int .i64 x, .int .i64 y] t (0, 0)) → Calls Tryz.prog 15 #[.agg #[.slice aC d.classes.length cC, .slice aS d.supers.length cS, .slice aF d.fields.length cF, .slice aN d.names.length cN, .slice aT d.targets.length cT], .slice (some ⟨w.heap.size, 0, none⟩) 2 2] W fun r w' => r = .panicked [wrongV (chkRes d [x, y]) 0] ∧ Below w.heap.size w w') := fun W t hW hh => (HCK.out W t hW hh).mono fun r w' ⟨hb, h⟩ => by
      rcases h with ⟨h, _⟩ | ⟨_, h⟩
      · exact absurd h hc
      · exact ⟨h, hb⟩
    have HNZ := mkHid hc
    clear HCK hc
    go_enter Tryz.func14, Tryz.ntmps14
    go_wp2_with fail
    refine wp_region_held_drew (S := fun W' => ∀ p : Addr, p.block < w.heap.size → W'.cell? p = w.cell? p) (by kernel_rfl) (fun p hp => rfl) fun hH => ?_
    refine wpAnyH_take (i := 0) (v := .agg #[.slice aC d.classes.length cC, .slice aS d.supers.length cS, .slice aF d.fields.length cF, .slice aN d.names.length cN, .slice aT d.targets.length cT]) rfl (by kernel_rfl) (by kernel_rfl) (by kernel_rfl) (fun _ _ _ h => h) (Or.inl ⟨by rfl, ?_⟩) hH ?_
    · intro w hSw
      go_simp
    refine wpAnyH_take (i := 1) (v := .int .i64 x) rfl (by kernel_rfl) (by kernel_rfl) (by kernel_rfl) (fun _ _ _ h => h) (Or.inl ⟨by rfl, ?_⟩) hH ?_
    · intro w hSw
      go_simp
    refine wpAnyH_take (i := 2) (v := .int .i64 y) rfl (by kernel_rfl) (by kernel_rfl) (by kernel_rfl) (fun _ _ _ h => h) (Or.inl ⟨by rfl, ?_⟩) hH ?_
    · intro w hSw
      go_simp
    refine wpAnyH_take (i := 5) (v := .int .i64 x) rfl (by kernel_rfl) (by kernel_rfl) (by kernel_rfl) (fun _ _ _ h => h) (Or.inl ⟨by rfl, ?_⟩) hH ?_
    · intro w hSw
      go_simp
    refine wpAnyH_take (i := 6) (v := .int .i64 y) rfl (by kernel_rfl) (by kernel_rfl) (by kernel_rfl) (fun _ _ _ h => h) (Or.inl ⟨by rfl, ?_⟩) hH ?_
    · intro w hSw
      go_simp
    refine wpAnyH_ready (rs := [3]) (by kernel_rfl) (by simp) ?_
    refine AllReadyH.cons rfl (fun K hK => ?_) AllReadyH.nil
    go_simp
    refine hK.out _ _ (fun p hp => Below.cell (B := w.heap.size) (w := w) (((Below.refl _ _).drew).alloc (Nat.le_refl _) _) hp) fun _ => ?_
    refine wpAnyH_ready (rs := [4]) (by kernel_rfl) (by simp) ?_
    refine AllReadyH.cons rfl (fun K' hK' => ?_) AllReadyH.nil
    go_simp
    refine (HCK2.out _ 3 (((Below.refl _ _).drew).alloc (Nat.le_refl _) _) (HNW.out _)).mono ?_
    rintro r w2 ⟨rfl, hb2⟩
    exact ⟨rfl, hb2, Or.inr ⟨_, _, rfl, rfl, HNZ.out⟩⟩

theorem callIs1 (args : Array Value) (w : World) : (callFunc 14 args).run Tryz.prog w = .ok (.enter 14 args) w := by kernel_rfl
def isVal (d : LinkD) (x y : Int) : Bool := if chkRes d [x, y] = 0 then underB d.classes x y else false
set_option maxHeartbeats 2000000 in
theorem Is_any (w : World) (B : Nat) (kC kS kF kN kT : Value) (d : LinkD) (x y : Int) (hk : RLk (· < B) w kC kS kF kN kT d) (hB : B ≤ w.heap.size) :
    Calls Tryz.prog 7 #[.agg #[kC, kS, kF, kN, kT], .int .i64 x, .int .i64 y] w fun r w' => r = .returned (.tuple #[.bool (isVal d x y), .int .i64 (chkRes d [x, y])]) ∧ Below w.heap.size w w' := by
  have hmf : ∀ (fn : Fn) (first cap : Array Value) (w : World), (Instr.makeFunc fn first cap).run Tryz.prog w = .ok (.func fn first cap) w := fun _ _ _ _ => rfl
  have HK := mkHid hk
  obtain ⟨aC, cC, aS, cS, aF, cF, aN, cN, aT, cT, rfl, rfl, rfl, rfl, rfl⟩ := hk.agg
  clear hk
  go_enter Tryz.func7, Tryz.ntmps7
  go_wp2_with fail
  generalize hW : ((w.alloc (.cells #[.slice aC d.classes.length cC, .slice aS d.supers.length cS, .slice aF d.fields.length cF, .slice aN d.names.length cN, .slice aT d.targets.length cT] 29)).alloc (.cells #[.int .i64 x] 3)).alloc (.cells #[.int .i64 y] 3) = W0
  have hB0 : Below w.heap.size w W0 := hW ▸ ((((Below.refl _ _).alloc (Nat.le_refl _) _).alloc (by simp) _).alloc (by simp; omega) _)
  have hP : W0.heap[w.heap.size]? = some (.cells #[.slice aC d.classes.length cC, .slice aS d.supers.length cS, .slice aF d.fields.length cF, .slice aN d.names.length cN, .slice aT d.targets.length cT] 29 (0, 0)) := by rw [← hW]; exact (Below.heap_alloc _ _ _ (by simp; omega)).trans ((Below.heap_alloc _ _ _ (by simp)).trans (heap_alloc_new w _))
  have hQ : W0.cell? ⟨w.heap.size + 1, 0, none⟩ = some (.int .i64 x) := by rw [← hW]; simp [go_sem]
  have hR : W0.cell? ⟨w.heap.size + 1 + 1, 0, none⟩ = some (.int .i64 y) := by rw [← hW]; simp [go_sem]
  have HB0 := mkHid hB0
  refine (madeB_any W0 14 _ (fun v _ => chkRes d [x, y] = 0 ∧ v = .bool (underB d.classes x y)) (fun e _ => chkRes d [x, y] = e ∧ e ≠ 0) callIs1 ?hc ?hst).mono ?_
  case hc =>
    intro W hWb _
    have hb := HB0.out.trans (hWb.mono HB0.out.size)
    exact is1_any W B w.heap.size (w.heap.size + 1) (w.heap.size + 1 + 1) _ _ _ _ _ d x y (HK.out.kept (Kp.below (hb.mono hB))) (Nat.le_trans hB hb.size) ((hWb.block _ (lt_of hP)).trans hP) ((hWb.cell (p := ⟨w.heap.size + 1, 0, none⟩) (World.block_lt_of_cell? _ _ hQ)).trans hQ) ((hWb.cell (p := ⟨w.heap.size + 1 + 1, 0, none⟩) (World.block_lt_of_cell? _ _ hR)).trans hR)
  case hst => exact fun _ _ _ _ _ h => h
  rintro r w2 ⟨hb2, hz2, ⟨v, rfl, -, h0, rfl⟩ | ⟨e, p, rfl, h1, h2⟩⟩
  · have HBF := mkHid (fun o => (HB0.out.trans (hb2.mono HB0.out.size)).alloc (Nat.le_trans HB0.out.size hb2.size) o)
    have HR : Hid (isVal d x y = underB d.classes x y ∧ chkRes d [x, y] = 0) := ⟨if_pos h0, h0⟩
    clear hb2 h0 hP hQ hR hW hB0 HK HB0
    go_wp2_with fail
    go_quiet (fail)
    go_wp2_with fail
    exact bodyPost_ret (v := .tuple #[.bool (underB d.classes x y), .int .i64 0]) (by simp [results, Tryz.results7, go_sem]) rfl ⟨by rw [HR.out.1, HR.out.2], below_dn (HBF.out _) _⟩
  · have HBF := mkHid (fun o => (HB0.out.trans (hb2.mono HB0.out.size)).alloc (Nat.le_trans HB0.out.size hb2.size) o)
    have HR : Hid (isVal d x y = false ∧ chkRes d [x, y] = e) := ⟨if_neg (by rw [h1]; exact h2), h1⟩
    clear hb2 h1 h2 hP hQ hR hW hB0 HK HB0
    go_wp2_with fail
    go_quiet (fail)
    go_wp2_with fail
    exact bodyPost_ret (v := .tuple #[.bool false, .int .i64 e]) (by simp [results, Tryz.results7, go_sem]) rfl ⟨by rw [HR.out.1, HR.out.2], below_dn (HBF.out _) _⟩
end Go.Proofs.YtkpklkhkhhlifacGreat
