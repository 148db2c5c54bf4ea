/- The contracts of Find and Is. -/
import Derived.Test.YtkhconnebiiboaaGreatDoorJLTieVkG
import Derived.Deep.RegionHeld3
import Derived.Test.YtkhconnebiiboaaGreatDoorJVkNVkF
import Derived.Test.YtkhconnebiiboaaGreatDoorJVmKVmC
import Derived.Test.YtkhconnebiiboaaGreatDoorCdDecode
import Derived.KernelRfl
import Derived.Test.YtkhconnebiiboaaGreatDoorVkJ
import Derived.Test.YtkhconnebiiboaaGreatDoorJLMadeVnK
namespace Go.Proofs.YtkhconnebiiboaaGreatDoor
open Go.RowKit Go.Maps

theorem find_any (w : World) (b : Nat) (l : List ClassD) (s : ByteArray) (hN : Nums w b l) (hs : s.size ≤ maxLen) :
    Calls Tryz.prog 29 #[.pointer (some ⟨b, 0, none⟩), .string s] w fun r w' => w' = w ∧ ((0 ≤ num l s ∧ r = .returned (.int .i64 (num l s))) ∨ (num l s < 0 ∧ r = .panicked [wrongV 5 0])) := by
  have HN := mkHid (numberN w b l s hN hs)
  clear hN hs
  go_enter Tryz.func29, Tryz.ntmps29
  go_wp2_with (go_at_call 61; refine HN.out.mono ?_; rintro r w1 ⟨rfl, rfl⟩)
  refine (demand_any _ _ _).mono ?_
  rintro r w3 ⟨rfl, ⟨hb, rfl⟩ | ⟨hb, rfl⟩⟩
  · exact ⟨rfl, rfl, Or.inr ⟨by have h := of_decide_eq_false hb; omega, rfl⟩⟩
  · have hb' : 0 ≤ num l s := of_decide_eq_true hb
    have HB := mkHid hb'
    clear hb'
    clear hb
    go_wp2_with fail
    go_ret
    exact ⟨rfl, Or.inl ⟨HB.out, rfl⟩⟩

def findErr (d : LinkD) (s : ByteArray) : Int := if chkRes d [] = 0 then (if 0 ≤ num d.classes s then 0 else 5) else chkRes d []
theorem nilSL (M : Nat → Prop) (w : World) : SL 1 RI M w (.slice none 0 0) [] := ⟨none, 0, rfl, Nat.le_refl _, by unfold maxLen; simp, fun k hk => by cases hk⟩

set_option maxRecDepth 100000 in
set_option maxHeartbeats 2000000 in
theorem find1_any (w : World) (B P Q : Nat) (kC kS kF kN kT : Value) (d : LinkD) (s : ByteArray) (hk : RLk (· < B) w kC kS kF kN kT d) (hB : B ≤ w.heap.size) (hs : s.size ≤ maxLen)
    (hP : w.heap[P]? = some (.cells #[kC, kS, kF, kN, kT] 31 (0, 0))) (hQ : w.cell? ⟨Q, 0, none⟩ = some (.string s)) :
    Calls Tryz.prog 27 #[.pointer (some ⟨P, 0, none⟩), .pointer (some ⟨Q, 0, none⟩)] w fun r w' => Below w.heap.size w w' ∧
      ((∃ v, r = .returned v ∧ (∃ n, v = .int .i64 n) ∧ (findErr d s = 0 ∧ v = .int .i64 (num d.classes s))) ∨ ∃ e p, r = .panicked [wrongV e p] ∧ (findErr d s = e ∧ e ≠ 0)) := by
  have hPl := lt_of hP
  have hQl := World.block_lt_of_cell? w _ hQ
  have c0 := cell_of hP 0 (x := kC) rfl
  have c1 := cell_of hP 1 (x := kS) rfl
  have c2 := cell_of hP 2 (x := kF) rfl
  have c3 := cell_of hP 3 (x := kN) rfl
  have c4 := cell_of hP 4 (x := kT) rfl
  have HCK : Hid (∀ W, Below w.heap.size w W → Calls Tryz.prog 28 #[.agg #[kC, kS, kF, kN, kT], .slice none 0 0] W fun r w' => Below w.heap.size w w' ∧
      ((chkRes d [] = 0 ∧ ∃ b, r = .returned (.pointer (some ⟨b, 0, none⟩)) ∧ Nums w' b d.classes) ∨ (chkRes d [] ≠ 0 ∧ r = .panicked [wrongV (chkRes d []) 0]))) := fun W hW =>
    (checked_any W B kC kS kF kN kT d (hk.kept (Kp.below (hW.mono hB))) (Nat.le_trans hB hW.size) (fun _ => True) _ [] (nilSL _ _)).mono fun r w' ⟨hb, h⟩ => ⟨hW.trans (hb.mono hW.size), h.imp (fun ⟨h1, _, b, _, _, _, _, _, _, h3, h4⟩ => ⟨h1, b, h3, h4.nums⟩) id⟩
  obtain ⟨aC, cC, aS, cS, aF, cF, aN, cN, aT, cT, rfl, rfl, rfl, rfl, rfl⟩ := hk.agg
  have HS := mkHid hs
  clear hk hP hs
  by_cases hc : chkRes d [] = 0
  · have HFE : Hid (findErr d s = if 0 ≤ num d.classes s then 0 else 5) := by show findErr d s = _; rw [findErr, if_pos hc]
    have HCK2 : Hid (∀ W, Below w.heap.size w W → Calls Tryz.prog 28 #[.agg #[.slice aC d.classes.length cC, .slice aS d.supers.length cS, .slice aF d.fields.length cF, .slice aN d.names.length cN, .slice aT d.targets.length cT], .slice none 0 0] W fun r w' => ∃ b, r = .returned (.pointer (some ⟨b, 0, none⟩)) ∧ Below w.heap.size w w' ∧ Nums w' b d.classes) := fun W hW => (HCK.out W hW).mono fun r w' ⟨hb, h⟩ => by
      rcases h with ⟨_, b, h1, h2⟩ | ⟨h, _⟩
      · exact ⟨b, h1, hb, h2⟩
      · exact absurd hc h
    clear HCK
    go_enter Tryz.func27, Tryz.ntmps27
    go_wp2_with fail
    by_cases hn : 0 ≤ num d.classes s
    · have HR : Hid (findErr d s = 0) := HFE.out.trans (if_pos hn)
      have HF : Hid (∀ w' b, Nums w' b d.classes → Calls Tryz.prog 29 #[.pointer (some ⟨b, 0, none⟩), .string s] w' fun r w'' => w'' = w' ∧ r = .returned (.int .i64 (num d.classes s))) := fun w' b h => (find_any w' b _ s h HS.out).mono fun r w'' ⟨e, h⟩ => ⟨e, by
        rcases h with ⟨_, h⟩ | ⟨h, _⟩
        · exact h
        · omega⟩
      go_region_held3 (fun W' => ∀ p : Addr, p.block < w.heap.size → W'.cell? p = w.cell? p) (exact fun p hp => Below.cell (B := w.heap.size) (w := w) (by repeat (first | assumption | exact Below.refl _ _ | refine Below.drew ?_ | refine Below.alloc ?_ (by simp <;> omega) _)) hp) (first
        | (go_at_call 28; refine (HCK2.out _ (by first | exact Below.refl _ _ | exact (Below.refl _ _).drew)).mono ?_; rintro r w2 ⟨b2, rfl, hb2, hn2⟩; have HN2 := mkHid hn2; clear hn2)
        | (go_at_call 29; refine (HF.out _ _ HN2.out).mono ?_; rintro r w4 ⟨rfl, rfl⟩))
      all_goals
        rename_i hS1
        clear hS1
        go_wp2_with fail
        go_ret
        exact ⟨hb2, Or.inl ⟨_, rfl, ⟨_, rfl⟩, HR.out, rfl⟩⟩
    · have HR : Hid (findErr d s = 5) := HFE.out.trans (if_neg hn)
      have HF : Hid (∀ w' b, Nums w' b d.classes → Calls Tryz.prog 29 #[.pointer (some ⟨b, 0, none⟩), .string s] w' fun r w'' => w'' = w' ∧ r = .panicked [wrongV 5 0]) := fun w' b h => (find_any w' b _ s h HS.out).mono fun r w'' ⟨e, h⟩ => ⟨e, by
        rcases h with ⟨h, _⟩ | ⟨_, h⟩
        · omega
        · exact h⟩
      refine wp_region_held_drew (S := fun W' => ∀ p : Addr, p.block < w.heap.size → W'.cell? p = w.cell? p) (by kernel_rfl) (fun p hp => rfl) fun hH => ?_
      refine wpAnyH_take (i := 0) (v := .agg #[.slice aC d.classes.length cC, .slice aS d.supers.length cS, .slice aF d.fields.length cF, .slice aN d.names.length cN, .slice aT d.targets.length cT]) rfl (by kernel_rfl) (by kernel_rfl) (by kernel_rfl) (fun _ _ _ h => h) (Or.inl ⟨by rfl, ?_⟩) hH ?_
      · intro w hSw
        go_simp
      refine wpAnyH_take (i := 2) (v := .string s) rfl (by kernel_rfl) (by kernel_rfl) (by kernel_rfl) (fun _ _ _ h => h) (Or.inl ⟨by rfl, ?_⟩) hH ?_
      · intro w hSw
        go_simp
      refine wpAnyH_ready (rs := [1]) (by kernel_rfl) (by simp) ?_
      refine AllReadyH.cons rfl (fun K hK => ?_) AllReadyH.nil
      go_simp
      refine (HCK2.out _ ((Below.refl _ _).drew)).mono ?_
      rintro r w2 ⟨b2, rfl, hb2, hn2⟩
      refine hK.out _ _ (fun p hp => hb2.cell hp) fun _ => ?_
      refine wpAnyH_ready (rs := [3]) (by kernel_rfl) (by simp) ?_
      refine AllReadyH.cons rfl (fun K' hK' => ?_) AllReadyH.nil
      go_simp
      refine (HF.out _ _ hn2).mono ?_
      rintro r w4 ⟨rfl, rfl⟩
      exact ⟨rfl, hb2, Or.inr ⟨_, _, rfl, HR.out, by decide⟩⟩
  · have HR : Hid (findErr d s = chkRes d []) := by show findErr d s = _; rw [findErr, if_neg hc]
    have HCK2 : Hid (∀ W, Below w.heap.size w W → Calls Tryz.prog 28 #[.agg #[.slice aC d.classes.length cC, .slice aS d.supers.length cS, .slice aF d.fields.length cF, .slice aN d.names.length cN, .slice aT d.targets.length cT], .slice none 0 0] W fun r w' => r = .panicked [wrongV (chkRes d []) 0] ∧ Below w.heap.size w w') := fun W hW => (HCK.out W hW).mono fun r w' ⟨hb, h⟩ => by
      rcases h with ⟨h, _⟩ | ⟨_, h⟩
      · exact absurd h hc
      · exact ⟨h, hb⟩
    have HNZ := mkHid hc
    clear HCK hc
    go_enter Tryz.func27, Tryz.ntmps27
    go_wp2_with fail
    refine wp_region_held_drew (S := fun W' => ∀ p : Addr, p.block < w.heap.size → W'.cell? p = w.cell? p) (by kernel_rfl) (fun p hp => rfl) fun hH => ?_
    refine wpAnyH_take (i := 0) (v := .agg #[.slice aC d.classes.length cC, .slice aS d.supers.length cS, .slice aF d.fields.length cF, .slice aN d.names.length cN, .slice aT d.targets.length cT]) rfl (by kernel_rfl) (by kernel_rfl) (by kernel_rfl) (fun _ _ _ h => h) (Or.inl ⟨by rfl, ?_⟩) hH ?_
    · intro w hSw
      go_simp
    refine wpAnyH_take (i := 2) (v := .string s) rfl (by kernel_rfl) (by kernel_rfl) (by kernel_rfl) (fun _ _ _ h => h) (Or.inl ⟨by rfl, ?_⟩) hH ?_
    · intro w hSw
      go_simp
    refine wpAnyH_ready (rs := [1]) (by kernel_rfl) (by simp) ?_
    refine AllReadyH.cons rfl (fun K hK => ?_) AllReadyH.nil
    go_simp
    refine (HCK2.out _ ((Below.refl _ _).drew)).mono ?_
    rintro r w2 ⟨rfl, hb2⟩
    exact ⟨rfl, hb2, Or.inr ⟨_, _, rfl, HR.out, HNZ.out⟩⟩

theorem callFind1 (args : Array Value) (w : World) : (callFunc 27 args).run Tryz.prog w = .ok (.enter 27 args) w := by kernel_rfl
def findVal (d : LinkD) (s : ByteArray) : Int := if findErr d s = 0 then num d.classes s else 0
set_option maxHeartbeats 2000000 in
theorem Find_any (w : World) (B : Nat) (kC kS kF kN kT : Value) (d : LinkD) (s : ByteArray) (hk : RLk (· < B) w kC kS kF kN kT d) (hB : B ≤ w.heap.size) (hs : s.size ≤ maxLen) :
    Calls Tryz.prog 11 #[.agg #[kC, kS, kF, kN, kT], .string s] w fun r w' => r = .returned (.tuple #[.int .i64 (findVal d s), .int .i64 (findErr d s)]) ∧ Below w.heap.size w w' := by
  have hmf : ∀ (fn : Fn) (first cap : Array Value) (w : World), (Instr.makeFunc fn first cap).run Tryz.prog w = .ok (.func fn first cap) w := fun _ _ _ _ => rfl
  have HK := mkHid hk
  obtain ⟨aC, cC, aS, cS, aF, cF, aN, cN, aT, cT, rfl, rfl, rfl, rfl, rfl⟩ := hk.agg
  have HS := mkHid hs
  clear hk hs
  go_enter Tryz.func11, Tryz.ntmps11
  go_wp2_with fail
  generalize hW : (w.alloc (.cells #[.slice aC d.classes.length cC, .slice aS d.supers.length cS, .slice aF d.fields.length cF, .slice aN d.names.length cN, .slice aT d.targets.length cT] 31)).alloc (.cells #[.string s] 9) = W0
  have hB0 : Below w.heap.size w W0 := hW ▸ (((Below.refl _ _).alloc (Nat.le_refl _) _).alloc (by simp) _)
  have hP : W0.heap[w.heap.size]? = some (.cells #[.slice aC d.classes.length cC, .slice aS d.supers.length cS, .slice aF d.fields.length cF, .slice aN d.names.length cN, .slice aT d.targets.length cT] 31 (0, 0)) := by rw [← hW]; exact (Below.heap_alloc _ _ _ (by simp)).trans (heap_alloc_new w _)
  have hQ : W0.cell? ⟨w.heap.size + 1, 0, none⟩ = some (.string s) := by rw [← hW]; simp [go_sem]
  have HB0 := mkHid hB0
  refine (madeI_any W0 27 _ (fun v _ => findErr d s = 0 ∧ v = .int .i64 (num d.classes s)) (fun e _ => findErr d s = e ∧ e ≠ 0) callFind1 ?hc ?hst).mono ?_
  case hc =>
    intro W hWb _
    have hb := HB0.out.trans (hWb.mono HB0.out.size)
    exact find1_any W B w.heap.size (w.heap.size + 1) _ _ _ _ _ d s (HK.out.kept (Kp.below (hb.mono hB))) (Nat.le_trans hB hb.size) HS.out ((hWb.block _ (lt_of hP)).trans hP) ((hWb.cell (p := ⟨w.heap.size + 1, 0, none⟩) (World.block_lt_of_cell? _ _ hQ)).trans hQ)
  case hst => exact fun _ _ _ _ _ h => h
  rintro r w2 ⟨hb2, hz2, ⟨v, rfl, -, h0, rfl⟩ | ⟨e, p, rfl, h1, h2⟩⟩
  · have HBF := mkHid (fun o => (HB0.out.trans (hb2.mono HB0.out.size)).alloc (Nat.le_trans HB0.out.size hb2.size) o)
    have HR : Hid (findVal d s = num d.classes s ∧ findErr d s = 0) := ⟨if_pos h0, h0⟩
    clear hb2 h0 hP hQ hW hB0 HK HB0
    go_wp2_with fail
    go_quiet (fail)
    go_wp2_with fail
    exact bodyPost_ret (v := .tuple #[.int .i64 (num d.classes s), .int .i64 0]) (by simp [results, Tryz.results11, go_sem]) rfl ⟨by rw [HR.out.1, HR.out.2], below_dn (HBF.out _) _⟩
  · have HBF := mkHid (fun o => (HB0.out.trans (hb2.mono HB0.out.size)).alloc (Nat.le_trans HB0.out.size hb2.size) o)
    have HR : Hid (findVal d s = 0 ∧ findErr d s = e) := ⟨if_neg (by rw [h1]; exact h2), h1⟩
    clear hb2 h1 h2 hP hQ hW hB0 HK HB0
    go_wp2_with fail
    go_quiet (fail)
    go_wp2_with fail
    exact bodyPost_ret (v := .tuple #[.int .i64 0, .int .i64 e]) (by simp [results, Tryz.results11, go_sem]) rfl ⟨by rw [HR.out.1, HR.out.2], below_dn (HBF.out _) _⟩
end Go.Proofs.YtkhconnebiiboaaGreatDoor
/- The contract of Is. -/
namespace Go.Proofs.YtkhconnebiiboaaGreatDoor
open Go.RowKit Go.Maps

theorem two_I {W : World} {g t : Nat} {a b : Int} (h : W.heap[g]? = some (.cells #[.int .i64 a, .int .i64 b] t (0, 0))) : SL 1 RI (fun _ => True) W (.slice (some ⟨g, 0, none⟩) 2 2) [a, b] := by
  refine ⟨some ⟨g, 0, none⟩, 2, rfl, Nat.le_refl _, by unfold maxLen; simp, fun k hk => ?_⟩
  have hk' : k < 2 := by simpa using hk
  rcases (by omega : k = 0 ∨ k = 1) with rfl | rfl
  · refine ⟨g, 0, [.int .i64 a], rfl, trivial, lt_of h, rfl, fun j hj => ?_, rfl⟩
    have : j = 0 := by omega
    subst this
    exact cell_of h 0 rfl
  · refine ⟨g, 0, [.int .i64 b], rfl, trivial, lt_of h, rfl, fun j hj => ?_, rfl⟩
    have : j = 0 := by omega
    subst this
    exact cell_of h 1 rfl
def underB (l : List ClassD) (a b : Int) : Bool := (lineOf l a.toNat).any fun x : Nat => decide ((x : Int) = b)

set_option maxHeartbeats 1000000 in
theorem is_any (w : World) (B b : Nat) (l : List ClassD) (vC vS vF vN vT vL : Value) (Bm : Nat) (hw : Web B w b l vC vS vF vN vT vL Bm) (x y : Int) (hx : 0 ≤ x) (hx' : x < l.length) :
    Calls Tryz.prog 31 #[.pointer (some ⟨b, 0, none⟩), .int .i64 x, .int .i64 y] w fun r w' => r = .returned (.bool (underB l x y)) ∧ w' = w := by
  obtain ⟨n, rfl⟩ := Int.eq_ofNat_of_zero_le hx
  have hlL : ((List.range l.length).map (lineOf l)).length = l.length := by simp
  have c6 := cell_of hw.blk 6 (x := vL) rfl
  obtain ⟨aL, cL, hvL, -⟩ := hw.sL
  rw [hlL] at hvL
  subst hvL
  obtain ⟨bL, oL, aU, cU, rfl, hbL, e1, sU⟩ := hw.sL.atSl n (by omega)
  have g1 : ((List.range l.length).map (lineOf l))[n]'(by omega) = lineOf l n := by simp
  rw [g1] at e1 sU
  have HC := mkHid (containsInt_any w (· < B) _ _ y sU)
  have HU : Hid (underB l n y = (lineOf l n).any fun x : Nat => decide ((x : Int) = y)) := rfl
  generalize (lineOf l n).any (fun x : Nat => decide ((x : Int) = y)) = rv at *
  clear sU g1 hlL hw
  go_enter Tryz.func31, Tryz.ntmps31
  go_wp2_with (go_at_call 62; refine HC.out.mono ?_; rintro r w1 ⟨rfl, rfl⟩)
  go_ret
  exact ⟨by rw [HU.out]; rfl, rfl⟩

set_option maxRecDepth 100000 in
set_option maxHeartbeats 2000000 in
theorem is1_any (w : World) (B P Q R : Nat) (kC kS kF kN kT : Value) (d : LinkD) (x y : Int) (hk : RLk (· < B) w kC kS kF kN kT d) (hB : B ≤ w.heap.size)
    (hP : w.heap[P]? = some (.cells #[kC, kS, kF, kN, kT] 31 (0, 0))) (hQ : w.cell? ⟨Q, 0, none⟩ = some (.int .i64 x)) (hR : w.cell? ⟨R, 0, none⟩ = some (.int .i64 y)) :
    Calls Tryz.prog 30 #[.pointer (some ⟨P, 0, none⟩), .pointer (some ⟨Q, 0, none⟩), .pointer (some ⟨R, 0, none⟩)] w fun r w' => Below w.heap.size w w' ∧
      ((∃ v, r = .returned v ∧ (∃ n, v = .bool n) ∧ (chkRes d [x, y] = 0 ∧ v = .bool (underB d.classes x y))) ∨ ∃ e p, r = .panicked [wrongV e p] ∧ (chkRes d [x, y] = e ∧ e ≠ 0)) := by
  have hPl := lt_of hP
  have hQl := World.block_lt_of_cell? w _ hQ
  have hRl := World.block_lt_of_cell? w _ hR
  have c0 := cell_of hP 0 (x := kC) rfl
  have c1 := cell_of hP 1 (x := kS) rfl
  have c2 := cell_of hP 2 (x := kF) rfl
  have c3 := cell_of hP 3 (x := kN) rfl
  have c4 := cell_of hP 4 (x := kT) rfl
  have HCK : Hid (∀ W t, Below w.heap.size w W → W.heap[w.heap.size]? = some (.cells #[.int .i64 x, .int .i64 y] t (0, 0)) → Calls Tryz.prog 28 #[.agg #[kC, kS, kF, kN, kT], .slice (some ⟨w.heap.size, 0, none⟩) 2 2] W fun r w' => Below w.heap.size w w' ∧
      ((chkRes d [x, y] = 0 ∧ ∃ b vS vF vN vT vL Bm, r = .returned (.pointer (some ⟨b, 0, none⟩)) ∧ Web w'.heap.size w' b d.classes kC vS vF vN vT vL Bm) ∨ (chkRes d [x, y] ≠ 0 ∧ r = .panicked [wrongV (chkRes d [x, y]) 0]))) := fun W t hW hh =>
    (checked_any W B kC kS kF kN kT d (hk.kept (Kp.below (hW.mono hB))) (Nat.le_trans hB hW.size) (fun _ => True) _ [x, y] (two_I hh)).mono fun r w' ⟨hb, h⟩ => ⟨hW.trans (hb.mono hW.size), h.imp (fun ⟨h1, _, h3⟩ => ⟨h1, h3⟩) id⟩
  obtain ⟨aC, cC, aS, cS, aF, cF, aN, cN, aT, cT, rfl, rfl, rfl, rfl, rfl⟩ := hk.agg
  have HNW : Hid (∀ t, (w.alloc (.cells #[.int .i64 x, .int .i64 y] t)).heap[w.heap.size]? = some (.cells #[.int .i64 x, .int .i64 y] t (0, 0))) := fun t => heap_alloc_new w _
  clear hk hP
  by_cases hc : chkRes d [x, y] = 0
  · have hin : inB d x = true ∧ inB d y = true := by
      unfold chkRes at hc
      split at hc
      · split at hc
        · rename_i h; simpa using h
        · cases hc
      · cases hc
    have hx0 : 0 ≤ x ∧ x < d.classes.length := by have := hin.1; simpa [inB] using this
    have HX := mkHid hx0
    have HCK2 : Hid (∀ W t, Below w.heap.size w W → W.heap[w.heap.size]? = some (.cells #[.int .i64 x, .int .i64 y] t (0, 0)) → Calls Tryz.prog 28 #[.agg #[.slice aC d.classes.length cC, .slice aS d.supers.length cS, .slice aF d.fields.length cF, .slice aN d.names.length cN, .slice aT d.targets.length cT], .slice (some ⟨w.heap.size, 0, none⟩) 2 2] W fun r w' => ∃ b, r = .returned (.pointer (some ⟨b, 0, none⟩)) ∧ Below w.heap.size w w' ∧ Calls Tryz.prog 31 #[.pointer (some ⟨b, 0, none⟩), .int .i64 x, .int .i64 y] w' fun r w'' => r = .returned (.bool (underB d.classes x y)) ∧ w'' = w') := fun W t hW hh => (HCK.out W t hW hh).mono fun r w' ⟨hb, h⟩ => by
      rcases h with ⟨_, b, _, _, _, _, _, _, h1, h2⟩ | ⟨h, _⟩
      · exact ⟨b, h1, hb, is_any w' _ b _ _ _ _ _ _ _ _ h2 x y HX.out.1 HX.out.2⟩
      · exact absurd hc h
    have HR := mkHid hc
    clear HCK hc hin hx0
    go_enter Tryz.func30, Tryz.ntmps30
    go_wp2_with fail
    go_region_held3 (fun W' => ∀ p : Addr, p.block < w.heap.size → W'.cell? p = w.cell? p) (exact fun p hp => Below.cell (B := w.heap.size) (w := w) (by repeat (first | assumption | exact Below.refl _ _ | refine Below.drew ?_ | refine Below.alloc ?_ (by simp <;> omega) _)) hp) (first
      | (go_at_call 28; refine (HCK2.out _ 3 ?_ ?_).mono ?_; (first | exact (((Below.refl _ _).alloc (Nat.le_refl _) _).drew) | exact (((Below.refl _ _).drew).alloc (Nat.le_refl _) _)); (exact HNW.out _); rintro r w2 ⟨b2, rfl, hb2, hn2⟩; have HN2 := mkHid hn2; clear hn2)
      | (go_at_call 31; refine HN2.out.mono ?_; rintro r w4 ⟨rfl, rfl⟩))
    all_goals
      rename_i hS1
      clear hS1
      go_wp2_with fail
      go_ret
      exact ⟨hb2, Or.inl ⟨_, rfl, ⟨_, rfl⟩, HR.out, rfl⟩⟩
  · have HCK2 : Hid (∀ W t, Below w.heap.size w W → W.heap[w.heap.size]? = some (.cells #[.int .i64 x, .int .i64 y] t (0, 0)) → Calls Tryz.prog 28 #[.agg #[.slice aC d.classes.length cC, .slice aS d.supers.length cS, .slice aF d.fields.length cF, .slice aN d.names.length cN, .slice aT d.targets.length cT], .slice (some ⟨w.heap.size, 0, none⟩) 2 2] W fun r w' => r = .panicked [wrongV (chkRes d [x, y]) 0] ∧ Below w.heap.size w w') := fun W t hW hh => (HCK.out W t hW hh).mono fun r w' ⟨hb, h⟩ => by
      rcases h with ⟨h, _⟩ | ⟨_, h⟩
      · exact absurd h hc
      · exact ⟨h, hb⟩
    have HNZ := mkHid hc
    clear HCK hc
    go_enter Tryz.func30, Tryz.ntmps30
    go_wp2_with fail
    refine wp_region_held_drew (S := fun W' => ∀ p : Addr, p.block < w.heap.size → W'.cell? p = w.cell? p) (by kernel_rfl) (fun p hp => rfl) fun hH => ?_
    refine wpAnyH_take (i := 0) (v := .agg #[.slice aC d.classes.length cC, .slice aS d.supers.length cS, .slice aF d.fields.length cF, .slice aN d.names.length cN, .slice aT d.targets.length cT]) rfl (by kernel_rfl) (by kernel_rfl) (by kernel_rfl) (fun _ _ _ h => h) (Or.inl ⟨by rfl, ?_⟩) hH ?_
    · intro w hSw
      go_simp
    refine wpAnyH_take (i := 1) (v := .int .i64 x) rfl (by kernel_rfl) (by kernel_rfl) (by kernel_rfl) (fun _ _ _ h => h) (Or.inl ⟨by rfl, ?_⟩) hH ?_
    · intro w hSw
      go_simp
    refine wpAnyH_take (i := 2) (v := .int .i64 y) rfl (by kernel_rfl) (by kernel_rfl) (by kernel_rfl) (fun _ _ _ h => h) (Or.inl ⟨by rfl, ?_⟩) hH ?_
    · intro w hSw
      go_simp
    refine wpAnyH_take (i := 5) (v := .int .i64 x) rfl (by kernel_rfl) (by kernel_rfl) (by kernel_rfl) (fun _ _ _ h => h) (Or.inl ⟨by rfl, ?_⟩) hH ?_
    · intro w hSw
      go_simp
    refine wpAnyH_take (i := 6) (v := .int .i64 y) rfl (by kernel_rfl) (by kernel_rfl) (by kernel_rfl) (fun _ _ _ h => h) (Or.inl ⟨by rfl, ?_⟩) hH ?_
    · intro w hSw
      go_simp
    refine wpAnyH_ready (rs := [3]) (by kernel_rfl) (by simp) ?_
    refine AllReadyH.cons rfl (fun K hK => ?_) AllReadyH.nil
    go_simp
    refine hK.out _ _ (fun p hp => Below.cell (B := w.heap.size) (w := w) (((Below.refl _ _).drew).alloc (Nat.le_refl _) _) hp) fun _ => ?_
    refine wpAnyH_ready (rs := [4]) (by kernel_rfl) (by simp) ?_
    refine AllReadyH.cons rfl (fun K' hK' => ?_) AllReadyH.nil
    go_simp
    refine (HCK2.out _ 3 (((Below.refl _ _).drew).alloc (Nat.le_refl _) _) (HNW.out _)).mono ?_
    rintro r w2 ⟨rfl, hb2⟩
    exact ⟨rfl, hb2, Or.inr ⟨_, _, rfl, rfl, HNZ.out⟩⟩

theorem callIs1 (args : Array Value) (w : World) : (callFunc 30 args).run Tryz.prog w = .ok (.enter 30 args) w := by kernel_rfl
def isVal (d : LinkD) (x y : Int) : Bool := if chkRes d [x, y] = 0 then underB d.classes x y else false
set_option maxHeartbeats 2000000 in
theorem Is_any (w : World) (B : Nat) (kC kS kF kN kT : Value) (d : LinkD) (x y : Int) (hk : RLk (· < B) w kC kS kF kN kT d) (hB : B ≤ w.heap.size) :
    Calls Tryz.prog 12 #[.agg #[kC, kS, kF, kN, kT], .int .i64 x, .int .i64 y] w fun r w' => r = .returned (.tuple #[.bool (isVal d x y), .int .i64 (chkRes d [x, y])]) ∧ Below w.heap.size w w' := by
  have hmf : ∀ (fn : Fn) (first cap : Array Value) (w : World), (Instr.makeFunc fn first cap).run Tryz.prog w = .ok (.func fn first cap) w := fun _ _ _ _ => rfl
  have HK := mkHid hk
  obtain ⟨aC, cC, aS, cS, aF, cF, aN, cN, aT, cT, rfl, rfl, rfl, rfl, rfl⟩ := hk.agg
  clear hk
  go_enter Tryz.func12, Tryz.ntmps12
  go_wp2_with fail
  generalize hW : ((w.alloc (.cells #[.slice aC d.classes.length cC, .slice aS d.supers.length cS, .slice aF d.fields.length cF, .slice aN d.names.length cN, .slice aT d.targets.length cT] 31)).alloc (.cells #[.int .i64 x] 3)).alloc (.cells #[.int .i64 y] 3) = W0
  have hB0 : Below w.heap.size w W0 := hW ▸ ((((Below.refl _ _).alloc (Nat.le_refl _) _).alloc (by simp) _).alloc (by simp; omega) _)
  have hP : W0.heap[w.heap.size]? = some (.cells #[.slice aC d.classes.length cC, .slice aS d.supers.length cS, .slice aF d.fields.length cF, .slice aN d.names.length cN, .slice aT d.targets.length cT] 31 (0, 0)) := by rw [← hW]; exact (Below.heap_alloc _ _ _ (by simp; omega)).trans ((Below.heap_alloc _ _ _ (by simp)).trans (heap_alloc_new w _))
  have hQ : W0.cell? ⟨w.heap.size + 1, 0, none⟩ = some (.int .i64 x) := by rw [← hW]; simp [go_sem]
  have hR : W0.cell? ⟨w.heap.size + 1 + 1, 0, none⟩ = some (.int .i64 y) := by rw [← hW]; simp [go_sem]
  have HB0 := mkHid hB0
  refine (madeB_any W0 30 _ (fun v _ => chkRes d [x, y] = 0 ∧ v = .bool (underB d.classes x y)) (fun e _ => chkRes d [x, y] = e ∧ e ≠ 0) callIs1 ?hc ?hst).mono ?_
  case hc =>
    intro W hWb _
    have hb := HB0.out.trans (hWb.mono HB0.out.size)
    exact is1_any W B w.heap.size (w.heap.size + 1) (w.heap.size + 1 + 1) _ _ _ _ _ d x y (HK.out.kept (Kp.below (hb.mono hB))) (Nat.le_trans hB hb.size) ((hWb.block _ (lt_of hP)).trans hP) ((hWb.cell (p := ⟨w.heap.size + 1, 0, none⟩) (World.block_lt_of_cell? _ _ hQ)).trans hQ) ((hWb.cell (p := ⟨w.heap.size + 1 + 1, 0, none⟩) (World.block_lt_of_cell? _ _ hR)).trans hR)
  case hst => exact fun _ _ _ _ _ h => h
  rintro r w2 ⟨hb2, hz2, ⟨v, rfl, -, h0, rfl⟩ | ⟨e, p, rfl, h1, h2⟩⟩
  · have HBF := mkHid (fun o => (HB0.out.trans (hb2.mono HB0.out.size)).alloc (Nat.le_trans HB0.out.size hb2.size) o)
    have HR : Hid (isVal d x y = underB d.classes x y ∧ chkRes d [x, y] = 0) := ⟨if_pos h0, h0⟩
    clear hb2 h0 hP hQ hR hW hB0 HK HB0
    go_wp2_with fail
    go_quiet (fail)
    go_wp2_with fail
    exact bodyPost_ret (v := .tuple #[.bool (underB d.classes x y), .int .i64 0]) (by simp [results, Tryz.results12, go_sem]) rfl ⟨by rw [HR.out.1, HR.out.2], below_dn (HBF.out _) _⟩
  · have HBF := mkHid (fun o => (HB0.out.trans (hb2.mono HB0.out.size)).alloc (Nat.le_trans HB0.out.size hb2.size) o)
    have HR : Hid (isVal d x y = false ∧ chkRes d [x, y] = e) := ⟨if_neg (by rw [h1]; exact h2), h1⟩
    clear hb2 h1 h2 hP hQ hR hW hB0 HK HB0
    go_wp2_with fail
    go_quiet (fail)
    go_wp2_with fail
    exact bodyPost_ret (v := .tuple #[.bool false, .int .i64 e]) (by simp [results, Tryz.results12, go_sem]) rfl ⟨by rw [HR.out.1, HR.out.2], below_dn (HBF.out _) _⟩
end Go.Proofs.YtkhconnebiiboaaGreatDoor
/- Lines of classes that hang together, plain (where the document's own reading is not there): who is under whom, and the lowest one above two. -/
namespace Go.Proofs.YtkhconnebiiboaaGreatDoor
open Go.RowKit

theorem climb_stop (l : List ClassD) : ∀ (f : Nat) (n : Int), (climb l f n).length < f → climb l (f + 1) n = climb l f n
  | 0, n, h => by simp at h
  | f + 1, n, h => by
    by_cases h0 : 0 ≤ n
    · rw [climb, if_pos h0, List.length_cons] at h
      have e1 : climb l (f + 1 + 1) n = n.toNat :: climb l (f + 1) (supAt l n.toNat) := by rw [climb, if_pos h0]
      have e2 : climb l (f + 1) n = n.toNat :: climb l f (supAt l n.toNat) := by rw [climb, if_pos h0]
      rw [e1, e2, climb_stop l f _ (by omega)]
    · rw [climb_end h0, climb_end h0]
theorem line_ne (l : List ClassD) (n : Nat) : lineOf l n ≠ [] := by
  rw [lineOf, climb, if_pos (by omega)]
  simp
theorem line_step {l : List ClassD} (h5 : askNone l = true) {i n : Nat} (hi : i < l.length) (hs : supAt l i = n) : lineOf l i = lineOf l n ++ [i] ∧ n < l.length := by
  have hn : n < l.length := by have := (num_le l (clsAt l i).super).2; have e : supAt l i = num l (clsAt l i).super := rfl; omega
  have hlen : (lineOf l i).length ≤ l.length := by simpa using List.all_eq_true.1 h5 i (List.mem_range.2 hi)
  have e1 : climb l (l.length + 1) i = i :: climb l l.length n := by
    rw [climb_go _ (by omega)]
    simp [hs]
  have h2 : (climb l l.length n).length < l.length := by
    rw [lineOf, e1] at hlen
    simp at hlen
    omega
  refine ⟨?_, hn⟩
  rw [lineOf, e1, lineOf, climb_stop l _ _ h2, List.reverse_cons]
theorem line_top {l : List ClassD} {i : Nat} (hs : supAt l i < 0) : lineOf l i = [i] := by
  rw [lineOf, climb_go _ (by omega)]
  simp only [Int.toNat_natCast]
  rw [climb_end (by omega)]
  rfl
theorem name_ne {s : ByteArray} (h : isNameB s = true) : s ≠ ⟨#[]⟩ := by
  rintro rfl
  revert h
  decide
theorem class_name {c : ClassD} (h : checkClass c = 0) : c.name ≠ ⟨#[]⟩ := by
  unfold checkClass at h
  exact name_ne (dem_zero h (by decide)).1
theorem no_nil {l : List ClassD} (h : checkL l = 0) : num l ⟨#[]⟩ < 0 := by
  have h1 : hasC l ⟨#[]⟩ = false := by
    rw [hasC, hasC_mem, List.any_eq_false]
    intro c hc
    have hcc : checkClass c = 0 := by
      unfold checkL at h
      exact allE_zero (dem_zero h (by decide)).2 c hc
    have := class_name hcc
    simpa using fun e => this e.symm
  simpa [hasC] using h1
theorem askRes_zero {g : Nat} {e : Int} {a : Bool} {l : List QD} (h : askRes (⟨g, e, a⟩ :: l) = 0) (he : e ≠ 0) : a = true ∧ askRes l = 0 := by
  rw [askRes] at h
  cases a with
  | true => exact ⟨rfl, by simpa using h⟩
  | false => exact absurd (by simpa using h) he
theorem tie_asks {l : List ClassD} (h : tieRes l = 0) : askNames l = true ∧ askTop l = true ∧ askUpper l = true ∧ askSupers l = true ∧ askNone l = true ∧ askError l = true ∧ askTold l = true ∧ askParts l = true ∧ askSame l = true ∧ askFew l = true := by
  have hc := tie_chk h
  rw [tieRes, if_pos hc] at h
  obtain ⟨h1, h⟩ := askRes_zero h (by decide)
  obtain ⟨h2, h⟩ := askRes_zero h (by decide)
  obtain ⟨h3, h⟩ := askRes_zero h (by decide)
  obtain ⟨h4, h⟩ := askRes_zero h (by decide)
  obtain ⟨h5, h⟩ := askRes_zero h (by decide)
  obtain ⟨h6, h⟩ := askRes_zero h (by decide)
  obtain ⟨h7, h⟩ := askRes_zero h (by decide)
  obtain ⟨h8, h⟩ := askRes_zero h (by decide)
  obtain ⟨h9, h⟩ := askRes_zero h (by decide)
  obtain ⟨h10, -⟩ := askRes_zero h (by decide)
  exact ⟨h1, h2, h3, h4, h5, h6, h7, h8, h9, h10⟩
theorem eqL_refl {α : Type} {p : α → α → Bool} (h : ∀ x, p x x = true) : ∀ l : List α, eqL p l l = true
  | [] => rfl
  | x :: l => by rw [eqL, h, eqL_refl h l]; rfl
theorem makes_linkD (l : List ClassD) : makesB l (linkD l) = true := by
  rw [makesB]
  simp only [linkD]
  rw [eqL_refl (fun x => by simp [sameI]), eqL_refl (eqL_refl fun x => by simp [sameF, sameK]), eqL_refl (eqL_refl fun x => by simp [sameS]), eqL_refl (eqL_refl fun x => by simp [sameT])]
  rfl
theorem num_own_get (l : List ClassD) : askNames l = true → ∀ (i : Nat) (hi : i < l.length), num l l[i].name = i := by
  induction l using snoc_ind with
  | h0 => intro _ i hi; cases hi
  | h1 l c ih =>
    intro h i hi
    have h' : differB ((l ++ [c]).map (·.name)) = true := h
    rw [differ_names_snoc, Bool.and_eq_true] at h'
    obtain ⟨h1, h2⟩ := h'
    rw [num_snoc]
    by_cases hl : i < l.length
    · have e : (l ++ [c])[i] = l[i] := List.getElem_append_left hl
      have h3 := ih h1 i hl
      rw [e, if_neg, h3]
      intro hc
      rw [hc, h3] at h2
      simp at h2
    · have hi' : i = l.length := by simp at hi; omega
      subst hi'
      have e : (l ++ [c])[l.length] = c := by simp
      rw [e, if_pos rfl]
/-- Classes that hang together. -/
structure Hang (l : List ClassD) : Prop where
  names : askNames l = true
  top : askTop l = true
  upper : askUpper l = true
  supers : askSupers l = true
  none : askNone l = true
  nil : num l ⟨#[]⟩ < 0
theorem Hang.of {l : List ClassD} (h : tieRes l = 0) : Hang l := by
  obtain ⟨h1, h2, h3, h4, h5, -⟩ := tie_asks h
  exact ⟨h1, h2, h3, h4, h5, no_nil (tie_chk h)⟩
theorem Hang.lk {d : LinkD} (h : okLk d = true) : Hang d.classes := by
  rw [okLk, Bool.and_eq_true, decide_eq_true_iff] at h
  exact Hang.of h.1
theorem num_own {l : List ClassD} (hn : askNames l = true) {i : Nat} (hi : i < l.length) : num l (clsAt l i).name = i := by
  rw [clsAt_eq hi]
  exact num_own_get l hn i hi
theorem Hang.sup {l : List ClassD} (h : Hang l) {i : Nat} (hi : i < l.length) : (supAt l i < 0 ∧ (i : Int) = num l topName) ∨ ∃ n : Nat, supAt l i = n ∧ n < l.length := by
  by_cases hs : (clsAt l i).super = ⟨#[]⟩
  · refine Or.inl ⟨by rw [supAt, hs]; exact h.nil, ?_⟩
    have h1 := List.all_eq_true.1 h.upper l[i] (List.getElem_mem hi)
    rw [clsAt_eq hi] at hs
    simp [hs] at h1
    rw [← h1, ← clsAt_eq hi, num_own h.names hi]
  · refine Or.inr ?_
    have h1 := List.all_eq_true.1 h.supers l[i] (List.getElem_mem hi)
    rw [clsAt_eq hi] at hs
    have h2 : hasC l l[i].super = true := by simpa [hs] using h1
    have h3 : 0 ≤ supAt l i := by rw [supAt, clsAt_eq hi]; simpa [hasC] using h2
    have h4 : supAt l i < l.length := (num_le l (clsAt l i).super).2
    exact ⟨(supAt l i).toNat, by omega, by omega⟩
theorem Hang.ind {l : List ClassD} (h : Hang l) {P : Nat → Prop} (h0 : ∀ i, i < l.length → lineOf l i = [i] → (i : Int) = num l topName → P i)
    (h1 : ∀ i n : Nat, i < l.length → n < l.length → supAt l i = n → lineOf l i = lineOf l n ++ [i] → P n → P i) : ∀ i, i < l.length → P i := by
  have key : ∀ d i, i < l.length → (lineOf l i).length ≤ d → P i := by
    intro d
    induction d with
    | zero => intro i _ hl; exact absurd (List.eq_nil_of_length_eq_zero (by omega)) (line_ne l i)
    | succ d ih =>
      intro i hi hl
      rcases h.sup hi with ⟨h2, h3⟩ | ⟨n, hs, hn⟩
      · exact h0 i hi (line_top h2) h3
      · obtain ⟨e, hnl⟩ := line_step h.none hi hs
        exact h1 i n hi hnl hs e (ih n hnl (by rw [e] at hl; simp at hl; omega))
  exact fun i hi => key _ i hi (Nat.le_refl _)
theorem Hang.root {l : List ClassD} (h : Hang l) : ∀ i, i < l.length → (num l topName).toNat ∈ lineOf l i :=
  h.ind (fun _ _ e ht => by rw [e, ← ht]; simp) (fun _ _ _ _ _ e ih => by rw [e]; exact List.mem_append_left _ ih)
theorem Hang.last {l : List ClassD} (h : Hang l) : ∀ i, i < l.length → ∃ X, lineOf l i = X ++ [i] :=
  h.ind (fun _ _ e _ => ⟨[], e⟩) (fun _ _ _ _ _ e _ => ⟨_, e⟩)
theorem Hang.self {l : List ClassD} (h : Hang l) {i : Nat} (hi : i < l.length) : i ∈ lineOf l i := by
  obtain ⟨X, e⟩ := h.last i hi
  rw [e]
  simp
theorem Hang.pre {l : List ClassD} (h : Hang l) : ∀ i, i < l.length → ∀ u ∈ lineOf l i, u < l.length ∧ ∃ R, lineOf l i = lineOf l u ++ R :=
  h.ind (fun i hi e _ u hu => by
    rw [e] at hu
    obtain rfl := List.mem_singleton.1 hu
    exact ⟨hi, [], by simp⟩) (fun i n hi _ _ e ih u hu => by
    rw [e] at hu
    rcases List.mem_append.1 hu with h1 | h1
    · obtain ⟨h2, R, h3⟩ := ih u h1
      exact ⟨h2, R ++ [i], by rw [e, h3, List.append_assoc]⟩
    · obtain rfl := List.mem_singleton.1 h1
      exact ⟨hi, [], by simp⟩)
theorem Hang.trans {l : List ClassD} (h : Hang l) {a b c : Nat} (ha : a < l.length) (hab : b ∈ lineOf l a) (hbc : c ∈ lineOf l b) : c ∈ lineOf l a := by
  obtain ⟨_, R, e⟩ := h.pre a ha b hab
  rw [e]
  exact List.mem_append_left _ hbc
theorem Hang.anti {l : List ClassD} (h : Hang l) {a b : Nat} (ha : a < l.length) (hab : b ∈ lineOf l a) (hba : a ∈ lineOf l b) : a = b := by
  obtain ⟨hb, R, e⟩ := h.pre a ha b hab
  obtain ⟨_, R', e'⟩ := h.pre b hb a hba
  have hl : (lineOf l a).length = (lineOf l b).length := by
    have h1 := congrArg List.length e
    have h2 := congrArg List.length e'
    rw [List.length_append] at h1 h2
    omega
  have hR : R = [] := by
    have h1 := congrArg List.length e
    rw [List.length_append] at h1
    exact List.eq_nil_of_length_eq_zero (by omega)
  rw [hR, List.append_nil] at e
  obtain ⟨X, e1⟩ := h.last a ha
  obtain ⟨Y, e2⟩ := h.last b hb
  have : X ++ [a] = Y ++ [b] := by rw [← e1, ← e2, e]
  have := (List.append_inj' this rfl).2
  simpa using this
/-- Of two classes, the lowest one that is above both. -/
structure Abv (l : List ClassD) (x y n : Nat) : Prop where
  lt : n < l.length
  ex : ∃ R, lineOf l x = lineOf l n ++ R ∧ ∀ u ∈ R, u ∉ lineOf l y
  mem : n ∈ lineOf l y
theorem Abv.exists {l : List ClassD} (h : Hang l) {y : Nat} (hy : y < l.length) : ∀ x, x < l.length → ∃ n, Abv l x y n :=
  h.ind (fun i hi e ht => ⟨i, hi, ⟨[], by simp, fun u hu => by cases hu⟩, by have := h.root y hy; rwa [← ht] at this⟩) (fun i n hi hn _ e ⟨m, hm, ⟨R, e1, h1⟩, h2⟩ => by
    by_cases hiy : i ∈ lineOf l y
    · exact ⟨i, hi, ⟨[], by simp, fun u hu => by cases hu⟩, hiy⟩
    · exact ⟨m, hm, ⟨R ++ [i], by rw [e, e1, List.append_assoc], fun u hu => by
        rcases List.mem_append.1 hu with h3 | h3
        · exact h1 u h3
        · rw [List.mem_singleton.1 h3]; exact hiy⟩, h2⟩)
/-- Of those above the one, from the lowest on, the first that is above the other, too. -/
def aboveG (l : List ClassD) (x y : Nat) : Nat := ((lineOf l x).reverse.find? fun u => decide (u ∈ lineOf l y)).getD 0
theorem Abv.eq {l : List ClassD} (h : Hang l) {x y n : Nat} (ha : Abv l x y n) : aboveG l x y = n := by
  obtain ⟨hn, ⟨R, e, hR⟩, hm⟩ := ha
  obtain ⟨X, eX⟩ := h.last n hn
  have h1 : (R.reverse.find? fun u => decide (u ∈ lineOf l y)) = none := by
    rw [List.find?_eq_none]
    intro u hu
    have := hR u (List.mem_reverse.1 hu)
    simpa using this
  rw [aboveG, e, List.reverse_append, List.find?_append, h1, eX, List.reverse_append]
  simp [hm]
theorem Abv.of {l : List ClassD} (h : Hang l) {x y : Nat} (hx : x < l.length) (hy : y < l.length) : Abv l x y (aboveG l x y) := by
  obtain ⟨n, hn⟩ := Abv.exists h hy x hx
  rw [hn.eq h]
  exact hn
theorem Abv.left {l : List ClassD} {x y n : Nat} (h : Hang l) (ha : Abv l x y n) : n ∈ lineOf l x := by
  obtain ⟨hn, ⟨R, e, _⟩, _⟩ := ha
  rw [e]
  exact List.mem_append_left _ (h.self hn)
theorem Abv.low {l : List ClassD} {x y n c : Nat} (ha : Abv l x y n) (hx : c ∈ lineOf l x) (hy : c ∈ lineOf l y) : c ∈ lineOf l n := by
  obtain ⟨hn, ⟨R, e, hR⟩, _⟩ := ha
  rw [e] at hx
  rcases List.mem_append.1 hx with h1 | h1
  · exact h1
  · exact absurd hy (hR c h1)
theorem aboveG_comm {l : List ClassD} (h : Hang l) {x y : Nat} (hx : x < l.length) (hy : y < l.length) : aboveG l x y = aboveG l y x := by
  have h1 := Abv.of h hx hy
  have h2 := Abv.of h hy hx
  exact h.anti h1.lt (h1.low (h2.mem) (h2.left h)) (h2.low (h1.mem) (h1.left h))
theorem ok_linkD {l : List ClassD} (h : tieRes l = 0) : chkRes (linkD l) [] = 0 := by
  have : okLk (linkD l) = true := by
    rw [okLk, Bool.and_eq_true, decide_eq_true_iff]
    exact ⟨h, makes_linkD l⟩
  rw [chkRes, if_pos this]
  rfl

end Go.Proofs.YtkhconnebiiboaaGreatDoor
/- Linked classes' lines, by names; linked classes pass their check: plain. -/
namespace Go.Proofs.YtkhconnebiiboaaGreatDoor
open Go.RowKit

def lnN (l : List ClassD) (s : ByteArray) : List ByteArray := ((lineOf l (num l s).toNat).reverse).map fun n => (clsAt l n).name
theorem num_get {l : List ClassD} (hn : askNames l = true) {s : ByteArray} (hs : 0 ≤ num l s) : ∃ n, ∃ h : n < l.length, num l s = n ∧ l[n].name = s := by
  have h1 := hasC_mem l s
  rw [decide_eq_true hs] at h1
  obtain ⟨c, hc, e⟩ := List.any_eq_true.1 h1.symm
  obtain ⟨n, h, rfl⟩ := List.getElem_of_mem hc
  have e' : s = l[n].name := by simpa using e
  exact ⟨n, h, by rw [e', num_own_get l hn n h], e'.symm⟩
theorem cls_link {l : List ClassD} (h : tieRes l = 0) : Cls (linkD l) (lnN l) := by
  obtain ⟨hn, ht, -, -, h5, -⟩ := tie_asks h
  have hg := Hang.of h
  have hkt : 0 ≤ num l topName := by
    have := (Bool.and_eq_true _ _ ▸ ht : hasC l topName = true ∧ hasC l errName = true).1
    simpa [hasC] using this
  have hsup : ∀ n (h : n < l.length), ((List.range l.length).map (supAt l))[n]'(by simpa using h) = supAt l n := fun n h => by simp
  have hnL : ∀ n (h : n < l.length), lnN l l[n].name = ((lineOf l n).reverse).map fun k => (clsAt l k).name := fun n h => by rw [lnN, num_own_get l hn n h]; rfl
  refine ⟨by simp [linkD], fun s hs => num_get hn hs, fun n hl => ?_, fun n hl => num_own_get l hn n hl, fun n hl e => ?_, hkt⟩
  · replace hl : n < l.length := hl
    rcases hg.sup hl with ⟨hneg, -⟩ | ⟨m, e, hm⟩
    · refine Or.inl ⟨?_, ?_⟩
      · refine (hsup n hl).trans ?_
        have := (num_le l (clsAt l n).super).1
        have e : supAt l n = num l (clsAt l n).super := rfl
        omega
      · show lnN l l[n].name = [l[n].name]
        rw [hnL n hl, line_top hneg]
        simp [clsAt_eq hl]
    · refine Or.inr ⟨m, hm, ?_, ?_, ?_⟩
      · exact (hsup n hl).trans e
      · show l[n].super = l[m].name
        have e2 : num l l[n].super = m := by rw [← e, supAt, clsAt_eq hl]
        obtain ⟨m', hm', e3, e4⟩ := num_get hn (s := l[n].super) (by omega)
        obtain rfl : m' = m := by omega
        exact e4.symm
      · show lnN l l[n].name = l[n].name :: lnN l l[m].name
        rw [hnL n hl, hnL m hm, (line_step h5 hl e).1]
        simp [clsAt_eq hl]
  · have e' : supAt l n = -1 := (hsup n hl).symm.trans e
    rcases hg.sup hl with ⟨-, e2⟩ | ⟨m, e2, -⟩
    · obtain ⟨m, hm, e3, e4⟩ := num_get hn hkt
      obtain rfl : m = n := by omega
      exact e4
    · omega
theorem chk_link {l : List ClassD} (h : tieRes l = 0) : chkRes (linkD l) [] = 0 := by
  have : okLk (linkD l) = true := by
    rw [okLk, Bool.and_eq_true, decide_eq_true_iff]
    exact ⟨h, makes_linkD l⟩
  rw [chkRes, if_pos this]
  rfl
end Go.Proofs.YtkhconnebiiboaaGreatDoor
/- Kinds that may be asked of, told twice: as package verify asks, and plainly. -/
namespace Go.Proofs.YtkhconnebiiboaaGreatDoor
open Go.RowKit

theorem nameB_is (s : ByteArray) : nameB s = isNameB s := by
  have h : checkL [nmC s] = dem (isNameB s) 1 0 := by
    simp [checkL, allE, nmC, checkClass, thenE, dem]
    split <;> rfl
  rw [nameB, h]
  cases isNameB s <;> rfl
theorem okK_gd {l : List ClassD} (h : tieRes l = 0) {x : KindD} : okK (linkD l) x = true ↔ GdK (fun s => 0 ≤ num l s) x := by
  have hck : checkL l = 0 := by
    unfold tieRes at h
    split at h
    · assumption
    · assumption
  have hn := (tie_asks h).1
  have hnm : ∀ s, 0 ≤ num l s → isNameB s = true := fun s hs => by
    obtain ⟨n, hl, -, e⟩ := num_get hn hs
    have hcc : checkClass l[n] = 0 := by
      unfold checkL at hck
      exact allE_zero (dem_zero hck (by decide)).2 _ (List.getElem_mem hl)
    unfold checkClass at hcc
    rw [← e]
    exact (dem_zero hcc (by decide)).1
  have hl : (linkD l).classes = l := rfl
  unfold okK kindB GdK
  rw [hl, Bool.and_eq_true]
  constructor
  · rintro ⟨h1, h2⟩
    split at h1
    · rename_i hk
      refine Or.inl ⟨by simpa using hk, ?_⟩
      rw [nameB_is] at h1
      rcases Bool.or_eq_true _ _ ▸ h2 with h3 | h3
      · exact absurd (tl_nil (of_decide_eq_true h3)) (name_ne h1)
      · exact of_decide_eq_true h3
    · simp only [Bool.or_eq_true, eqK_iff] at h1
      rcases h1 with ((h1 | h1) | h1) | h1
      · exact Or.inr (Or.inl h1)
      · exact Or.inr (Or.inr (Or.inl h1))
      · exact Or.inr (Or.inr (Or.inr (Or.inl h1)))
      · exact Or.inr (Or.inr (Or.inr (Or.inr h1)))
  · rintro (⟨hk, hc⟩ | rfl | rfl | rfl | rfl)
    · rw [if_pos (by simpa using hk), nameB_is, decide_eq_true hc, Bool.or_true]
      exact ⟨hnm _ hc, rfl⟩
    all_goals
      refine ⟨by decide, ?_⟩
      rw [Bool.or_eq_true]
      exact Or.inl (by simp [numK, rowK, nulK, anyK, noNm, ByteArray.toList_eq])
end Go.Proofs.YtkhconnebiiboaaGreatDoor
/- What linked classes' methods are, where they pass their checks: plain. -/
namespace Go.Proofs.YtkhconnebiiboaaGreatDoor
open Go.RowKit

theorem right_gd {l : List ClassD} {k : KindD} (h : rightB k = true) (hk : knowsK l k = true) : GdK (fun s => 0 ≤ num l s) k := by
  unfold rightB at h
  split at h
  · rename_i hc
    refine Or.inl ⟨by simpa [hasCls] using hc, ?_⟩
    unfold knowsK at hk
    rcases Bool.or_eq_true _ _ ▸ hk with h2 | h2
    · exact absurd (of_decide_eq_true h2) (name_ne h)
    · exact of_decide_eq_true h2
  · rw [Bool.and_eq_true, Bool.or_eq_true, decide_eq_true_iff, decide_eq_true_iff, decide_eq_true_iff] at h
    have hn : k.cls = noNm := by
      obtain ⟨kd, ⟨a⟩⟩ := k
      have : a = #[] := Array.eq_empty_of_size_eq_zero h.2
      subst this
      rfl
    rcases h.1 with e | e
    · exact Or.inr (Or.inl (by cases k; simp at hn e; rw [hn, e]; rfl))
    · exact Or.inr (Or.inr (Or.inl (by cases k; simp at hn e; rw [hn, e]; rfl)))
theorem ret_gd {l : List ClassD} {k : KindD} (h : returnedB k = true) (hk : knowsK l k = true) : k.kind = 0 ∨ GdK (fun s => 0 ≤ num l s) k := by
  unfold returnedB at h
  rcases Bool.or_eq_true _ _ ▸ h with h1 | h1
  · exact Or.inr (right_gd h1 hk)
  · exact Or.inl (by have := (Bool.and_eq_true _ _ ▸ h1).1; exact of_decide_eq_true this)
/-- What a method that passes its check has. -/
structure MthOk (l : List ClassD) (m : MethD) : Prop where
  na : m.args.length ≤ 4
  ga : ∀ k ∈ m.args, GdK (fun s => 0 ≤ num l s) k
  rt : m.ret.kind = 0 ∨ GdK (fun s => 0 ≤ num l s) m.ret
  st : 0 ≤ m.stack ∧ m.stack ≤ 10
  lc : 0 ≤ m.locals ∧ m.locals ≤ 10
  hk : ∀ h ∈ m.hands, 0 ≤ num l h.cls
theorem meth_ok {l : List ClassD} (h : tieRes l = 0) {c : ClassD} (hc : c ∈ l) {m : MethD} (hm : m ∈ c.meths) : MthOk l m := by
  have hck := tie_chk h
  obtain ⟨-, -, -, -, -, -, h7, -⟩ := tie_asks h
  unfold checkL at hck
  have h1 := allE_zero (dem_zero hck (by decide)).2 c hc
  unfold checkClass at h1
  have h2 := (dem_zero (dem_zero (dem_zero (dem_zero h1 (by decide)).2 (by decide)).2 (by decide)).2 (by decide)).2
  have h3 : allE checkMeth c.meths = 0 := by
    unfold thenE at h2
    split at h2
    · exact h2
    · rename_i hx; exact absurd h2 hx
  have h4 := allE_zero h3 m hm
  unfold checkMeth at h4
  obtain ⟨-, h4⟩ := dem_zero h4 (by decide)
  obtain ⟨q1, h4⟩ := dem_zero h4 (by decide)
  obtain ⟨-, h4⟩ := dem_zero h4 (by decide)
  obtain ⟨-, h4⟩ := dem_zero h4 (by decide)
  obtain ⟨q2, h4⟩ := dem_zero h4 (by decide)
  obtain ⟨q3, h4⟩ := dem_zero h4 (by decide)
  have h5 : allE checkArg m.args = 0 ∧ dem (returnedB m.ret) 7 (allE checkHand m.hands) = 0 := by
    unfold thenE at h4
    split at h4
    · rename_i hx; exact ⟨hx, h4⟩
    · rename_i hx; exact absurd h4 hx
  obtain ⟨q4, -⟩ := dem_zero h5.2 (by decide)
  have hkn : knowsM l m = true := by
    unfold askTold at h7
    have := List.all_eq_true.1 h7 c hc
    rw [Bool.and_eq_true] at this
    exact List.all_eq_true.1 this.2 m hm
  unfold knowsM at hkn
  rw [Bool.and_eq_true, Bool.and_eq_true] at hkn
  unfold win at q2 q3
  rw [Bool.and_eq_true, decide_eq_true_iff, decide_eq_true_iff] at q2 q3
  exact ⟨of_decide_eq_true q1, fun k hk => right_gd (by have := allE_zero h5.1 k hk; unfold checkArg at this; exact (dem_zero this (by decide)).1) (List.all_eq_true.1 hkn.1.1 k hk), ret_gd q4 hkn.1.2, q2, q3, fun x hx => of_decide_eq_true (List.all_eq_true.1 hkn.2 x hx)⟩
theorem field_ok {l : List ClassD} (h : tieRes l = 0) {c : ClassD} (hc : c ∈ l) {f : FieldD} (hf : f ∈ c.fields) : GdK (fun s => 0 ≤ num l s) f.kind := by
  have hck := tie_chk h
  obtain ⟨-, -, -, -, -, -, h7, -⟩ := tie_asks h
  unfold checkL at hck
  have h1 := allE_zero (dem_zero hck (by decide)).2 c hc
  unfold checkClass at h1
  have h2 := (dem_zero (dem_zero (dem_zero (dem_zero h1 (by decide)).2 (by decide)).2 (by decide)).2 (by decide)).2
  have h3 : allE checkField c.fields = 0 := by
    unfold thenE at h2
    split at h2
    · rename_i hx; exact hx
    · rename_i hx; exact absurd h2 hx
  have h4 := allE_zero h3 f hf
  unfold checkField at h4
  have hkn : knowsK l f.kind = true := by
    unfold askTold at h7
    have := List.all_eq_true.1 h7 c hc
    rw [Bool.and_eq_true] at this
    exact List.all_eq_true.1 this.1 f hf
  exact right_gd (dem_zero (dem_zero h4 (by decide)).2 (by decide)).1 hkn
/-- What decoded operations are. -/
def OpsOk (l : List Cd.Op4) : Prop := ∀ x ∈ l, (∃ o : Nat, o < 37 ∧ x.op = o) ∧ (x.op ≠ 1 → 0 ≤ x.a) ∧ 0 ≤ x.b
theorem one_ok (s : ByteArray) (p : Nat) (h : ¬ 37 ≤ Cd.bt s p) : (∃ o : Nat, o < 37 ∧ (Cd.oneAt s p).op = o) ∧ ((Cd.oneAt s p).op ≠ 1 → 0 ≤ (Cd.oneAt s p).a) ∧ 0 ≤ (Cd.oneAt s p).b := by
  refine ⟨⟨Cd.bt s p, by omega, rfl⟩, fun h1 => ?_, ?_⟩
  · show 0 ≤ Cd.argA (Cd.kOf (Cd.bt s p)) s p
    have h2 : Cd.kOf (Cd.bt s p) ≠ 1 := fun e => h1 (by
      have key : ∀ o : Fin 37, Cd.kOf o.val = 1 → o.val = 1 := by decide
      show ((Cd.bt s p : Nat) : Int) = 1
      have := key ⟨Cd.bt s p, by omega⟩ e
      simp at this
      omega)
    unfold Cd.argA
    rw [if_neg h2]
    (repeat' split) <;> omega
  · show 0 ≤ Cd.argB (Cd.kOf (Cd.bt s p)) s p
    unfold Cd.argB
    split <;> omega
theorem scan_all (s : ByteArray) : ∀ (f p : Nat) (acc l : List Cd.Op4), OpsOk acc → Cd.scan s f p acc = .ok l → OpsOk l ∧ l.length ≤ acc.length + (s.size - p)
  | 0, p, acc, l, ha, h => by
    simp [Cd.scan] at h
    subst h
    exact ⟨ha, by omega⟩
  | f + 1, p, acc, l, ha, h => by
    unfold Cd.scan at h
    split at h
    · split at h
      · cases h
      · rename_i h37
        split at h
        · cases h
        · obtain ⟨i1, i2⟩ := scan_all s f _ _ l (fun x hx => by
            rcases List.mem_append.1 hx with hx | hx
            · exact ha x hx
            · rw [List.mem_singleton] at hx
              subst hx
              exact one_ok s p h37) h
          refine ⟨i1, ?_⟩
          have : p + 1 ≤ Cd.nextAt s p := by unfold Cd.nextAt; omega
          simp at i2
          omega
    · cases h
      exact ⟨ha, by omega⟩
theorem full_all {s : ByteArray} {l : List Cd.Op4} (h : Cd.full s = .ok l) : OpsOk l ∧ l.length ≤ 200 := by
  unfold Cd.full at h
  split at h
  · cases h
  · split at h
    · cases h
    · unfold Cd.dec at h
      split at h
      · cases h
      · rename_i l' hx
        split at h
        · cases h
        · cases h
          obtain ⟨h1, h2⟩ := scan_all s s.size 0 [] l (fun x hx => by cases hx) hx
          exact ⟨h1, by simp at h2; omega⟩
theorem wf_link {l : List ClassD} (h : tieRes l = 0) {c : ClassD} (hc : c ∈ l) {m : MethD} (hm : m ∈ c.meths) {ins : List Cd.Op4} (hi : Cd.full m.code = .ok ins) : Wf ⟨linkD l, lnN l, m, ins⟩ := by
  have mo := meth_ok h hc hm
  obtain ⟨io, il⟩ := full_all hi
  refine ⟨cls_link h, by simp [linkD], fun fs hfs f hf => ?_, fun k hk m' hm' => (meth_ok h hk hm').rt, fun k hk m' hm' => (meth_ok h hk hm').na, mo.hk, mo.rt, mo.st, mo.lc, ?_, il, fun x hx => (io x hx).1, fun x hx => (io x hx).2.1, fun x hx => (io x hx).2.2⟩
  · obtain ⟨n, hn, rfl⟩ := List.mem_map.1 hfs
    unfold fieldsOf at hf
    obtain ⟨k, hk, hf⟩ := List.mem_flatMap.1 hf
    unfold clsAt at hf
    cases e : l[k]? with
    | none => rw [e] at hf; simp [cls0] at hf
    | some c' =>
      rw [e] at hf
      exact field_ok h (List.mem_of_getElem? e) hf
  · have := tie_chk h
    unfold checkL at this
    exact of_decide_eq_true (dem_zero this (by decide)).1
end Go.Proofs.YtkhconnebiiboaaGreatDoor
/- The contract of what must be in any case, of linked classes. -/
namespace Go.Proofs.YtkhconnebiiboaaGreatDoor
open Go.RowKit Go.Maps

def baseDL : List ClassD := [⟨⟨#[79, 98, 106, 101, 99, 116]⟩, ⟨#[]⟩, [], [⟨⟨#[109, 97, 105, 110]⟩, true, [], ⟨0, ⟨#[]⟩⟩, 2, 0, ⟨#[1, 0, 7, 31, 27]⟩, []⟩]⟩,
  ⟨⟨#[69, 114, 114, 111, 114]⟩, ⟨#[79, 98, 106, 101, 99, 116]⟩, [⟨⟨#[99, 111, 100, 101]⟩, ⟨1, ⟨#[]⟩⟩⟩], []⟩]
theorem base_tie : tieRes baseDL = 0 := by kernel_rfl
theorem base_findE : findErr (linkD baseDL) errName = 0 := by kernel_rfl
theorem base_findV : findVal (linkD baseDL) errName = 1 := by kernel_rfl
theorem base_isE : chkRes (linkD baseDL) [1, 0] = 0 := by kernel_rfl
theorem base_isV : isVal (linkD baseDL) 1 0 = true := by kernel_rfl
theorem base_len : (linkD baseDL).supers.length = 2 ∧ (linkD baseDL).fields.length = 2 := ⟨by kernel_rfl, by kernel_rfl⟩

set_option maxHeartbeats 1000000 in
theorem base_anyL (w : World) : Calls Tryz.prog 9 #[] w fun r w' => Below w.heap.size w w' ∧ ∃ v, r = .returned v ∧ SL 4 RC (· < w'.heap.size) w' v baseDL := by
  go_enter Tryz.func9, Tryz.ntmps9
  go_wp2
  go_ret
  refine ⟨((((Below.refl _ _).alloc (Nat.le_refl _) _).alloc (by simp) _).alloc (by simp; omega) _), _, rfl, ?_⟩
  refine ⟨_, _, rfl, Nat.le_refl _, by unfold maxLen; simp [baseDL], fun k hk => ?_⟩
  have hk2 : k < 2 := hk
  match k, hk2 with
  | 0, _ =>
    refine ⟨_, _, [.string ⟨#[79, 98, 106, 101, 99, 116]⟩, .string ⟨#[]⟩, .slice none 0 0, .slice (some ⟨w.heap.size, 0, none⟩) 1 1], rfl, by simp, by simp, rfl, fun j hj => ?_, ?_⟩
    · match j, hj with
      | 0, _ => simp [go_sem]
      | 1, _ => simp [go_sem]
      | 2, _ => simp [go_sem]
      | 3, _ => simp [go_sem]
    · refine ⟨_, _, rfl, ⟨none, 0, rfl, Nat.le_refl _, Nat.zero_le _, fun k hk => by cases hk⟩, ⟨some ⟨w.heap.size, 0, none⟩, 1, rfl, Nat.le_refl _, by unfold maxLen; simp [baseDL], fun k hk => ?_⟩, of_decide_eq_true (by kernel_rfl), of_decide_eq_true (by kernel_rfl)⟩
      have hk0 : k < 1 := hk
      match k, hk0 with
      | 0, _ =>
        refine ⟨_, _, [.string ⟨#[109, 97, 105, 110]⟩, .bool true, .slice none 0 0, .int .i64 0, .string ⟨#[]⟩, .int .i64 2, .int .i64 0, .string ⟨#[1, 0, 7, 31, 27]⟩, .slice none 0 0], rfl, by simp; omega, by simp; omega, rfl, fun j hj => ?_, ?_⟩
        · match j, hj with
          | 0, _ => simp [go_sem]
          | 1, _ => simp [go_sem]
          | 2, _ => simp [go_sem]
          | 3, _ => simp [go_sem]
          | 4, _ => simp [go_sem]
          | 5, _ => simp [go_sem]
          | 6, _ => simp [go_sem]
          | 7, _ => simp [go_sem]
          | 8, _ => simp [go_sem]
        · exact ⟨_, _, rfl, ⟨none, 0, rfl, Nat.le_refl _, Nat.zero_le _, fun k hk => by cases hk⟩, ⟨none, 0, rfl, Nat.le_refl _, Nat.zero_le _, fun k hk => by cases hk⟩, of_decide_eq_true (by kernel_rfl), of_decide_eq_true (by kernel_rfl), of_decide_eq_true (by kernel_rfl)⟩
  | 1, _ =>
    refine ⟨_, _, [.string ⟨#[69, 114, 114, 111, 114]⟩, .string ⟨#[79, 98, 106, 101, 99, 116]⟩, .slice (some ⟨w.heap.size + 1, 0, none⟩) 1 1, .slice none 0 0], rfl, by simp, by simp, rfl, fun j hj => ?_, ?_⟩
    · match j, hj with
      | 0, _ => simp [go_sem]
      | 1, _ => simp [go_sem]
      | 2, _ => simp [go_sem]
      | 3, _ => simp [go_sem]
    · refine ⟨_, _, rfl, ⟨some ⟨w.heap.size + 1, 0, none⟩, 1, rfl, Nat.le_refl _, by unfold maxLen; simp [baseDL], fun k hk => ?_⟩, ⟨none, 0, rfl, Nat.le_refl _, Nat.zero_le _, fun k hk => by cases hk⟩, of_decide_eq_true (by kernel_rfl), of_decide_eq_true (by kernel_rfl)⟩
      have hk0 : k < 1 := hk
      match k, hk0 with
      | 0, _ =>
        refine ⟨_, _, [.string ⟨#[99, 111, 100, 101]⟩, .int .i64 1, .string ⟨#[]⟩], rfl, by simp, by simp, rfl, fun j hj => ?_, ?_⟩
        · match j, hj with
          | 0, _ => simp [go_sem]
          | 1, _ => simp [go_sem]
          | 2, _ => simp [go_sem]
        · exact ⟨rfl, of_decide_eq_true (by kernel_rfl), of_decide_eq_true (by kernel_rfl)⟩


theorem base_facts : ∃ (bl : List ClassD) (bd : LinkD), bl = baseDL ∧ bd = linkD bl ∧ tieRes bl = 0 ∧ findErr bd errName = 0 ∧ findVal bd errName = 1 ∧ chkRes bd [1, 0] = 0 ∧ isVal bd 1 0 = true ∧ bd.supers.length = 2 ∧ bd.fields.length = 2 :=
  ⟨baseDL, linkD baseDL, rfl, rfl, base_tie, base_findE, base_findV, base_isE, base_isV, base_len.1, base_len.2⟩
end Go.Proofs.YtkhconnebiiboaaGreatDoor
/- verify.Join, within: where what is asked of may be asked of. -/
namespace Go.Proofs.YtkhconnebiiboaaGreatDoor
open Go.RowKit Go.Maps

set_option maxRecDepth 100000 in
set_option maxHeartbeats 8000000 in
theorem join1_any (w : World) (B : Nat) (aC aS aF aN aT : Option Addr) (cC cS cF cN cT : Nat) (d : LinkD) (hk : RLk (· < B) w (.slice aC d.classes.length cC) (.slice aS d.supers.length cS) (.slice aF d.fields.length cF) (.slice aN d.names.length cN) (.slice aT d.targets.length cT) d) (hB : B ≤ w.heap.size) (hg : GlK w) (h0 : chkRes d [] = 0) (hN : d.classes.length ≤ 10) {L : ByteArray → List ByteArray} (hc : Cls d L) (P0 P1 P2 : Nat)
    (k0 : w.heap[P0]? = some (.cells #[.slice aC d.classes.length cC, .slice aS d.supers.length cS, .slice aF d.fields.length cF, .slice aN d.names.length cN, .slice aT d.targets.length cT] 31 (0, 0))) (a b : KindD) (k1 : w.heap[P1]? = some (.cells #[.int .i64 a.kind, .string a.cls] 24 (0, 0))) (k2 : w.heap[P2]? = some (.cells #[.int .i64 b.kind, .string b.cls] 24 (0, 0)))
    (hsa : a.cls.size ≤ maxLen) (hsb : b.cls.size ≤ maxLen) (hoa : okK d a = true) (hob : okK d b = true) (hga : GdK (fun s => 0 ≤ num d.classes s) a) (hgb : GdK (fun s => 0 ≤ num d.classes s) b) :
    Calls Tryz.prog 16 #[.pointer (some ⟨P0, 0, none⟩), .pointer (some ⟨P1, 0, none⟩), .pointer (some ⟨P2, 0, none⟩)] w fun r w' => r = .returned (kv (joinB topName L a b)) ∧ Below w.heap.size w w' := by
  obtain ⟨W1, hW1⟩ : ∃ W1, W1 = w.alloc (.cells #[.int .i64 0, .string ⟨#[]⟩] 24) := ⟨_, rfl⟩
  have hB1 : Below w.heap.size w W1 := by rw [hW1]; exact (Below.refl _ _).alloc (Nat.le_refl _) _
  have hs1 : W1.heap.size = w.heap.size + 1 := by rw [hW1]; simp
  have hr1 : W1.heap[w.heap.size]? = some (.cells #[.int .i64 0, .string ⟨#[]⟩] 24 (0, 0)) := by rw [hW1]; exact heap_alloc_new w _
  have HAB : Hid (∀ W t, Below W1.heap.size W1 W → W.heap[w.heap.size + 1]? = some (.cells #[.int .i64 a.kind, .string a.cls, .int .i64 b.kind, .string b.cls] t (0, 0)) → Calls Tryz.prog 17 #[.agg #[.slice aC d.classes.length cC, .slice aS d.supers.length cS, .slice aF d.fields.length cF, .slice aN d.names.length cN, .slice aT d.targets.length cT], .slice (some ⟨w.heap.size + 1, 0, none⟩) 2 2] W fun r w' => ∃ Bm, r = .returned (kdV (.slice aC d.classes.length cC) (.slice aS d.supers.length cS) (.slice aF d.fields.length cF) (.slice aN d.names.length cN) (.slice aT d.targets.length cT) Bm) ∧ Below w.heap.size W1 w' ∧ Calls Tryz.prog 18 #[kdV (.slice aC d.classes.length cC) (.slice aS d.supers.length cS) (.slice aF d.fields.length cF) (.slice aN d.names.length cN) (.slice aT d.targets.length cT) Bm, kv a, kv b] w' fun r w2 => r = .returned (kv (joinB topName L a b)) ∧ Below w.heap.size W1 w2 ∧ w2.cell? ⟨w.heap.size, 0, none⟩ = some (.int .i64 0) ∧ w2.cell? ⟨w.heap.size, 1, none⟩ = some (.string ⟨#[]⟩) ∧ ∀ j, w2.frozen? ⟨w.heap.size, j, none⟩ = false) := fun W t hW hh => by
    have hwW : Below w.heap.size w W := hB1.trans (hW.mono hB1.size)
    refine (about_any W (w.heap.size + 1 + 1) _ _ _ _ _ d ((hk.kept (Kp.below (hwW.mono hB))).mono fun _ h => by omega) (by have := lt_of hh; omega) (hg.below hwW) h0 hN _ [a, b] (two_SL hh hsa hsb)).mono fun r w' ⟨hb, h⟩ => ?_
    rcases h with ⟨-, Bm, h1, h2⟩ | ⟨h, -⟩
    · have hb1 : Below W1.heap.size W1 w' := hW.trans (hb.mono hW.size)
      have hb' := hB1.trans (hb1.mono hB1.size)
      refine ⟨Bm, h1, hb1.mono (by omega), (kJoin_any w' w'.heap.size _ _ _ _ _ _ d h2 (Nat.le_refl _) (hg.below hb') hc a b hga hsa hgb hsb).mono fun r w2 ⟨e, h⟩ => ?_⟩
      have hb2 : Below W1.heap.size W1 w2 := hb1.trans (h.mono hb1.size)
      have hr2 := (hb2.block _ (lt_of hr1)).trans hr1
      exact ⟨e, hb2.mono (by omega), cell_of hr2 0 rfl, cell_of hr2 1 rfl, frz_of hr2⟩
    · simp [hoa, hob] at h
  have HNW : Hid ((W1.alloc (.cells #[.int .i64 a.kind, .string a.cls, .int .i64 b.kind, .string b.cls] 24)).heap[w.heap.size + 1]? = some (.cells #[.int .i64 a.kind, .string a.cls, .int .i64 b.kind, .string b.cls] 24 (0, 0))) := by show _ = _; rw [← hs1]; exact heap_alloc_new W1 _
  have l0 := lt_of k0
  have l1 := lt_of k1
  have l2 := lt_of k2
  have q0 := (hB1.block _ l0).trans k0
  have q1 := (hB1.block _ l1).trans k1
  have q2 := (hB1.block _ l2).trans k2
  have x0 := cell_of q0 0 (x := .slice aC d.classes.length cC) rfl
  have x1 := cell_of q0 1 (x := .slice aS d.supers.length cS) rfl
  have x2 := cell_of q0 2 (x := .slice aF d.fields.length cF) rfl
  have x3 := cell_of q0 3 (x := .slice aN d.names.length cN) rfl
  have x4 := cell_of q0 4 (x := .slice aT d.targets.length cT) rfl
  have y0 := cell_of q1 0 (x := .int .i64 a.kind) rfl
  have y1 := cell_of q1 1 (x := .string a.cls) rfl
  have z0 := cell_of q2 0 (x := .int .i64 b.kind) rfl
  have z1 := cell_of q2 1 (x := .string b.cls) rfl
  have HB1 := mkHid hB1
  clear hk hg h0 hoa hob hga hgb k0 k1 k2 hsa hsb hc q0 q1 q2 hr1 hB1
  go_enter Tryz.func16, Tryz.ntmps16
  go_wp2_with fail
  rw [← hW1]
  clear hW1
  go_region_held3 (fun W' => ∀ p : Addr, p.block < w.heap.size → W'.cell? p = W1.cell? p) (exact fun p hp => Below.cell (B := w.heap.size) (w := W1) (by repeat (first | assumption | exact Below.refl _ _ | refine Below.drew ?_ | refine Below.setCell ?_ (by simp) _ | refine Below.alloc ?_ (by first | omega | (simp <;> omega)) _)) hp) (first
    | (go_at_call 17; (try rw [hs1]); refine (HAB.out _ 24 ?_ ?_).mono ?_; (first | exact (((Below.refl _ _).alloc (Nat.le_refl _) _).drew) | exact (((Below.refl _ _).drew).alloc (Nat.le_refl _) _)); (exact HNW.out); rintro r w2 ⟨Bm, rfl, hb2, hn2⟩; have HN2 := mkHid hn2; clear hn2)
    | (go_at_call 18; refine HN2.out.mono ?_; rintro r w4 ⟨rfl, hb4, v0, v1, vf⟩))
  all_goals
    go_wp2_with fail
    exact bodyPost_ret (v := kv (joinB topName L a b)) (by simp [results, Tryz.results16, go_sem, v0, v1]) rfl ⟨rfl, ((HB1.out.trans hb4).setCell (Nat.le_refl _) _).setCell (Nat.le_refl _) _⟩
end Go.Proofs.YtkhconnebiiboaaGreatDoor
/- verify.Fits and Join, whole. -/
namespace Go.Proofs.YtkhconnebiiboaaGreatDoor
open Go.RowKit Go.Maps

theorem fits_no (w : World) (B : Nat) (aC aS aF aN aT : Option Addr) (cC cS cF cN cT : Nat) (d : LinkD) (hk : RLk (· < B) w (.slice aC d.classes.length cC) (.slice aS d.supers.length cS) (.slice aF d.fields.length cF) (.slice aN d.names.length cN) (.slice aT d.targets.length cT) d) (hB : B ≤ w.heap.size) (hg : GlK w) (h0 : chkRes d [] = 0) (hN : d.classes.length ≤ 10) (X : Nat) (a b : KindD) (hsa : a.cls.size ≤ maxLen) (hsb : b.cls.size ≤ maxLen) (hno : (okK d a && okK d b) = false) (W : World) (t : Nat) (hW : Below w.heap.size w W) (hh : W.heap[X]? = some (.cells #[.int .i64 a.kind, .string a.cls, .int .i64 b.kind, .string b.cls] t (0, 0))) (hX : w.heap.size ≤ X) :
    Calls Tryz.prog 17 #[.agg #[.slice aC d.classes.length cC, .slice aS d.supers.length cS, .slice aF d.fields.length cF, .slice aN d.names.length cN, .slice aT d.targets.length cT], .slice (some ⟨X, 0, none⟩) 2 2] W fun r w' => ∃ e, e ≠ 0 ∧ r = .panicked [wrongV e 0] ∧ Below w.heap.size w w' := by
  refine (about_any W (X + 1) _ _ _ _ _ d ((hk.kept (Kp.below (hW.mono hB))).mono fun _ h => by omega) (lt_of hh) (hg.below hW) h0 hN _ [a, b] (two_SL hh hsa hsb)).mono fun r w' ⟨hb, h⟩ => ?_
  rcases h with ⟨h, -⟩ | ⟨-, e, he, hr⟩
  · simp at h
    rw [h.1, h.2] at hno
    cases hno
  · exact ⟨e, he, hr, hW.trans (hb.mono hW.size)⟩
set_option maxRecDepth 100000 in
set_option maxHeartbeats 4000000 in
theorem fits1N_any (w : World) (B : Nat) (aC aS aF aN aT : Option Addr) (cC cS cF cN cT : Nat) (d : LinkD) (hk : RLk (· < B) w (.slice aC d.classes.length cC) (.slice aS d.supers.length cS) (.slice aF d.fields.length cF) (.slice aN d.names.length cN) (.slice aT d.targets.length cT) d) (hB : B ≤ w.heap.size) (hg : GlK w) (h0 : chkRes d [] = 0) (hN : d.classes.length ≤ 10) (P0 P1 P2 : Nat)
    (k0 : w.heap[P0]? = some (.cells #[.slice aC d.classes.length cC, .slice aS d.supers.length cS, .slice aF d.fields.length cF, .slice aN d.names.length cN, .slice aT d.targets.length cT] 31 (0, 0))) (a b : KindD) (k1 : w.heap[P1]? = some (.cells #[.int .i64 a.kind, .string a.cls] 24 (0, 0))) (k2 : w.heap[P2]? = some (.cells #[.int .i64 b.kind, .string b.cls] 24 (0, 0)))
    (hsa : a.cls.size ≤ maxLen) (hsb : b.cls.size ≤ maxLen) (hno : (okK d a && okK d b) = false) :
    Calls Tryz.prog 20 #[.pointer (some ⟨P0, 0, none⟩), .pointer (some ⟨P1, 0, none⟩), .pointer (some ⟨P2, 0, none⟩)] w fun r w' => ∃ e, e ≠ 0 ∧ r = .panicked [wrongV e 0] ∧ Below w.heap.size w w' := by
  have HAB := mkHid (fits_no w B aC aS aF aN aT cC cS cF cN cT d hk hB hg h0 hN w.heap.size a b hsa hsb hno)
  have HNW := mkHid (heap_alloc_new w (.cells #[.int .i64 a.kind, .string a.cls, .int .i64 b.kind, .string b.cls] 24))
  have x0 := cell_of k0 0 (x := .slice aC d.classes.length cC) rfl
  have x1 := cell_of k0 1 (x := .slice aS d.supers.length cS) rfl
  have x2 := cell_of k0 2 (x := .slice aF d.fields.length cF) rfl
  have x3 := cell_of k0 3 (x := .slice aN d.names.length cN) rfl
  have x4 := cell_of k0 4 (x := .slice aT d.targets.length cT) rfl
  have y0 := cell_of k1 0 (x := .int .i64 a.kind) rfl
  have y1 := cell_of k1 1 (x := .string a.cls) rfl
  have z0 := cell_of k2 0 (x := .int .i64 b.kind) rfl
  have z1 := cell_of k2 1 (x := .string b.cls) rfl
  have l0 := lt_of k0
  have l1 := lt_of k1
  have l2 := lt_of k2
  clear hk hg h0 hno k0 k1 k2 hsa hsb
  go_enter Tryz.func20, Tryz.ntmps20
  go_wp2_with fail
  refine wp_region_held_drew (S := fun W' => ∀ p : Addr, p.block < w.heap.size → W'.cell? p = w.cell? p) (by kernel_rfl) (fun p hp => rfl) fun hH => ?_
  refine wpAnyH_take (i := 0) (v := .agg #[.slice aC d.classes.length cC, .slice aS d.supers.length cS, .slice aF d.fields.length cF, .slice aN d.names.length cN, .slice aT d.targets.length cT]) rfl (by kernel_rfl) (by kernel_rfl) (by kernel_rfl) (fun _ _ _ h => h) (Or.inl ⟨by kernel_rfl, ?_⟩) hH ?_
  · intro w hSw
    go_simp
  refine wpAnyH_take (i := 1) (v := .agg #[.int .i64 a.kind, .string a.cls]) rfl (by kernel_rfl) (by kernel_rfl) (by kernel_rfl) (fun _ _ _ h => h) (Or.inl ⟨by kernel_rfl, ?_⟩) hH ?_
  · intro w hSw
    go_simp
  refine wpAnyH_take (i := 2) (v := .agg #[.int .i64 b.kind, .string b.cls]) rfl (by kernel_rfl) (by kernel_rfl) (by kernel_rfl) (fun _ _ _ h => h) (Or.inl ⟨by kernel_rfl, ?_⟩) hH ?_
  · intro w hSw
    go_simp
  refine wpAnyH_take (i := 5) (v := .agg #[.int .i64 a.kind, .string a.cls]) rfl (by kernel_rfl) (by kernel_rfl) (by kernel_rfl) (fun _ _ _ h => h) (Or.inl ⟨by kernel_rfl, ?_⟩) hH ?_
  · intro w hSw
    go_simp
  refine wpAnyH_take (i := 6) (v := .agg #[.int .i64 b.kind, .string b.cls]) rfl (by kernel_rfl) (by kernel_rfl) (by kernel_rfl) (fun _ _ _ h => h) (Or.inl ⟨by kernel_rfl, ?_⟩) hH ?_
  · intro w hSw
    go_simp
  refine wpAnyH_ready (rs := [3]) (by kernel_rfl) (by simp) ?_
  refine AllReadyH.cons rfl (fun K hK => ?_) AllReadyH.nil
  go_simp
  refine hK.out _ _ (fun p hp => Below.cell (B := w.heap.size) (w := w) (((Below.refl _ _).drew).alloc (Nat.le_refl _) _) hp) fun _ => ?_
  refine wpAnyH_ready (rs := [4]) (by kernel_rfl) (by simp) ?_
  refine AllReadyH.cons rfl (fun K' hK' => ?_) AllReadyH.nil
  go_simp
  refine (HAB.out _ 24 (((Below.refl _ _).drew).alloc (Nat.le_refl _) _) HNW.out (Nat.le_refl _)).mono ?_
  rintro r w2 ⟨e, he, rfl, hb2⟩
  exact ⟨rfl, e, he, rfl, hb2⟩
set_option maxRecDepth 100000 in
set_option maxHeartbeats 4000000 in
theorem join1N_any (w : World) (B : Nat) (aC aS aF aN aT : Option Addr) (cC cS cF cN cT : Nat) (d : LinkD) (hk : RLk (· < B) w (.slice aC d.classes.length cC) (.slice aS d.supers.length cS) (.slice aF d.fields.length cF) (.slice aN d.names.length cN) (.slice aT d.targets.length cT) d) (hB : B ≤ w.heap.size) (hg : GlK w) (h0 : chkRes d [] = 0) (hN : d.classes.length ≤ 10) (P0 P1 P2 : Nat)
    (k0 : w.heap[P0]? = some (.cells #[.slice aC d.classes.length cC, .slice aS d.supers.length cS, .slice aF d.fields.length cF, .slice aN d.names.length cN, .slice aT d.targets.length cT] 31 (0, 0))) (a b : KindD) (k1 : w.heap[P1]? = some (.cells #[.int .i64 a.kind, .string a.cls] 24 (0, 0))) (k2 : w.heap[P2]? = some (.cells #[.int .i64 b.kind, .string b.cls] 24 (0, 0)))
    (hsa : a.cls.size ≤ maxLen) (hsb : b.cls.size ≤ maxLen) (hno : (okK d a && okK d b) = false) :
    Calls Tryz.prog 16 #[.pointer (some ⟨P0, 0, none⟩), .pointer (some ⟨P1, 0, none⟩), .pointer (some ⟨P2, 0, none⟩)] w fun r w' => ∃ e, e ≠ 0 ∧ r = .panicked [wrongV e 0] ∧ Below w.heap.size w w' := by
  obtain ⟨W1, hW1, hB1, hs1, hr1⟩ := boxes1 w #[.int .i64 0, .string ⟨#[]⟩] 24
  have HAB := mkHid (fits_no w B aC aS aF aN aT cC cS cF cN cT d hk hB hg h0 hN W1.heap.size a b hsa hsb hno)
  have HNW := mkHid (heap_alloc_new W1 (.cells #[.int .i64 a.kind, .string a.cls, .int .i64 b.kind, .string b.cls] 24))
  have HB1 := mkHid hB1
  have l0 := lt_of k0
  have l1 := lt_of k1
  have l2 := lt_of k2
  have q0 := (hB1.block _ l0).trans k0
  have q1 := (hB1.block _ l1).trans k1
  have q2 := (hB1.block _ l2).trans k2
  have x0 := cell_of q0 0 (x := .slice aC d.classes.length cC) rfl
  have x1 := cell_of q0 1 (x := .slice aS d.supers.length cS) rfl
  have x2 := cell_of q0 2 (x := .slice aF d.fields.length cF) rfl
  have x3 := cell_of q0 3 (x := .slice aN d.names.length cN) rfl
  have x4 := cell_of q0 4 (x := .slice aT d.targets.length cT) rfl
  have y0 := cell_of q1 0 (x := .int .i64 a.kind) rfl
  have y1 := cell_of q1 1 (x := .string a.cls) rfl
  have z0 := cell_of q2 0 (x := .int .i64 b.kind) rfl
  have z1 := cell_of q2 1 (x := .string b.cls) rfl
  have m0 := lt_of q0
  have m1 := lt_of q1
  have m2 := lt_of q2
  clear hk hg h0 hno k0 k1 k2 hsa hsb q0 q1 q2 hr1 hs1
  go_enter Tryz.func16, Tryz.ntmps16
  go_wp2_with fail
  rw [← hW1]
  clear hW1
  refine wp_region_held_drew (S := fun W' => ∀ p : Addr, p.block < W1.heap.size → W'.cell? p = W1.cell? p) (by kernel_rfl) (fun p hp => rfl) fun hH => ?_
  refine wpAnyH_take (i := 0) (v := .agg #[.slice aC d.classes.length cC, .slice aS d.supers.length cS, .slice aF d.fields.length cF, .slice aN d.names.length cN, .slice aT d.targets.length cT]) rfl (by kernel_rfl) (by kernel_rfl) (by kernel_rfl) (fun _ _ _ h => h) (Or.inl ⟨by kernel_rfl, ?_⟩) hH ?_
  · intro w hSw
    go_simp
  refine wpAnyH_take (i := 1) (v := .agg #[.int .i64 a.kind, .string a.cls]) rfl (by kernel_rfl) (by kernel_rfl) (by kernel_rfl) (fun _ _ _ h => h) (Or.inl ⟨by kernel_rfl, ?_⟩) hH ?_
  · intro w hSw
    go_simp
  refine wpAnyH_take (i := 2) (v := .agg #[.int .i64 b.kind, .string b.cls]) rfl (by kernel_rfl) (by kernel_rfl) (by kernel_rfl) (fun _ _ _ h => h) (Or.inl ⟨by kernel_rfl, ?_⟩) hH ?_
  · intro w hSw
    go_simp
  refine wpAnyH_take (i := 5) (v := .agg #[.int .i64 a.kind, .string a.cls]) rfl (by kernel_rfl) (by kernel_rfl) (by kernel_rfl) (fun _ _ _ h => h) (Or.inl ⟨by kernel_rfl, ?_⟩) hH ?_
  · intro w hSw
    go_simp
  refine wpAnyH_take (i := 6) (v := .agg #[.int .i64 b.kind, .string b.cls]) rfl (by kernel_rfl) (by kernel_rfl) (by kernel_rfl) (fun _ _ _ h => h) (Or.inl ⟨by kernel_rfl, ?_⟩) hH ?_
  · intro w hSw
    go_simp
  refine wpAnyH_ready (rs := [3]) (by kernel_rfl) (by simp) ?_
  refine AllReadyH.cons rfl (fun K hK => ?_) AllReadyH.nil
  go_simp
  refine hK.out _ _ (fun p hp => Below.cell (B := W1.heap.size) (w := W1) (((Below.refl _ _).drew).alloc (Nat.le_refl _) _) hp) fun _ => ?_
  refine wpAnyH_ready (rs := [4]) (by kernel_rfl) (by simp) ?_
  refine AllReadyH.cons rfl (fun K' hK' => ?_) AllReadyH.nil
  go_simp
  refine (HAB.out _ 24 (HB1.out.trans ((((Below.refl W1.heap.size W1).drew).alloc (Nat.le_refl _) _).mono HB1.out.size)) HNW.out HB1.out.size).mono ?_
  rintro r w2 ⟨e, he, rfl, hb2⟩
  exact ⟨rfl, e, he, rfl, hb2⟩
theorem callFits1 (args : Array Value) (w : World) : (callFunc 20 args).run Tryz.prog w = .ok (.enter 20 args) w := by kernel_rfl
theorem callJoin1 (args : Array Value) (w : World) : (callFunc 16 args).run Tryz.prog w = .ok (.enter 16 args) w := by kernel_rfl
def FitOut (d : LinkD) (L : ByteArray → List ByteArray) (a b : KindD) (r : Ending) (w w' : World) : Prop := Below w.heap.size w w' ∧ ((okK d a && okK d b) = true ∧ r = .returned (.tuple #[.bool (fitB topName L a b), .int .i64 0]) ∨ (okK d a && okK d b) = false ∧ ∃ e, e ≠ 0 ∧ r = .returned (.tuple #[.bool false, .int .i64 e]))
set_option maxRecDepth 100000 in
set_option maxHeartbeats 4000000 in
theorem Fits_any (w : World) (B : Nat) (aC aS aF aN aT : Option Addr) (cC cS cF cN cT : Nat) (d : LinkD) (hk : RLk (· < B) w (.slice aC d.classes.length cC) (.slice aS d.supers.length cS) (.slice aF d.fields.length cF) (.slice aN d.names.length cN) (.slice aT d.targets.length cT) d) (hB : B ≤ w.heap.size) (hg : GlK w) (h0 : chkRes d [] = 0) (hN : d.classes.length ≤ 10) {L : ByteArray → List ByteArray} (hc : Cls d L) (hgd : ∀ x, okK d x = true → GdK (fun s => 0 ≤ num d.classes s) x) (a b : KindD) (hsa : a.cls.size ≤ maxLen) (hsb : b.cls.size ≤ maxLen) :
    Calls Tryz.prog 8 #[.agg #[.slice aC d.classes.length cC, .slice aS d.supers.length cS, .slice aF d.fields.length cF, .slice aN d.names.length cN, .slice aT d.targets.length cT], kv a, kv b] w fun r w' => FitOut d L a b r w w' := by
  have hmf : ∀ (fn : Fn) (first cap : Array Value) (w : World), (Instr.makeFunc fn first cap).run Tryz.prog w = .ok (.func fn first cap) w := fun _ _ _ _ => rfl
  obtain ⟨W0, hW0, hB0, hs0, q0, q1, q2⟩ := boxes3 w #[.slice aC d.classes.length cC, .slice aS d.supers.length cS, .slice aF d.fields.length cF, .slice aN d.names.length cN, .slice aT d.targets.length cT] #[.int .i64 a.kind, .string a.cls] #[.int .i64 b.kind, .string b.cls] 31 24 24
  have HB0 := mkHid hB0
  have HM := mkHid (madeB_any W0 20 #[.pointer (some ⟨w.heap.size, 0, none⟩), .pointer (some ⟨w.heap.size + 1, 0, none⟩), .pointer (some ⟨w.heap.size + 1 + 1, 0, none⟩)] (fun v _ => (okK d a && okK d b) = true ∧ v = .bool (fitB topName L a b)) (fun e _ => (okK d a && okK d b) = false ∧ e ≠ 0) callFits1 (fun W hW _ => by
    have hb := hB0.trans (hW.mono hB0.size)
    cases ho : (okK d a && okK d b) with
    | true =>
      rw [Bool.and_eq_true] at ho
      exact (fits1_any W B _ _ _ _ _ _ _ _ _ _ d (hk.kept (Kp.below (hb.mono hB))) (Nat.le_trans hB hb.size) (hg.below hb) h0 hN hc w.heap.size (w.heap.size + 1) (w.heap.size + 1 + 1) ((hW.block _ (lt_of q0)).trans q0) a b ((hW.block _ (lt_of q1)).trans q1) ((hW.block _ (lt_of q2)).trans q2) hsa hsb ho.1 ho.2 (hgd a ho.1)).mono fun r w' ⟨e, h⟩ => ⟨h, Or.inl ⟨_, e, ⟨_, rfl⟩, rfl, rfl⟩⟩
    | false =>
      exact (fits1N_any W B _ _ _ _ _ _ _ _ _ _ d (hk.kept (Kp.below (hb.mono hB))) (Nat.le_trans hB hb.size) (hg.below hb) h0 hN w.heap.size (w.heap.size + 1) (w.heap.size + 1 + 1) ((hW.block _ (lt_of q0)).trans q0) a b ((hW.block _ (lt_of q1)).trans q1) ((hW.block _ (lt_of q2)).trans q2) hsa hsb ho).mono fun r w' ⟨e, he, hr, h⟩ => ⟨h, Or.inr ⟨e, 0, hr, rfl, he⟩⟩) (fun _ _ _ _ _ h => h))
  clear hk hg h0 hc hgd hB0 hs0 q0 q1 q2
  go_enter Tryz.func8, Tryz.ntmps8
  go_wp2_with fail
  rw [← hW0]
  clear hW0
  refine HM.out.mono ?_
  rintro r w2 ⟨hb2, hz2, ⟨v, rfl, -, ho, rfl⟩ | ⟨e, p, rfl, he⟩⟩
  · have HBF := mkHid (fun o => (HB0.out.trans (hb2.mono HB0.out.size)).alloc (Nat.le_trans HB0.out.size hb2.size) o)
    have HO := mkHid ho
    clear hb2 ho HM
    go_wp2_with fail
    go_quiet (fail)
    go_wp2_with fail
    go_ret2
    exact ⟨below_dn (HBF.out _) _, Or.inl ⟨HO.out, rfl⟩⟩
  · have HBF := mkHid (fun o => (HB0.out.trans (hb2.mono HB0.out.size)).alloc (Nat.le_trans HB0.out.size hb2.size) o)
    have HE := mkHid he
    clear hb2 he HM
    go_wp2_with fail
    go_quiet (fail)
    go_wp2_with fail
    go_ret2
    exact ⟨below_dn (HBF.out _) _, Or.inr ⟨HE.out.1, e, HE.out.2, rfl⟩⟩
def JoinOut (d : LinkD) (L : ByteArray → List ByteArray) (a b : KindD) (r : Ending) (w w' : World) : Prop := Below w.heap.size w w' ∧ ((okK d a && okK d b) = true ∧ r = .returned (.tuple #[kv (joinB topName L a b), .int .i64 0]) ∨ (okK d a && okK d b) = false ∧ ∃ e, e ≠ 0 ∧ r = .returned (.tuple #[kv ⟨0, ⟨#[]⟩⟩, .int .i64 e]))
set_option maxRecDepth 100000 in
set_option maxHeartbeats 4000000 in
theorem Join_any (w : World) (B : Nat) (aC aS aF aN aT : Option Addr) (cC cS cF cN cT : Nat) (d : LinkD) (hk : RLk (· < B) w (.slice aC d.classes.length cC) (.slice aS d.supers.length cS) (.slice aF d.fields.length cF) (.slice aN d.names.length cN) (.slice aT d.targets.length cT) d) (hB : B ≤ w.heap.size) (hg : GlK w) (h0 : chkRes d [] = 0) (hN : d.classes.length ≤ 10) {L : ByteArray → List ByteArray} (hc : Cls d L) (hgd : ∀ x, okK d x = true → GdK (fun s => 0 ≤ num d.classes s) x) (a b : KindD) (hsa : a.cls.size ≤ maxLen) (hsb : b.cls.size ≤ maxLen) :
    Calls Tryz.prog 7 #[.agg #[.slice aC d.classes.length cC, .slice aS d.supers.length cS, .slice aF d.fields.length cF, .slice aN d.names.length cN, .slice aT d.targets.length cT], kv a, kv b] w fun r w' => JoinOut d L a b r w w' := by
  have hmf : ∀ (fn : Fn) (first cap : Array Value) (w : World), (Instr.makeFunc fn first cap).run Tryz.prog w = .ok (.func fn first cap) w := fun _ _ _ _ => rfl
  obtain ⟨W0, hW0, hB0, hs0, q0, q1, q2, q3⟩ := boxes4 w #[.slice aC d.classes.length cC, .slice aS d.supers.length cS, .slice aF d.fields.length cF, .slice aN d.names.length cN, .slice aT d.targets.length cT] #[.int .i64 a.kind, .string a.cls] #[.int .i64 b.kind, .string b.cls] #[.int .i64 0, .string ⟨#[]⟩] 31 24 24 24
  have HB0 := mkHid hB0
  have HQ3 := mkHid q3
  have HM := mkHid (madeKk_any W0 16 #[.pointer (some ⟨w.heap.size, 0, none⟩), .pointer (some ⟨w.heap.size + 1, 0, none⟩), .pointer (some ⟨w.heap.size + 1 + 1, 0, none⟩)] (fun v _ => (okK d a && okK d b) = true ∧ v = kv (joinB topName L a b)) (fun e _ => (okK d a && okK d b) = false ∧ e ≠ 0) callJoin1 (fun W hW _ => by
    have hb := hB0.trans (hW.mono hB0.size)
    cases ho : (okK d a && okK d b) with
    | true =>
      rw [Bool.and_eq_true] at ho
      exact (join1_any W B _ _ _ _ _ _ _ _ _ _ d (hk.kept (Kp.below (hb.mono hB))) (Nat.le_trans hB hb.size) (hg.below hb) h0 hN hc w.heap.size (w.heap.size + 1) (w.heap.size + 1 + 1) ((hW.block _ (lt_of q0)).trans q0) a b ((hW.block _ (lt_of q1)).trans q1) ((hW.block _ (lt_of q2)).trans q2) hsa hsb ho.1 ho.2 (hgd a ho.1) (hgd b ho.2)).mono fun r w' ⟨e, h⟩ => ⟨h, Or.inl ⟨_, e, ⟨_, _, rfl⟩, rfl, rfl⟩⟩
    | false =>
      exact (join1N_any W B _ _ _ _ _ _ _ _ _ _ d (hk.kept (Kp.below (hb.mono hB))) (Nat.le_trans hB hb.size) (hg.below hb) h0 hN w.heap.size (w.heap.size + 1) (w.heap.size + 1 + 1) ((hW.block _ (lt_of q0)).trans q0) a b ((hW.block _ (lt_of q1)).trans q1) ((hW.block _ (lt_of q2)).trans q2) hsa hsb ho).mono fun r w' ⟨e, he, hr, h⟩ => ⟨h, Or.inr ⟨e, 0, hr, rfl, he⟩⟩) (fun _ _ _ _ _ h => h))
  clear hk hg h0 hc hgd hB0 hs0 q0 q1 q2 q3
  go_enter Tryz.func7, Tryz.ntmps7
  go_wp2_with fail
  rw [← hW0]
  clear hW0
  refine HM.out.mono ?_
  rintro r w2 ⟨hb2, hz2, ⟨v, rfl, -, ho, rfl⟩ | ⟨e, p, rfl, he⟩⟩
  all_goals clear HM
  · obtain ⟨j, hj⟩ : ∃ j, j = joinB topName L a b := ⟨_, rfl⟩
    rw [← hj]
    have HJ := mkHid hj
    clear hj
    have h3 := (hb2.block _ (lt_of HQ3.out)).trans HQ3.out
    have z0 := cell_of h3 0 (x := .int .i64 0) rfl
    have z1 := cell_of h3 1 (x := .string ⟨#[]⟩) rfl
    have zf := frz_of h3
    have l3 : w.heap.size + 1 + 1 + 1 < w2.heap.size := lt_of h3
    have hbw := HB0.out.trans (hb2.mono HB0.out.size)
    have HBW := mkHid hbw
    have HGE : Hid (w.heap.size ≤ w.heap.size + 1 + 1 + 1) := (by omega : w.heap.size ≤ w.heap.size + 1 + 1 + 1)
    generalize w.heap.size + 1 + 1 + 1 = P3 at *
    have l4 : P3 < w2.heap.size + 1 := by omega
    have n3 : ¬ P3 = w2.heap.size := by omega
    have n4 : ¬ P3 = w2.heap.size + 1 := by omega
    have HLE : Hid (w.heap.size ≤ w2.heap.size) := HBW.out.size
    have HO := mkHid ho
    clear ho h3 hbw
    go_wp2_with fail
    go_region
    all_goals
      go_wp2
      exact bodyPost_ret (v := .tuple #[kv j, .int .i64 0]) (by simp [results, Tryz.results7, go_sem, z0, z1, l3, l4]) rfl ⟨by repeat (first | exact HBW.out | refine Below.drew ?_ | refine Below.setCell ?_ HGE.out _ | refine Below.alloc ?_ (by have := HLE.out; simp [World.setCell] <;> omega) _), Or.inl ⟨HO.out, by rw [HJ.out]⟩⟩
  · have h3 := (hb2.block _ (lt_of HQ3.out)).trans HQ3.out
    have z0 := cell_of h3 0 (x := .int .i64 0) rfl
    have z1 := cell_of h3 1 (x := .string ⟨#[]⟩) rfl
    have zf := frz_of h3
    have l3 : w.heap.size + 1 + 1 + 1 < w2.heap.size := lt_of h3
    have hbw := HB0.out.trans (hb2.mono HB0.out.size)
    have HBW := mkHid hbw
    have HGE : Hid (w.heap.size ≤ w.heap.size + 1 + 1 + 1) := (by omega : w.heap.size ≤ w.heap.size + 1 + 1 + 1)
    generalize w.heap.size + 1 + 1 + 1 = P3 at *
    have l4 : P3 < w2.heap.size + 1 := by omega
    have n3 : ¬ P3 = w2.heap.size := by omega
    have n4 : ¬ P3 = w2.heap.size + 1 := by omega
    have HLE : Hid (w.heap.size ≤ w2.heap.size) := HBW.out.size
    have HE := mkHid he
    clear he h3 hbw
    go_wp2_with fail
    go_region
    all_goals
      go_wp2
      exact bodyPost_ret (v := .tuple #[kv ⟨0, ⟨#[]⟩⟩, .int .i64 e]) (by simp [results, Tryz.results7, go_sem, z0, z1, l3, l4]) rfl ⟨by repeat (first | exact HBW.out | refine Below.drew ?_ | refine Below.setCell ?_ HGE.out _ | refine Below.alloc ?_ (by have := HLE.out; simp [World.setCell] <;> omega) _), Or.inr ⟨HE.out.1, e, HE.out.2, rfl⟩⟩
end Go.Proofs.YtkhconnebiiboaaGreatDoor
/- The contract of what must be in any case, of linked classes. -/
namespace Go.Proofs.YtkhconnebiiboaaGreatDoor
open Go.RowKit Go.Maps

set_option maxRecDepth 100000 in
set_option maxHeartbeats 2000000 in
theorem linkBegun_any (w : World) : Calls Tryz.prog 5 #[] w fun r w' => r = .returned (.bool true) ∧ Below w.heap.size w w' := by
  obtain ⟨bl, bd, hbl, hbd, hT, hE, hV, hIE, hIV, hl1, hl2⟩ := base_facts
  have HBA : Hid (Calls Tryz.prog 9 #[] w fun r w' => Below w.heap.size w w' ∧ ∃ v, r = .returned v ∧ SL 4 RC (· < w'.heap.size) w' v bl) := by
    show Calls _ _ _ _ _
    rw [hbl]
    exact base_anyL w
  have HLK : Hid (∀ w B v, SL 4 RC (· < B) w v bl → B ≤ w.heap.size → Calls Tryz.prog 6 #[v] w fun r w' => Below w.heap.size w w' ∧ ∃ kC kS kF kN kT, r = .returned (.tuple #[.agg #[kC, kS, kF, kN, kT], .int .i64 0]) ∧ RLk (· < w'.heap.size) w' kC kS kF kN kT bd) := fun w B v h hB => (Link_any w B bl v h hB).mono fun r w' ⟨hb, h⟩ => by
    rcases h with ⟨-, kC, kS, kF, kN, kT, h1, h2⟩ | ⟨h0, -⟩
    · exact ⟨hb, kC, kS, kF, kN, kT, h1, hbd ▸ h2.mono fun k h => h.2⟩
    · exact absurd hT h0
  have HE := mkHid hE
  have HV := mkHid hV
  have HIE := mkHid hIE
  have HIV := mkHid hIV
  have HL1 := mkHid hl1
  have HL2 := mkHid hl2
  clear hbl hbd hT hE hV hIE hIV hl1 hl2
  go_enter Tryz.func5, Tryz.ntmps5
  go_wp2_with fail
  refine HBA.out.mono ?_
  rintro r w1 ⟨hb1, v, rfl, sv⟩
  have HB1 := mkHid hb1
  have HSV := mkHid sv
  obtain ⟨a0, c0, rfl, -⟩ := sv
  clear hb1
  go_wp2_with fail
  refine (HLK.out w1 w1.heap.size _ HSV.out (Nat.le_refl _)).mono ?_
  rintro r w2 ⟨hb2, kC, kS, kF, kN, kT, rfl, hk⟩
  obtain ⟨aC, cC, aS, cS, aF, cF, aN, cN, aT, cT, rfl, rfl, rfl, rfl, rfl⟩ := hk.agg
  have HB2 := mkHid (HB1.out.trans (hb2.mono HB1.out.size))
  have HB3 := mkHid (fun o => (Below.refl w2.heap.size w2).alloc (Nat.le_refl _) o)
  have HKA : Hid (∀ W, Below w2.heap.size w2 W → RLk (· < w2.heap.size) W (.slice aC bd.classes.length cC) (.slice aS bd.supers.length cS) (.slice aF bd.fields.length cF) (.slice aN bd.names.length cN) (.slice aT bd.targets.length cT) bd) := fun W hW => hk.kept (Kp.below hW)
  clear hk hb2 HSV
  go_wp2_with fail
  refine (Find_any _ w2.heap.size _ _ _ _ _ bd errName (HKA.out _ (HB3.out _)) (HB3.out _).size (by decide)).mono ?_
  rintro r w3 ⟨rfl, hb3⟩
  have hB3 := (HB3.out (.cells #[.slice aC bd.classes.length cC, .slice aS bd.supers.length cS, .slice aF bd.fields.length cF, .slice aN bd.names.length cN, .slice aT bd.targets.length cT] 31)).trans (hb3.mono (HB3.out _).size)
  have hK3 := (hb3.block w2.heap.size (by simp)).trans (heap_alloc_new w2 _)
  rw [HE.out, HV.out]
  have d0 := cell_of hK3 0 (x := .slice aC bd.classes.length cC) rfl
  have d1 := cell_of hK3 1 (x := .slice aS bd.supers.length cS) rfl
  have d2 := cell_of hK3 2 (x := .slice aF bd.fields.length cF) rfl
  have d3 := cell_of hK3 3 (x := .slice aN bd.names.length cN) rfl
  have d4 := cell_of hK3 4 (x := .slice aT bd.targets.length cT) rfl
  have lk3 := lt_of hK3
  have HK3 := mkHid hK3
  have HB4 := mkHid hB3
  clear hb3 hB3 hK3
  go_wp2_with fail
  refine (Is_any _ w2.heap.size _ _ _ _ _ bd 1 0 (HKA.out _ HB4.out) HB4.out.size).mono ?_
  rintro r w4 ⟨rfl, hb4⟩
  have hK4 := (hb4.block w2.heap.size lk3).trans HK3.out
  rw [HIE.out, HIV.out]
  have f1 := cell_of hK4 1 (x := .slice aS bd.supers.length cS) rfl
  have f2 := cell_of hK4 2 (x := .slice aF bd.fields.length cF) rfl
  have lk4 := lt_of hK4
  have HB5 := mkHid (HB2.out.trans ((HB4.out.trans (hb4.mono HB4.out.size)).mono HB2.out.size))
  clear d0 d1 d2 d3 d4 hb4 hK4 HK3 HKA
  have hl1 := HL1.out
  have hl2 := HL2.out
  rw [hl1] at f1
  rw [hl2] at f2
  go_wp2_with fail
  go_ret
  exact ⟨rfl, HB5.out⟩
end Go.Proofs.YtkhconnebiiboaaGreatDoor
