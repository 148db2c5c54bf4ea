/- The document's own reading of linked classes: who is under whom. -/
import Derived.Test.YtkpklkhkhhlifabGreatJLRf2LRf3
import Derived.Test.YtkpklkhkhhlifabGreatLMk
import Derived.Test.YtkpklkhkhhlifabGreatGrow
namespace Go.Proofs.YtkpklkhkhhlifabGreat
open Go.RowKit Go.Sort

def isUnd (l : List ClassD) (x : Nat) (y : Int) : Bool := (upOf l x).any fun z : Nat => ((z : Int) == y)
theorem any_hit {xs : List Nat} {y : Int} {k : Nat} (hk : k < xs.length) (h : (xs[k] : Int) = y) : (xs.any fun z : Nat => ((z : Int) == y)) = true := by
  rw [List.any_eq_true]
  exact ⟨xs[k], List.getElem_mem hk, by simp [h]⟩
theorem any_miss {xs : List Nat} {y : Int} (h : ∀ (j : Nat) (hj : j < xs.length), (xs[j] : Int) ≠ y) : (xs.any fun z : Nat => ((z : Int) == y)) = false := by
  rw [List.any_eq_false]
  intro z hz
  obtain ⟨j, hj, rfl⟩ := List.getElem_of_mem hz
  simp [h j hj]

set_option maxHeartbeats 2000000 in
theorem IsUnder_any (w : World) (B : Nat) (kC kS kF kN kT : Value) (l : List ClassD) (x : Nat) (y : Int) (hx : x < l.length) (hv : SL 4 RC (· < B) w kC l) (hB : B ≤ w.heap.size) (hN : l.length ≤ 10) :
    Calls Tryz.prog 20 #[.agg #[kC, kS, kF, kN, kT], .int .i64 x, .int .i64 y] w fun r w' => r = .returned (.bool (isUnd l x y)) ∧ Below w.heap.size w w' := by
  have hB0 : Below w.heap.size w (w.alloc (.cells #[kC, kS, kF, kN, kT] 28)) := (Below.refl _ _).alloc (Nat.le_refl _) _
  have HUP := mkHid (UpFrom_any (w.alloc (.cells #[kC, kS, kF, kN, kT] 28)) B kC l x hx (hv.keptC (Kp.below (hB0.mono hB))) (by simp; omega) hN)
  have hul := (upOf_ok hx).2
  have HIU : Hid (isUnd l x y = (upOf l x).any fun z : Nat => ((z : Int) == y)) := rfl
  have HB0 := mkHid hB0
  generalize upOf l x = up at *
  clear hv hB0
  go_enter Tryz.func20, Tryz.ntmps20
  go_wp2_with (first | (go_at_call 45; refine HUP.out.mono ?_; rintro r wz ⟨hb7, u7, rfl, su7⟩; have HS := mkHid su7; have HBZ := mkHid (HB0.out.trans (hb7.mono (by simp))); obtain ⟨au, cu, rfl, -⟩ := su7; clear hb7))
  go_loopw [8] (fun i wx => ∃ k : Nat, k ≤ up.length ∧ i = .int .i64 k ∧ Hid (∀ (j : Nat) (hj : j < up.length), j < k → (up[j] : Int) ≠ y) ∧ wx = wz) (fun i _ => up.length - (intOf i).toNat)
  case atStart => exact ⟨0, Nat.zero_le _, rfl, (fun j _ h => by omega), rfl⟩
  case round =>
    obtain ⟨k, hk, rfl, HQ, rfl⟩ := hrel
    rename World => wz
    by_cases hlt : k < up.length
    · obtain ⟨bu, ou, rfl, hbu, eu⟩ := HS.out.atO k hlt
      by_cases hs : (up[k] : Int) = y
      · have HR := mkHid (HIU.out.trans (any_hit hlt hs))
        rw [hs] at eu
        clear hs
        go_wp2_with fail
        go_ret
        exact ⟨by rw [HR.out]; rfl, HBZ.out⟩
      · have HR : Hid (∀ (j : Nat) (hj : j < up.length), j < k + 1 → (up[j] : Int) ≠ y) := fun j hj h => by
          by_cases hjk : j < k
          · exact HQ.out j hj hjk
          · have : j = k := by omega
            subst this
            exact hs
        generalize (up[k] : Int) = uk at *
        have hs' : (uk == y) = false := beq_eq_false_iff_ne.2 hs
        go_wp2_with fail
        go_roundw
        case rel => exact ⟨k + 1, by omega, by go_num, HR.out, trivial⟩
        case measure => simp [intOf]; omega
    · have HR := mkHid (HIU.out.trans (any_miss fun j hj => HQ.out j hj (by omega)))
      go_wp2_with fail
      go_ret
      exact ⟨by rw [HR.out]; rfl, HBZ.out⟩

def stepU (l : List ClassD) (y : Nat) (out z : Nat) : Nat := if isUnd l y (z : Int) then z else out
/-- Of those above the one, the lowest that is above the other, too. -/
def aboveF (l : List ClassD) (x y : Nat) : Nat := (upOf l x).foldl (stepU l y) ((upOf l x).headD 0)
theorem fold_take {f : Nat → Nat → Nat} {xs : List Nat} {k : Nat} (hk : k < xs.length) (s : Nat) : (xs.take (k + 1)).foldl f s = f ((xs.take k).foldl f s) xs[k] := by
  rw [List.take_succ_eq_append_getElem hk, List.foldl_append]
  rfl
set_option maxRecDepth 100000 in
set_option maxHeartbeats 4000000 in
theorem AboveOf_any (w : World) (B : Nat) (kC kS kF kN kT : Value) (l : List ClassD) (x y : Nat) (hx : x < l.length) (hy : y < l.length) (hv : SL 4 RC (· < B) w kC l) (hB : B ≤ w.heap.size) (hN : l.length ≤ 10) (hne : upOf l x ≠ []) :
    Calls Tryz.prog 21 #[.agg #[kC, kS, kF, kN, kT], .int .i64 x, .int .i64 y] w fun r w' => r = .returned (.int .i64 (aboveF l x y)) ∧ Below w.heap.size w w' := by
  have HV := mkHid hv
  have hB0 : Below w.heap.size w (w.alloc (.cells #[kC, kS, kF, kN, kT] 28)) := (Below.refl _ _).alloc (Nat.le_refl _) _
  have HUP := mkHid (UpFrom_any (w.alloc (.cells #[kC, kS, kF, kN, kT] 28)) B kC l x hx (hv.keptC (Kp.below (hB0.mono hB))) (by simp; omega) hN)
  have hul := (upOf_ok hx).2
  have HIU : Hid (aboveF l x y = (upOf l x).foldl (stepU l y) ((upOf l x).headD 0)) := rfl
  have HB0 := mkHid hB0
  have hk0 : (w.alloc (.cells #[kC, kS, kF, kN, kT] 28)).heap[w.heap.size]? = some (.cells #[kC, kS, kF, kN, kT] 28 (0, 0)) := heap_alloc_new w _
  have HK0 := mkHid hk0
  generalize upOf l x = up at *
  have h0 : 0 < up.length := List.length_pos_iff.2 hne
  have HHD : Hid (up.headD 0 = up[0]) := by
    cases up with
    | nil => exact absurd rfl hne
    | cons _ _ => rfl
  clear hv hB0 hk0 hne
  go_enter Tryz.func21, Tryz.ntmps21
  go_upto_region 2 with (first | (go_at_call 45; refine HUP.out.mono ?_; rintro r wz ⟨hb7, u7, rfl, su7⟩; have HS := mkHid su7; have HBZ := mkHid (HB0.out.trans (hb7.mono (by simp))); have HKZ := mkHid ((hb7.block w.heap.size (by simp)).trans HK0.out); obtain ⟨au, cu, rfl, -⟩ := su7; clear hb7))
  obtain ⟨bu, ou, rfl, hbu, eu0⟩ := HS.out.atO 0 h0
  have eu0' : wz.cell? ⟨bu, ou, none⟩ = some (.int .i64 (up[0] : Nat)) := by simpa using eu0
  have h0' : (0 : Int) < up.length := by omega
  clear eu0
  go_wp2_with fail
  clear eu0'
  go_loopw [8, 9] (fun v i wx => ∃ (k o : Nat), k ≤ up.length ∧ i = .int .i64 k ∧ v = .int .i64 o ∧ Hid (o = (up.take k).foldl (stepU l y) (up.headD 0)) ∧ Hid (Below wz.heap.size wz wx)) (fun _ i _ => up.length - (intOf i).toNat)
  case atStart => exact ⟨0, up[0], Nat.zero_le _, rfl, rfl, HHD.out.symm, Below.refl _ _⟩
  case round =>
    obtain ⟨k, o, hk, rfl, rfl, HO, HBX⟩ := hrel
    have hsz : wz.heap.size ≤ wr.heap.size := HBX.out.size
    by_cases hlt : k < up.length
    · obtain ⟨bu', ou', hbe, _, eu⟩ := HS.out.atO k hlt
      obtain ⟨rfl, rfl⟩ : bu = bu' ∧ ou = ou' := by simpa using hbe
      clear hbe
      have hBw : Below w.heap.size w wr := HBZ.out.trans (HBX.out.mono HBZ.out.size)
      have hkr := (HBX.out.block w.heap.size (lt_of HKZ.out)).trans HKZ.out
      have hne : Nonempty (Gr wr.heap.size wr) := ⟨⟨wr, Below.refl _ _⟩⟩
      have g0 : ∀ g : Gr wr.heap.size wr, g.w.heap[w.heap.size]? = some (.cells #[kC, kS, kF, kN, kT] 28 (0, 0)) := fun g => (g.ok.block w.heap.size (lt_of hkr)).trans hkr
      have k0 : ∀ g : Gr wr.heap.size wr, g.w.cell? ⟨w.heap.size, 0, none⟩ = some kC := fun g => cell_of (g0 g) 0 rfl
      have k1 : ∀ g : Gr wr.heap.size wr, g.w.cell? ⟨w.heap.size, 1, none⟩ = some kS := fun g => cell_of (g0 g) 1 rfl
      have k2 : ∀ g : Gr wr.heap.size wr, g.w.cell? ⟨w.heap.size, 2, none⟩ = some kF := fun g => cell_of (g0 g) 2 rfl
      have k3 : ∀ g : Gr wr.heap.size wr, g.w.cell? ⟨w.heap.size, 3, none⟩ = some kN := fun g => cell_of (g0 g) 3 rfl
      have k4 : ∀ g : Gr wr.heap.size wr, g.w.cell? ⟨w.heap.size, 4, none⟩ = some kT := fun g => cell_of (g0 g) 4 rfl
      have ku : ∀ g : Gr wr.heap.size wr, g.w.cell? ⟨bu, ou + k, none⟩ = some (.int .i64 (up[k] : Nat)) := fun g => (g.ok.cell (p := ⟨bu, ou + k, none⟩) (Nat.lt_of_lt_of_le hbu hsz)).trans ((HBX.out.cell (p := ⟨bu, ou + k, none⟩) hbu).trans eu)
      have HCU : Hid (∀ g : Gr wr.heap.size wr, Calls Tryz.prog 20 #[.agg #[kC, kS, kF, kN, kT], .int .i64 y, .int .i64 (up[k] : Nat)] g.w fun e w'' => e = .returned (.bool (isUnd l y (up[k] : Nat))) ∧ ∃ g' : Gr wr.heap.size wr, w'' = g'.w) := fun g => Gr.calls g (Nat.le_refl _) (IsUnder_any g.w B kC kS kF kN kT l y (up[k] : Nat) hy (HV.out.keptC (Kp.below ((hBw.trans (g.ok.mono (by have := hBw.size; omega))).mono hB))) (Nat.le_trans hB (Nat.le_trans hBw.size g.ok.size)) hN)
      have HST := mkHid (fold_take (f := stepU l y) hlt (up.headD 0))
      have HBG : Hid (∀ g : Gr wr.heap.size wr, Below wz.heap.size wz g.w) := fun g => HBX.out.trans (g.ok.mono hsz)
      have hi0 : (0 : Int) ≤ k := by omega
      have hi1 : (k : Int) < up.length := by omega
      clear hBw hkr g0 eu
      generalize up[k] = uk at *
      go_wp2_with fail
      refine wp_region_grow_lit wr.heap.size wr (by kernel_rfl) (by kernel_rfl) (Below.refl _ _) ?_
      repeat (go_big_quiet_step (first | (go_at_call 20; exact HCU.out _)))
      refine wpQuiet_nil ?_
      intro _ hw'
      obtain ⟨g, rfl⟩ := hw'
      have ku' := ku g
      have HBY := mkHid (HBG.out g)
      have hbg : bu < g.w.heap.size := World.block_lt_of_cell? _ _ ku'
      generalize g.w = wy at *
      clear ku k0 k1 k2 k3 k4 hne HCU HBG
      cases hs : isUnd l y (uk : Nat) with
      | true =>
        have HR : Hid (uk = (up.take (k + 1)).foldl (stepU l y) (up.headD 0)) := (by show _ = _; rw [HST.out, stepU, hs]; rfl)
        go_wp2_with fail
        go_roundw
        case rel => exact ⟨k + 1, uk, by omega, by go_num, rfl, HR.out, HBY.out⟩
        case measure => simp [intOf]; omega
      | false =>
        have HR : Hid (o = (up.take (k + 1)).foldl (stepU l y) (up.headD 0)) := (by show _ = _; rw [HST.out, stepU, hs]; exact HO.out)
        go_wp2_with fail
        go_roundw
        case rel => exact ⟨k + 1, o, by omega, by go_num, rfl, HR.out, HBY.out⟩
        case measure => simp [intOf]; omega
    · have HR : Hid (aboveF l x y = o) := HIU.out.trans (by rw [HO.out, List.take_of_length_le (by omega)])
      have HBW := mkHid (HBZ.out.trans (HBX.out.mono HBZ.out.size))
      go_wp2_with fail
      go_ret
      exact ⟨by rw [HR.out]; rfl, HBW.out⟩
end Go.Proofs.YtkpklkhkhhlifabGreat
