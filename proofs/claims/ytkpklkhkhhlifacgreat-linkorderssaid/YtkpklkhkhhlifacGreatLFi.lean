/- The contracts of Find and Is. -/
import Derived.Test.YtkpklkhkhhlifacGreatLChk
import Derived.Deep.RegionHeld3
namespace Go.Proofs.YtkpklkhkhhlifacGreat
open Go.RowKit Go.Maps

theorem find_any (w : World) (b : Nat) (l : List ClassD) (s : ByteArray) (hN : Nums w b l) (hs : s.size ≤ maxLen) :
    Calls Tryz.prog 21 #[.pointer (some ⟨b, 0, none⟩), .string s] w fun r w' => w' = w ∧ ((0 ≤ num l s ∧ r = .returned (.int .i64 (num l s))) ∨ (num l s < 0 ∧ r = .panicked [wrongV 5 0])) := by
  have HN := mkHid (numberN w b l s hN hs)
  clear hN hs
  go_enter Tryz.func21, Tryz.ntmps21
  go_wp2_with (go_at_call 36; refine HN.out.mono ?_; rintro r w1 ⟨rfl, rfl⟩)
  refine (demand_any _ _ _).mono ?_
  rintro r w3 ⟨rfl, ⟨hb, rfl⟩ | ⟨hb, rfl⟩⟩
  · exact ⟨rfl, rfl, Or.inr ⟨by have h := of_decide_eq_false hb; omega, rfl⟩⟩
  · have hb' : 0 ≤ num l s := of_decide_eq_true hb
    have HB := mkHid hb'
    clear hb'
    clear hb
    go_wp2_with fail
    go_ret
    exact ⟨rfl, Or.inl ⟨HB.out, rfl⟩⟩

def findErr (d : LinkD) (s : ByteArray) : Int := if chkRes d [] = 0 then (if 0 ≤ num d.classes s then 0 else 5) else chkRes d []
theorem nilSL (M : Nat → Prop) (w : World) : SL 1 RI M w (.slice none 0 0) [] := ⟨none, 0, rfl, Nat.le_refl _, by unfold maxLen; simp, fun k hk => by cases hk⟩

set_option maxRecDepth 100000 in
set_option maxHeartbeats 2000000 in
theorem find1_any (w : World) (B P Q : Nat) (kC kS kF kN kT : Value) (d : LinkD) (s : ByteArray) (hk : RLk (· < B) w kC kS kF kN kT d) (hB : B ≤ w.heap.size) (hs : s.size ≤ maxLen)
    (hP : w.heap[P]? = some (.cells #[kC, kS, kF, kN, kT] 29 (0, 0))) (hQ : w.cell? ⟨Q, 0, none⟩ = some (.string s)) :
    Calls Tryz.prog 20 #[.pointer (some ⟨P, 0, none⟩), .pointer (some ⟨Q, 0, none⟩)] w fun r w' => Below w.heap.size w w' ∧
      ((∃ v, r = .returned v ∧ (∃ n, v = .int .i64 n) ∧ (findErr d s = 0 ∧ v = .int .i64 (num d.classes s))) ∨ ∃ e p, r = .panicked [wrongV e p] ∧ (findErr d s = e ∧ e ≠ 0)) := by
  have hPl := lt_of hP
  have hQl := World.block_lt_of_cell? w _ hQ
  have c0 := cell_of hP 0 (x := kC) rfl
  have c1 := cell_of hP 1 (x := kS) rfl
  have c2 := cell_of hP 2 (x := kF) rfl
  have c3 := cell_of hP 3 (x := kN) rfl
  have c4 := cell_of hP 4 (x := kT) rfl
  have HCK : Hid (∀ W, Below w.heap.size w W → Calls Tryz.prog 15 #[.agg #[kC, kS, kF, kN, kT], .slice none 0 0] W fun r w' => Below w.heap.size w w' ∧
      ((chkRes d [] = 0 ∧ ∃ b, r = .returned (.pointer (some ⟨b, 0, none⟩)) ∧ Nums w' b d.classes) ∨ (chkRes d [] ≠ 0 ∧ r = .panicked [wrongV (chkRes d []) 0]))) := fun W hW =>
    (checked_any W B kC kS kF kN kT d (hk.kept (Kp.below (hW.mono hB))) (Nat.le_trans hB hW.size) (fun _ => True) _ [] (nilSL _ _)).mono fun r w' ⟨hb, h⟩ => ⟨hW.trans (hb.mono hW.size), h.imp (fun ⟨h1, _, b, _, _, _, _, _, _, h3, h4⟩ => ⟨h1, b, h3, h4.nums⟩) id⟩
  obtain ⟨aC, cC, aS, cS, aF, cF, aN, cN, aT, cT, rfl, rfl, rfl, rfl, rfl⟩ := hk.agg
  have HS := mkHid hs
  clear hk hP hs
  by_cases hc : chkRes d [] = 0
  · have HFE : Hid (findErr d s = if 0 ≤ num d.classes s then 0 else 5) := by show findErr d s = _; rw [findErr, if_pos hc]
    have HCK2 : Hid (∀ W, Below w.heap.size w W → Calls Tryz.prog 15 #[.agg #[.slice aC d.classes.length cC, .slice aS d.supers.length cS, .slice aF d.fields.length cF, .slice aN d.names.length cN, .slice aT d.targets.length cT], .slice none 0 0] W fun r w' => ∃ b, r = .returned (.pointer (some ⟨b, 0, none⟩)) ∧ Below w.heap.size w w' ∧ Nums w' b d.classes) := fun W hW => (HCK.out W hW).mono fun r w' ⟨hb, h⟩ => by
      rcases h with ⟨_, b, h1, h2⟩ | ⟨h, _⟩
      · exact ⟨b, h1, hb, h2⟩
      · exact absurd hc h
    clear HCK
    go_enter Tryz.func20, Tryz.ntmps20
    go_wp2_with fail
    by_cases hn : 0 ≤ num d.classes s
    · have HR : Hid (findErr d s = 0) := HFE.out.trans (if_pos hn)
      have HF : Hid (∀ w' b, Nums w' b d.classes → Calls Tryz.prog 21 #[.pointer (some ⟨b, 0, none⟩), .string s] w' fun r w'' => w'' = w' ∧ r = .returned (.int .i64 (num d.classes s))) := fun w' b h => (find_any w' b _ s h HS.out).mono fun r w'' ⟨e, h⟩ => ⟨e, by
        rcases h with ⟨_, h⟩ | ⟨h, _⟩
        · exact h
        · omega⟩
      go_region_held3 (fun W' => ∀ p : Addr, p.block < w.heap.size → W'.cell? p = w.cell? p) (exact fun p hp => Below.cell (B := w.heap.size) (w := w) (by repeat (first | assumption | exact Below.refl _ _ | refine Below.drew ?_ | refine Below.alloc ?_ (by simp <;> omega) _)) hp) (first
        | (go_at_call 15; refine (HCK2.out _ (by first | exact Below.refl _ _ | exact (Below.refl _ _).drew)).mono ?_; rintro r w2 ⟨b2, rfl, hb2, hn2⟩; have HN2 := mkHid hn2; clear hn2)
        | (go_at_call 21; refine (HF.out _ _ HN2.out).mono ?_; rintro r w4 ⟨rfl, rfl⟩))
      all_goals
        rename_i hS1
        clear hS1
        go_wp2_with fail
        go_ret
        exact ⟨hb2, Or.inl ⟨_, rfl, ⟨_, rfl⟩, HR.out, rfl⟩⟩
    · have HR : Hid (findErr d s = 5) := HFE.out.trans (if_neg hn)
      have HF : Hid (∀ w' b, Nums w' b d.classes → Calls Tryz.prog 21 #[.pointer (some ⟨b, 0, none⟩), .string s] w' fun r w'' => w'' = w' ∧ r = .panicked [wrongV 5 0]) := fun w' b h => (find_any w' b _ s h HS.out).mono fun r w'' ⟨e, h⟩ => ⟨e, by
        rcases h with ⟨h, _⟩ | ⟨_, h⟩
        · omega
        · exact h⟩
      refine wp_region_held_drew (S := fun W' => ∀ p : Addr, p.block < w.heap.size → W'.cell? p = w.cell? p) (by kernel_rfl) (fun p hp => rfl) fun hH => ?_
      refine wpAnyH_take (i := 0) (v := .agg #[.slice aC d.classes.length cC, .slice aS d.supers.length cS, .slice aF d.fields.length cF, .slice aN d.names.length cN, .slice aT d.targets.length cT]) rfl (by kernel_rfl) (by kernel_rfl) (by kernel_rfl) (fun _ _ _ h => h) (Or.inl ⟨by rfl, ?_⟩) hH ?_
      · intro w hSw
        go_simp
      refine wpAnyH_take (i := 2) (v := .string s) rfl (by kernel_rfl) (by kernel_rfl) (by kernel_rfl) (fun _ _ _ h => h) (Or.inl ⟨by rfl, ?_⟩) hH ?_
      · intro w hSw
        go_simp
      refine wpAnyH_ready (rs := [1]) (by kernel_rfl) (by simp) ?_
      refine AllReadyH.cons rfl (fun K hK => ?_) AllReadyH.nil
      go_simp
      refine (HCK2.out _ ((Below.refl _ _).drew)).mono ?_
      rintro r w2 ⟨b2, rfl, hb2, hn2⟩
      refine hK.out _ _ (fun p hp => hb2.cell hp) fun _ => ?_
      refine wpAnyH_ready (rs := [3]) (by kernel_rfl) (by simp) ?_
      refine AllReadyH.cons rfl (fun K' hK' => ?_) AllReadyH.nil
      go_simp
      refine (HF.out _ _ hn2).mono ?_
      rintro r w4 ⟨rfl, rfl⟩
      exact ⟨rfl, hb2, Or.inr ⟨_, _, rfl, HR.out, by decide⟩⟩
  · have HR : Hid (findErr d s = chkRes d []) := by show findErr d s = _; rw [findErr, if_neg hc]
    have HCK2 : Hid (∀ W, Below w.heap.size w W → Calls Tryz.prog 15 #[.agg #[.slice aC d.classes.length cC, .slice aS d.supers.length cS, .slice aF d.fields.length cF, .slice aN d.names.length cN, .slice aT d.targets.length cT], .slice none 0 0] W fun r w' => r = .panicked [wrongV (chkRes d []) 0] ∧ Below w.heap.size w w') := fun W hW => (HCK.out W hW).mono fun r w' ⟨hb, h⟩ => by
      rcases h with ⟨h, _⟩ | ⟨_, h⟩
      · exact absurd h hc
      · exact ⟨h, hb⟩
    have HNZ := mkHid hc
    clear HCK hc
    go_enter Tryz.func20, Tryz.ntmps20
    go_wp2_with fail
    refine wp_region_held_drew (S := fun W' => ∀ p : Addr, p.block < w.heap.size → W'.cell? p = w.cell? p) (by kernel_rfl) (fun p hp => rfl) fun hH => ?_
    refine wpAnyH_take (i := 0) (v := .agg #[.slice aC d.classes.length cC, .slice aS d.supers.length cS, .slice aF d.fields.length cF, .slice aN d.names.length cN, .slice aT d.targets.length cT]) rfl (by kernel_rfl) (by kernel_rfl) (by kernel_rfl) (fun _ _ _ h => h) (Or.inl ⟨by rfl, ?_⟩) hH ?_
    · intro w hSw
      go_simp
    refine wpAnyH_take (i := 2) (v := .string s) rfl (by kernel_rfl) (by kernel_rfl) (by kernel_rfl) (fun _ _ _ h => h) (Or.inl ⟨by rfl, ?_⟩) hH ?_
    · intro w hSw
      go_simp
    refine wpAnyH_ready (rs := [1]) (by kernel_rfl) (by simp) ?_
    refine AllReadyH.cons rfl (fun K hK => ?_) AllReadyH.nil
    go_simp
    refine (HCK2.out _ ((Below.refl _ _).drew)).mono ?_
    rintro r w2 ⟨rfl, hb2⟩
    exact ⟨rfl, hb2, Or.inr ⟨_, _, rfl, HR.out, HNZ.out⟩⟩

theorem callFind1 (args : Array Value) (w : World) : (callFunc 20 args).run Tryz.prog w = .ok (.enter 20 args) w := by kernel_rfl
def findVal (d : LinkD) (s : ByteArray) : Int := if findErr d s = 0 then num d.classes s else 0
set_option maxHeartbeats 2000000 in
theorem Find_any (w : World) (B : Nat) (kC kS kF kN kT : Value) (d : LinkD) (s : ByteArray) (hk : RLk (· < B) w kC kS kF kN kT d) (hB : B ≤ w.heap.size) (hs : s.size ≤ maxLen) :
    Calls Tryz.prog 10 #[.agg #[kC, kS, kF, kN, kT], .string s] w fun r w' => r = .returned (.tuple #[.int .i64 (findVal d s), .int .i64 (findErr d s)]) ∧ Below w.heap.size w w' := by
  have hmf : ∀ (fn : Fn) (first cap : Array Value) (w : World), (Instr.makeFunc fn first cap).run Tryz.prog w = .ok (.func fn first cap) w := fun _ _ _ _ => rfl
  have HK := mkHid hk
  obtain ⟨aC, cC, aS, cS, aF, cF, aN, cN, aT, cT, rfl, rfl, rfl, rfl, rfl⟩ := hk.agg
  have HS := mkHid hs
  clear hk hs
  go_enter Tryz.func10, Tryz.ntmps10
  go_wp2_with fail
  generalize hW : (w.alloc (.cells #[.slice aC d.classes.length cC, .slice aS d.supers.length cS, .slice aF d.fields.length cF, .slice aN d.names.length cN, .slice aT d.targets.length cT] 29)).alloc (.cells #[.string s] 9) = W0
  have hB0 : Below w.heap.size w W0 := hW ▸ (((Below.refl _ _).alloc (Nat.le_refl _) _).alloc (by simp) _)
  have hP : W0.heap[w.heap.size]? = some (.cells #[.slice aC d.classes.length cC, .slice aS d.supers.length cS, .slice aF d.fields.length cF, .slice aN d.names.length cN, .slice aT d.targets.length cT] 29 (0, 0)) := by rw [← hW]; exact (Below.heap_alloc _ _ _ (by simp)).trans (heap_alloc_new w _)
  have hQ : W0.cell? ⟨w.heap.size + 1, 0, none⟩ = some (.string s) := by rw [← hW]; simp [go_sem]
  have HB0 := mkHid hB0
  refine (madeI_any W0 20 _ (fun v _ => findErr d s = 0 ∧ v = .int .i64 (num d.classes s)) (fun e _ => findErr d s = e ∧ e ≠ 0) callFind1 ?hc ?hst).mono ?_
  case hc =>
    intro W hWb _
    have hb := HB0.out.trans (hWb.mono HB0.out.size)
    exact find1_any W B w.heap.size (w.heap.size + 1) _ _ _ _ _ d s (HK.out.kept (Kp.below (hb.mono hB))) (Nat.le_trans hB hb.size) HS.out ((hWb.block _ (lt_of hP)).trans hP) ((hWb.cell (p := ⟨w.heap.size + 1, 0, none⟩) (World.block_lt_of_cell? _ _ hQ)).trans hQ)
  case hst => exact fun _ _ _ _ _ h => h
  rintro r w2 ⟨hb2, hz2, ⟨v, rfl, -, h0, rfl⟩ | ⟨e, p, rfl, h1, h2⟩⟩
  · have HBF := mkHid (fun o => (HB0.out.trans (hb2.mono HB0.out.size)).alloc (Nat.le_trans HB0.out.size hb2.size) o)
    have HR : Hid (findVal d s = num d.classes s ∧ findErr d s = 0) := ⟨if_pos h0, h0⟩
    clear hb2 h0 hP hQ hW hB0 HK HB0
    go_wp2_with fail
    go_quiet (fail)
    go_wp2_with fail
    exact bodyPost_ret (v := .tuple #[.int .i64 (num d.classes s), .int .i64 0]) (by simp [results, Tryz.results10, go_sem]) rfl ⟨by rw [HR.out.1, HR.out.2], below_dn (HBF.out _) _⟩
  · have HBF := mkHid (fun o => (HB0.out.trans (hb2.mono HB0.out.size)).alloc (Nat.le_trans HB0.out.size hb2.size) o)
    have HR : Hid (findVal d s = 0 ∧ findErr d s = e) := ⟨if_neg (by rw [h1]; exact h2), h1⟩
    clear hb2 h1 h2 hP hQ hW hB0 HK HB0
    go_wp2_with fail
    go_quiet (fail)
    go_wp2_with fail
    exact bodyPost_ret (v := .tuple #[.int .i64 0, .int .i64 e]) (by simp [results, Tryz.results10, go_sem]) rfl ⟨by rw [HR.out.1, HR.out.2], below_dn (HBF.out _) _⟩
end Go.Proofs.YtkpklkhkhhlifacGreat
