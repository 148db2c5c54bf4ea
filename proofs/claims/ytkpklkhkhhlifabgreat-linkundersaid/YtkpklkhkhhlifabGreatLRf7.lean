/- The document's own reading of linked classes: what stands for a name. -/
import Derived.Test.YtkpklkhkhhlifabGreatJLRf2LRf3
import Derived.Test.YtkpklkhkhhlifabGreatLMk
namespace Go.Proofs.YtkpklkhkhhlifabGreat
open Go.RowKit Go.Sort

set_option maxRecDepth 100000 in
set_option maxHeartbeats 4000000 in
theorem TargetOf_any (w : World) (B : Nat) (kC kS kF kN kT : Value) (d : LinkD) (c : Nat) (s : ByteArray) (hk : RLk (· < B) w kC kS kF kN kT d) (hB : B ≤ w.heap.size) (ns : List ByteArray) (ts : List TargD) (hc : c < d.names.length) (hc2 : c < d.targets.length) (hns : d.names[c] = ns) (hts : d.targets[c] = ts) (hl : ts.length = ns.length) :
    Calls Tryz.prog 17 #[.agg #[kC, kS, kF, kN, kT], .int .i64 c, .string s] w fun r w' => Below w.heap.size w w' ∧ ∃ x y f, r = .returned (.tuple #[.agg #[.int .i64 x, .int .i64 y], .bool f]) ∧
      ((∃ (k : Nat) (h : k < ts.length), idxS ns s = k ∧ f = true ∧ x = ts[k].cls ∧ y = ts[k].meth) ∨ (idxS ns s = -1 ∧ f = false ∧ x = 0 ∧ y = 0)) := by
  have hB0 : Below w.heap.size w ((w.alloc (.cells #[kC, kS, kF, kN, kT] 28)).alloc (.cells #[.int .i64 0, .int .i64 0] 40)) := ((Below.refl _ _).alloc (Nat.le_refl _) _).alloc (by simp) _
  have hk1 := hk.kept (Kp.below (hB0.mono hB))
  have hka : ((w.alloc (.cells #[kC, kS, kF, kN, kT] 28)).alloc (.cells #[.int .i64 0, .int .i64 0] 40)).heap[w.heap.size]? = some (.cells #[kC, kS, kF, kN, kT] 28 (0, 0)) := (Below.heap_alloc _ _ _ (by simp)).trans (heap_alloc_new w _)
  have hkb : ((w.alloc (.cells #[kC, kS, kF, kN, kT] 28)).alloc (.cells #[.int .i64 0, .int .i64 0] 40)).heap[w.heap.size + 1]? = some (.cells #[.int .i64 0, .int .i64 0] 40 (0, 0)) := by
    have := heap_alloc_new (w.alloc (.cells #[kC, kS, kF, kN, kT] 28)) (.cells #[.int .i64 0, .int .i64 0] 40)
    simpa using this
  obtain ⟨oN, cN, rfl, -⟩ := id hk1.N
  obtain ⟨oT, cT, rfl, -⟩ := id hk1.T
  have n3 := cell_of hka 3 (x := .slice oN d.names.length cN) rfl
  have n4 := cell_of hka 4 (x := .slice oT d.targets.length cT) rfl
  have r0 := cell_of hkb 0 (x := .int .i64 0) rfl
  have r1 := cell_of hkb 1 (x := .int .i64 0) rfl
  have z0 := frz_of hkb
  have za := lt_of hka
  have zb := lt_of hkb
  obtain ⟨b, off, a1, k1, rfl, hb1, c0, su⟩ := hk1.N.atSl c hc
  obtain ⟨b2, off2, a2, k2, rfl, hb2, d0, sv⟩ := hk1.T.atSl c hc2
  have hmx : d.names[c].length ≤ maxLen := by
    obtain ⟨_, _, e1, _, h, _⟩ := su
    cases e1
    exact h
  unfold maxLen at hmx
  have HSU := mkHid su
  have HSV := mkHid sv
  have HB0 := mkHid hB0
  clear hk hk1 su sv hka hkb hB0
  rw [hns] at c0 HSU hmx
  rw [hts] at d0 HSV
  have HL := mkHid hl
  rw [hl] at d0 HSV
  clear hl hns hts
  have hc0 : (0 : Int) ≤ c := by omega
  have hc1 : (c : Int) < d.names.length := by omega
  have hc3 : (c : Int) < d.targets.length := by omega
  go_enter Tryz.func17, Tryz.ntmps17
  go_wp2_with fail
  go_loopw [8] (fun i wx => ∃ k : Nat, k ≤ ns.length ∧ i = .int .i64 k ∧ Hid (∀ (j : Nat) (hj : j < ns.length), j < k → ns[j] ≠ s) ∧ wx = ((w.alloc (.cells #[kC, kS, kF, .slice (some ⟨b, off, none⟩) d.names.length cN, .slice (some ⟨b2, off2, none⟩) d.targets.length cT] 28)).alloc (.cells #[.int .i64 0, .int .i64 0] 40))) (fun i _ => ns.length - (intOf i).toNat)
  case atStart => exact ⟨0, Nat.zero_le _, rfl, (fun j _ h => by omega), rfl⟩
  case round =>
    obtain ⟨k, hk, rfl, HQ, hwx⟩ := hrel
    rw [← hwx] at n3 n4 r0 r1 za zb c0 d0 HSU HSV HB0 hb1 hb2
    have z0' : ∀ j, wr.frozen? ⟨w.heap.size + 1, j, none⟩ = false := fun j => by rw [hwx]; exact z0 j
    clear z0
    have HWX := mkHid hwx
    clear hwx
    by_cases hlt : k < ns.length
    · obtain ⟨bx, ox, rfl, _, f0, _⟩ := HSU.out.atS k hlt
      have hkt : k < ts.length := by have := HL.out; omega
      have hk0 : (0 : Int) ≤ k := by omega
      have hk1 : (k : Int) < ns.length := by omega
      by_cases hs : ns[k] = s
      · have hs' : (ns[k].toList == s.toList) = true := by rw [hs]; simp
        have HR := mkHid (idxS_hit hlt hs HQ.out)
        obtain ⟨by_, oy, rfl, hby, g0, g1⟩ := HSV.out.atT k hkt
        clear hs
        go_wp2_with fail
        have q0 : ((wr.setCell ⟨w.heap.size + 1, 0, none⟩ (.int .i64 ts[k].cls)).setCell ⟨w.heap.size + 1, 1, none⟩ (.int .i64 ts[k].meth)).cell? ⟨w.heap.size + 1, 0, none⟩ = some (.int .i64 ts[k].cls) := by rw [World.cell?_setCell_other _ _ _ _ (by simp), World.cell?_setCell_same _ _ _ r0]
        have q1 : ((wr.setCell ⟨w.heap.size + 1, 0, none⟩ (.int .i64 ts[k].cls)).setCell ⟨w.heap.size + 1, 1, none⟩ (.int .i64 ts[k].meth)).cell? ⟨w.heap.size + 1, 1, none⟩ = some (.int .i64 ts[k].meth) := World.cell?_setCell_same _ _ _ ((World.cell?_setCell_other _ _ _ _ (by simp)).trans r1)
        have hBE : Below w.heap.size w ((wr.setCell ⟨w.heap.size + 1, 0, none⟩ (.int .i64 ts[k].cls)).setCell ⟨w.heap.size + 1, 1, none⟩ (.int .i64 ts[k].meth)) := (HB0.out.setCell (by simp) _).setCell (by simp) _
        generalize ((wr.setCell ⟨w.heap.size + 1, 0, none⟩ (.int .i64 ts[k].cls)).setCell ⟨w.heap.size + 1, 1, none⟩ (.int .i64 ts[k].meth)) = W2 at *
        exact bodyPost_ret (v := .tuple #[.agg #[.int .i64 ts[k].cls, .int .i64 ts[k].meth], .bool true]) (by simp [results, Tryz.results17, go_sem, q0, q1]) rfl ⟨hBE, _, _, _, rfl, Or.inl ⟨k, hkt, HR.out, rfl, rfl, rfl⟩⟩
      · have HQ' : Hid (∀ (j : Nat) (hj : j < ns.length), j < k + 1 → ns[j] ≠ s) := fun j hj h => by
          by_cases hjk : j < k
          · exact HQ.out j hj hjk
          · have : j = k := by omega
            subst this
            exact hs
        have hs' : (ns[k].toList == s.toList) = false := by
          rw [beq_eq_false_iff_ne]
          exact fun e => hs (tl_inj e)
        clear hs
        go_wp2_with fail
        go_roundw
        case rel => exact ⟨k + 1, by omega, by go_num, HQ'.out, HWX.out⟩
        case measure => simp [intOf]; omega
    · have HR := mkHid (idxS_none (l := ns) (s := s) fun j hj => HQ.out j hj (by omega))
      go_wp2_with fail
      have q0 : ((wr.setCell ⟨w.heap.size + 1, 0, none⟩ (.int .i64 0)).setCell ⟨w.heap.size + 1, 1, none⟩ (.int .i64 0)).cell? ⟨w.heap.size + 1, 0, none⟩ = some (.int .i64 0) := by rw [World.cell?_setCell_other _ _ _ _ (by simp), World.cell?_setCell_same _ _ _ r0]
      have q1 : ((wr.setCell ⟨w.heap.size + 1, 0, none⟩ (.int .i64 0)).setCell ⟨w.heap.size + 1, 1, none⟩ (.int .i64 0)).cell? ⟨w.heap.size + 1, 1, none⟩ = some (.int .i64 0) := World.cell?_setCell_same _ _ _ ((World.cell?_setCell_other _ _ _ _ (by simp)).trans r1)
      have hBE : Below w.heap.size w ((wr.setCell ⟨w.heap.size + 1, 0, none⟩ (.int .i64 0)).setCell ⟨w.heap.size + 1, 1, none⟩ (.int .i64 0)) := (HB0.out.setCell (by simp) _).setCell (by simp) _
      generalize ((wr.setCell ⟨w.heap.size + 1, 0, none⟩ (.int .i64 0)).setCell ⟨w.heap.size + 1, 1, none⟩ (.int .i64 0)) = W2 at *
      exact bodyPost_ret (v := .tuple #[.agg #[.int .i64 0, .int .i64 0], .bool false]) (by simp [results, Tryz.results17, go_sem, q0, q1]) rfl ⟨hBE, _, _, _, rfl, Or.inr ⟨HR.out, rfl, rfl, rfl⟩⟩
end Go.Proofs.YtkpklkhkhhlifabGreat
