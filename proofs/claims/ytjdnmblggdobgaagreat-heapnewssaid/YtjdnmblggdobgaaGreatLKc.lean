/- The contract of link's Check. -/
import Derived.Test.YtjdnmblggdobgaaGreatJLLkLChk
namespace Go.Proofs.YtjdnmblggdobgaaGreat
open Go.RowKit Go.Maps

theorem nilSL0 (M : Nat → Prop) (w : World) : SL 1 RI M w (.slice none 0 0) [] := ⟨none, 0, rfl, Nat.le_refl _, by unfold maxLen; simp, fun k hk => by cases hk⟩
set_option maxHeartbeats 1000000 in
theorem lcheck1_any (w : World) (B P : Nat) (kC kS kF kN kT : Value) (d : LinkD) (hk : RLk (· < B) w kC kS kF kN kT d) (hB : B ≤ w.heap.size) (hP : w.heap[P]? = some (.cells #[kC, kS, kF, kN, kT] 36 (0, 0))) :
    Calls Tryz.prog 165 #[.pointer (some ⟨P, 0, none⟩)] w fun r w' => ChkOut (chkRes d []) r ∧ Below w.heap.size w w' := by
  have HCK := mkHid (checked_any w B kC kS kF kN kT d hk hB (fun _ => True) _ [] (nilSL0 _ _))
  have hPl := lt_of hP
  have c0 := cell_of hP 0 (x := kC) rfl
  have c1 := cell_of hP 1 (x := kS) rfl
  have c2 := cell_of hP 2 (x := kF) rfl
  have c3 := cell_of hP 3 (x := kN) rfl
  have c4 := cell_of hP 4 (x := kT) rfl
  obtain ⟨aC, cC, aS, cS, aF, cF, aN, cN, aT, cT, rfl, rfl, rfl, rfl, rfl⟩ := hk.agg
  clear hk hP
  go_enter Tryz.func165, Tryz.ntmps165
  go_wp2_with fail
  refine HCK.out.mono ?_
  rintro r w1 ⟨hb, ⟨h0, -, b, vS, vF, vN, vT, vL, Bm, rfl, -⟩ | ⟨h0, rfl⟩⟩
  · have HC := mkHid h0
    have HB := mkHid hb
    clear h0 hb c0 c1 c2 c3 c4
    go_wp2_with fail
    go_end0
    exact ⟨Or.inr ⟨HC.out, rfl⟩, HB.out⟩
  · exact ⟨rfl, Or.inl ⟨h0, rfl⟩, hb⟩
theorem callLCheck1 (args : Array Value) (w : World) : (callFunc 165 args).run Tryz.prog w = .ok (.enter 165 args) w := by kernel_rfl

set_option maxHeartbeats 1000000 in
theorem LCheck_any (w : World) (B : Nat) (kC kS kF kN kT : Value) (d : LinkD) (hk : RLk (· < B) w kC kS kF kN kT d) (hB' : B ≤ w.heap.size) :
    Calls Tryz.prog 104 #[.agg #[kC, kS, kF, kN, kT]] w fun r w' => r = .returned (.int .i64 (chkRes d [])) ∧ Below w.heap.size w w' := by
  have hmf : ∀ (fn : Fn) (first cap : Array Value) (w : World), (Instr.makeFunc fn first cap).run Tryz.prog w = .ok (.func fn first cap) w := fun _ _ _ _ => rfl
  have HK := mkHid hk
  obtain ⟨aC, cC, aS, cS, aF, cF, aN, cN, aT, cT, rfl, rfl, rfl, rfl, rfl⟩ := hk.agg
  clear hk
  have hB0 := (Below.refl w.heap.size w).alloc (Nat.le_refl _) (.cells #[.slice aC d.classes.length cC, .slice aS d.supers.length cS, .slice aF d.fields.length cF, .slice aN d.names.length cN, .slice aT d.targets.length cT] 36)
  have hB1 := hB0.alloc hB0.size (.cells #[.int .i64 0, .int .i64 0] 84)
  go_enter Tryz.func104, Tryz.ntmps104
  go_wp2_with fail
  refine (caught_any 165 _ _ (fun w1 => chkRes d [] = 0 ∧ Below w.heap.size w w1) (fun e p w1 => chkRes d [] = e ∧ Below w.heap.size w w1) (callLCheck1 _) ?hc).mono ?_
  case hc =>
    refine (lcheck1_any _ B w.heap.size _ _ _ _ _ d (HK.out.kept (Kp.below (hB1.mono hB'))) (Nat.le_trans hB' hB1.size) ((Below.heap_alloc _ _ _ (by simp)).trans (heap_alloc_new w _))).mono ?_
    rintro r w1 ⟨hr, hb⟩
    have hb' := hB1.trans (hb.mono hB1.size)
    refine ⟨?_, ?_⟩
    · rw [hb.block (w.alloc (.cells #[.slice aC d.classes.length cC, .slice aS d.supers.length cS, .slice aF d.fields.length cF, .slice aN d.names.length cN, .slice aT d.targets.length cT] 36)).heap.size (by simp)]
      exact heap_alloc_new _ _
    · rcases hr with ⟨hc, rfl⟩ | ⟨hc, rfl⟩
      · exact Or.inr ⟨_, _, rfl, rfl, hb'⟩
      · exact Or.inl ⟨rfl, hc, hb'⟩
  rintro r w2 ⟨w1, hg, hr⟩
  have hz : (w.alloc (.cells #[.slice aC d.classes.length cC, .slice aS d.supers.length cS, .slice aF d.fields.length cF, .slice aN d.names.length cN, .slice aT d.targets.length cT] 36)).heap.size = w.heap.size + 1 := by simp
  rw [hz] at hg
  clear hB0 hB1 hz
  rcases hr with ⟨rfl, hc, hB⟩ | ⟨e, p, rfl, hc, hB⟩
  · have HC := mkHid hc
    have HB := mkHid (below_of_grown hB hg (by omega))
    clear hc hg hB hmf hB' HK
    have hfd := fieldErr
    go_wp2
    go_ret
    exact ⟨by rw [HC.out]; rfl, HB.out⟩
  · have HC := mkHid hc
    have HB := mkHid (below_of_grown hB hg (by omega))
    clear hc hg hB hmf hB' HK
    have hfd := fieldErr
    go_wp2
    go_ret
    exact ⟨by rw [HC.out]; rfl, HB.out⟩
end Go.Proofs.YtjdnmblggdobgaaGreat
