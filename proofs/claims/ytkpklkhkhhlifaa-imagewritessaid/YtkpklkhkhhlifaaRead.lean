/- The contracts of what reads classes, and of Read. -/
import Derived.Test.YtkpklkhkhhlifaaRdClass
namespace Go.Proofs.Ytkpklkhkhhlifaa
open Go.RowKit

theorem SL.stpC {B : Nat} {T : List Nat} {w w' : World} {v : Value} {l : List ClassD} (h : SL 4 RC (MT B T w) w v l) (hs : Stp B T w w') : SL 4 RC (MT B T w') w' v l := (h.keptC hs.kp).monoC fun _ hk => hk.step hs

set_option maxHeartbeats 1000000 in
theorem readClasses_any (w : World) (s : ByteArray) (hs : s.size ≤ 20000) :
    Calls Try.prog 32 #[.string s] w fun r w' => Below w.heap.size w w' ∧
      ((pImage s = none ∧ ∃ q, r = .panicked [wrongV 1 q]) ∨ ∃ l v, pImage s = some l ∧ r = .returned v ∧ SL 4 RC (MT w.heap.size [51, 64, 59, 53, 45] w') w' v l) := by
  have hmf : ∀ (fn : Fn) (first cap : Array Value) (w : World), (Instr.makeFunc fn first cap).run Try.prog w = .ok (.func fn first cap) w := fun _ _ _ _ => rfl
  go_enter Try.func32, Try.ntmps32
  go_wp2_with fail
  refine (newReader_any _ s).mono ?_
  rintro r w1 ⟨rfl, rfl⟩
  have hB0 : Below w.heap.size w ((w.alloc (.cells #[.string s, .int .i64 0] 93)).alloc (.cells #[.string s, .int .i64 0] 96)) := ((Below.refl _ _).alloc (Nat.le_refl _) _).alloc (by simp) _
  have hr0 : Rd ((w.alloc (.cells #[.string s, .int .i64 0] 93)).alloc (.cells #[.string s, .int .i64 0] 96)) (w.heap.size + 1) s 0 := ⟨by simp [go_sem], by simp [go_sem], by simp [go_sem]⟩
  have hz : ((w.alloc (.cells #[.string s, .int .i64 0] 93)).alloc (.cells #[.string s, .int .i64 0] 96)).heap.size = w.heap.size + 2 := by simp
  have HB0 := mkHid hB0
  have HR0 := mkHid hr0
  have HZ := mkHid hz
  clear hB0 hr0 hz
  go_wp2_with fail
  generalize (w.alloc (.cells #[.string s, .int .i64 0] 93)).alloc (.cells #[.string s, .int .i64 0] 96) = W0 at *
  refine (readCountedC _ (w.heap.size + 1) s 0 HR0.out (Nat.zero_le _) hs).mono ?_
  rintro r w1 ⟨hg, ⟨hn, q, rfl⟩ | ⟨l, p1, hn, ⟨v, rfl, sv⟩, hr, hp1⟩⟩
  · exact ⟨rfl, below_of_grown HB0.out hg (by omega), Or.inl ⟨by rw [pImage, hn]; rfl, q, rfl⟩⟩
  have HBE := mkHid (below_of_grown HB0.out hg (by omega))
  have SV : Hid (SL 4 RC (MT w.heap.size [51, 64, 59, 53, 45] w1) w1 v l) := sv.monoC fun _ hk => hk.more (by rw [HZ.out]; omega) (fun _ ht => ht)
  obtain ⟨a, c, rfl, -⟩ := sv
  clear hg
  go_wp2_with fail
  refine (left_any _ (w.heap.size + 1) s p1 hr hp1 (by unfold maxLen; omega)).mono ?_
  rintro r w2 ⟨rfl, n2, rfl⟩
  have HBE2 : Hid (Below w.heap.size w (w1.drewN n2)) := ⟨HBE.out.os, HBE.out.tape, HBE.out.output, HBE.out.size, HBE.out.block⟩
  have SV2 : Hid (SL 4 RC (MT w.heap.size [51, 64, 59, 53, 45] (w1.drewN n2)) (w1.drewN n2) (.slice a l.length c) l) := SV.out
  clear HBE SV
  by_cases he : p1 = s.size
  · have he' : (((s.size : Int) - p1) == 0) = true := by rw [beq_iff_eq]; omega
    have HX := mkHid (show pImage s = some l by rw [pImage, hn]; simp only [Option.bind_some]; rw [if_pos he])
    clear hn he
    go_wp2_with fail
    refine (demand_any _ _ _).mono ?_
    rintro r w3 ⟨rfl, ⟨hb, rfl⟩ | ⟨hb, rfl⟩⟩
    · exact absurd hb (by first | (simp; done) | (simp; omega))
    clear hb
    go_wp2
    go_ret
    exact ⟨HBE2.out, Or.inr ⟨l, _, HX.out, rfl, SV2.out⟩⟩
  · have he' : (((s.size : Int) - p1) == 0) = false := by rw [beq_eq_false_iff_ne]; omega
    have HX := mkHid (show pImage s = none by rw [pImage, hn]; simp only [Option.bind_some]; rw [if_neg he])
    clear hn he
    go_wp2_with fail
    refine (demand_any _ _ _).mono ?_
    rintro r w3 ⟨rfl, ⟨hb, rfl⟩ | ⟨hb, rfl⟩⟩
    · exact ⟨rfl, HBE2.out, Or.inl ⟨HX.out, _, rfl⟩⟩
    · exact absurd hb (by first | (simp; done) | (simp; omega))

theorem read1_any (w : World) (s : ByteArray) (Ps : Nat) (hs : s.size ≤ 20000) (hp : w.cell? ⟨Ps, 0, none⟩ = some (.string s)) :
    Calls Try.prog 31 #[.pointer (some ⟨Ps, 0, none⟩)] w fun r w' => Below w.heap.size w w' ∧
      ((pImage s = none ∧ ∃ q, r = .panicked [wrongV 1 q]) ∨ ∃ l v, pImage s = some l ∧ r = .returned v ∧ SL 4 RC (MT w.heap.size [51, 64, 59, 53, 45] w') w' v l) := by
  go_enter Try.func31, Try.ntmps31
  go_wp2_with fail
  refine (readClasses_any _ s hs).mono ?_
  rintro r w1 ⟨hb, ⟨hn, q, rfl⟩ | ⟨l, v, hn, rfl, sv⟩⟩
  · exact ⟨rfl, hb, Or.inl ⟨hn, q, rfl⟩⟩
  have HN := mkHid hn
  have HB := mkHid hb
  have SV := mkHid sv
  obtain ⟨a, c, rfl, -⟩ := sv
  clear hn hb
  go_wp2
  go_ret
  exact ⟨HB.out, Or.inr ⟨l, _, HN.out, rfl, SV.out⟩⟩

set_option maxHeartbeats 1000000 in
theorem made1_any (w : World) (s : ByteArray) (Pf Q Ps : Nat) (x : Value) (hs : s.size ≤ 20000) (hpf : w.cell? ⟨Pf, 0, none⟩ = some (.func (.func 31) #[] #[.pointer (some ⟨Ps, 0, none⟩)])) (hps : w.cell? ⟨Ps, 0, none⟩ = some (.string s)) (hq : w.cell? ⟨Q, 0, none⟩ = some x) (hz : w.frozen? ⟨Q, 0, none⟩ = false) :
    Calls Try.prog 51 #[.pointer (some ⟨Pf, 0, none⟩), .pointer (some ⟨Q, 0, none⟩)] w fun r w' =>
      (r = .returned (.tuple #[]) ∧ ∃ l v, pImage s = some l ∧ w'.cell? ⟨Q, 0, none⟩ = some v ∧ SL 4 RC (MT w.heap.size [51, 64, 59, 53, 45] w') w' v l ∧ w.grownBy w' (some Q)) ∨
      (∃ q, r = .panicked [wrongV 1 q] ∧ pImage s = none ∧ Below w.heap.size w w') := by
  have hQ : Q < w.heap.size := World.block_lt_of_cell? w _ hq
  go_enter Try.func51, Try.ntmps51
  go_wp2_with fail
  refine (read1_any _ s Ps hs hps).mono ?_
  rintro r w1 ⟨hb, ⟨hn, q, rfl⟩ | ⟨l, v, hn, rfl, sv⟩⟩
  · exact ⟨rfl, Or.inr ⟨q, rfl, hn, hb⟩⟩
  have hq1 : w1.cell? ⟨Q, 0, none⟩ = some x := (hb.cell (p := ⟨Q, 0, none⟩) hQ).trans hq
  have hz1 : w1.frozen? ⟨Q, 0, none⟩ = false := (hb.frozen (p := ⟨Q, 0, none⟩) hQ).trans hz
  have hg0 : w1.grownBy (w1.setCell ⟨Q, 0, none⟩ v) (some Q) := grown_set (World.grownBy.refl _ _) _ _ (Or.inl rfl)
  have HG : Hid (w.grownBy (w1.setCell ⟨Q, 0, none⟩ v) (some Q)) := grown_set ⟨hb.os, hb.tape, hb.output, hb.size, fun k hk _ => hb.block k hk⟩ _ _ (by simp)
  have HS := mkHid (sv.stpC (Stp.grown hg0 hQ))
  have HC := mkHid (World.cell?_setCell_same w1 ⟨Q, 0, none⟩ v hq1)
  have HN := mkHid hn
  obtain ⟨a, c, rfl, -⟩ := sv
  clear hn hg0 hb hq hz
  go_wp2
  go_end0
  exact Or.inl ⟨rfl, l, _, HN.out, HC.out, HS.out, HG.out⟩

theorem callMade1 (args : Array Value) (w : World) : (callFunc 51 args).run Try.prog w = .ok (.enter 51 args) w := by kernel_rfl

theorem afterMade (w w1 : World) (x : Value) (h : ((((w.alloc (.cells #[x] 65)).alloc (.cells #[.int .i64 0, .int .i64 0] 67)).alloc (.cells #[.slice none 0 0] 22)).alloc (.cells #[.int .i64 0, .int .i64 0] 67)).grownBy w1 (some (w.heap.size + 2))) :
    w1.heap[w.heap.size + 3]? = some (.cells #[.int .i64 0, .int .i64 0] 67 (0, 0)) ∧ Below w.heap.size w w1 ∧ w1.cell? ⟨w.heap.size + 1, 0, none⟩ = some (.int .i64 0) ∧ w1.cell? ⟨w.heap.size + 1, 1, none⟩ = some (.int .i64 0) ∧
      (∀ j, w1.frozen? ⟨w.heap.size + 1, j, none⟩ = false) ∧ w.heap.size + 4 ≤ w1.heap.size := by
  have hB0 : Below w.heap.size w ((((w.alloc (.cells #[x] 65)).alloc (.cells #[.int .i64 0, .int .i64 0] 67)).alloc (.cells #[.slice none 0 0] 22)).alloc (.cells #[.int .i64 0, .int .i64 0] 67)) := ((((Below.refl _ _).alloc (Nat.le_refl _) _).alloc (by simp) _).alloc (by simp; omega) _).alloc (by simp; omega) _
  have hz : ((((w.alloc (.cells #[x] 65)).alloc (.cells #[.int .i64 0, .int .i64 0] 67)).alloc (.cells #[.slice none 0 0] 22)).alloc (.cells #[.int .i64 0, .int .i64 0] 67)).heap.size = w.heap.size + 4 := by simp
  refine ⟨?_, below_of_grown hB0 h (by omega), ?_, ?_, ?_, by rw [← hz]; exact h.size⟩
  · rw [h.block (w.heap.size + 3) (by omega) (by simp)]
    show ((((w.heap.push _).push _).push _).push _)[w.heap.size + 3]? = _
    rw [Array.getElem?_push, if_pos (by simp)]
  · exact h.cell (a := ⟨w.heap.size + 1, 0, none⟩) (by simp [go_sem]) (by simp)
  · exact h.cell (a := ⟨w.heap.size + 1, 1, none⟩) (by simp [go_sem]) (by simp)
  · intro j
    rw [World.frozen?_of_block (a := ⟨w.heap.size + 1, j, none⟩) (h.block (w.heap.size + 1) (by omega) (by simp))]
    simp [go_sem]

set_option maxHeartbeats 2000000 in
theorem Made_any (w : World) (s : ByteArray) (Ps : Nat) (hs : s.size ≤ 20000) (hps : w.cell? ⟨Ps, 0, none⟩ = some (.string s)) :
    Calls Try.prog 30 #[.func (.func 31) #[] #[.pointer (some ⟨Ps, 0, none⟩)]] w fun r w' => Below w.heap.size w w' ∧
      ((∃ l v, pImage s = some l ∧ r = .returned (.tuple #[v, .agg #[.int .i64 0, .int .i64 0]]) ∧ SL 4 RC (MT w.heap.size [51, 64, 59, 53, 45] w') w' v l) ∨
       (pImage s = none ∧ ∃ q, r = .returned (.tuple #[.slice none 0 0, .agg #[.int .i64 1, .int .i64 q]]))) := by
  have hmf : ∀ (fn : Fn) (first cap : Array Value) (w : World), (Instr.makeFunc fn first cap).run Try.prog w = .ok (.func fn first cap) w := fun _ _ _ _ => rfl
  have hP : Ps < w.heap.size := World.block_lt_of_cell? w _ hps
  have hB0 : Below w.heap.size w (((w.alloc (.cells #[.func (.func 31) #[] #[.pointer (some ⟨Ps, 0, none⟩)]] 65)).alloc (.cells #[.int .i64 0, .int .i64 0] 67)).alloc (.cells #[.slice none 0 0] 22)) := (((Below.refl _ _).alloc (Nat.le_refl _) _).alloc (by simp) _).alloc (by simp; omega) _
  have hB1 := hB0.alloc hB0.size (.cells #[.int .i64 0, .int .i64 0] 67)
  go_enter Try.func30, Try.ntmps30
  go_wp2_with fail
  refine (caught_any 51 _ _ (fun w1 => ∃ l v, pImage s = some l ∧ w1.cell? ⟨w.heap.size + 2, 0, none⟩ = some v ∧ SL 4 RC (MT (w.heap.size + 4) [51, 64, 59, 53, 45] w1) w1 v l ∧ Below w.heap.size w w1 ∧
    (∃ x y, w1.cell? ⟨w.heap.size + 1, 0, none⟩ = some x ∧ w1.cell? ⟨w.heap.size + 1, 1, none⟩ = some y) ∧ (∀ j, w1.frozen? ⟨w.heap.size + 1, j, none⟩ = false) ∧ w.heap.size + 4 ≤ w1.heap.size)
    (fun e p w1 => e = 1 ∧ pImage s = none ∧ w1.cell? ⟨w.heap.size + 2, 0, none⟩ = some (.slice none 0 0) ∧ Below w.heap.size w w1 ∧
    (∃ x y, w1.cell? ⟨w.heap.size + 1, 0, none⟩ = some x ∧ w1.cell? ⟨w.heap.size + 1, 1, none⟩ = some y) ∧ (∀ j, w1.frozen? ⟨w.heap.size + 1, j, none⟩ = false) ∧ w.heap.size + 4 ≤ w1.heap.size) (callMade1 _) ?hc).mono ?_
  case hc =>
    refine (made1_any _ s w.heap.size (w.heap.size + 2) Ps (.slice none 0 0) hs (by simp [go_sem]) ((hB1.cell (p := ⟨Ps, 0, none⟩) hP).trans hps) (by simp [go_sem]) (by simp [go_sem])).mono ?_
    rintro r w1 (⟨rfl, l, v, hd, hc, sv, hg⟩ | ⟨q, rfl, hd, hb⟩)
    · obtain ⟨a1, a2, a3, a4, a5, a6⟩ := afterMade w w1 _ hg
      refine ⟨by simpa using a1, Or.inl ⟨rfl, l, v, hd, hc, ?_, a2, ⟨.int .i64 0, .int .i64 0, a3, a4⟩, a5, a6⟩⟩
      exact sv.monoC fun _ hk => hk.more (by simp) (fun _ ht => ht)
    · have hg2 : World.grownBy _ w1 (some (w.heap.size + 2)) := ⟨hb.os, hb.tape, hb.output, hb.size, fun k hk _ => hb.block k hk⟩
      obtain ⟨a1, a2, a3, a4, a5, a6⟩ := afterMade w w1 _ hg2
      refine ⟨by simpa using a1, Or.inr ⟨1, q, rfl, rfl, hd, ?_, a2, ⟨.int .i64 0, .int .i64 0, a3, a4⟩, a5, a6⟩⟩
      exact (hb.cell (p := ⟨w.heap.size + 2, 0, none⟩) (by simp)).trans (by simp [go_sem])
  rintro r w2 ⟨w1, hg, hr⟩
  have hz : (((w.alloc (.cells #[.func (.func 31) #[] #[.pointer (some ⟨Ps, 0, none⟩)]] 65)).alloc (.cells #[.int .i64 0, .int .i64 0] 67)).alloc (.cells #[.slice none 0 0] 22)).heap.size = w.heap.size + 3 := by simp
  rw [hz] at hg
  clear hB0 hB1 hz
  rcases hr with ⟨rfl, l, v, hd, hc, sv, hB, ⟨x, y, hx, hy⟩, hfz, hsz⟩ | ⟨e, p, rfl, he1, hd, hc, hB, ⟨x, y, hx, hy⟩, hfz, hsz⟩
  · have c4 : w2.cell? ⟨w.heap.size + 1 + 1, 0, none⟩ = some v := hg.cell hc (by simp)
    have c30 : w2.cell? ⟨w.heap.size + 1, 0, none⟩ = some x := hg.cell hx (by simp)
    have c31 : w2.cell? ⟨w.heap.size + 1, 1, none⟩ = some y := hg.cell hy (by simp)
    have z3 : ∀ j, w2.frozen? ⟨w.heap.size + 1, j, none⟩ = false := fun j => (World.frozen?_of_block (a := ⟨w.heap.size + 1, j, none⟩) (hg.block (w.heap.size + 1) (by omega) (by simp))).trans (hfz j)
    have hsz2 : w.heap.size + 4 ≤ w2.heap.size := Nat.le_trans hsz hg.size
    have hlt1 : w.heap.size + 1 < w2.heap.size := by omega
    have hlt2 : w.heap.size + 1 + 1 < w2.heap.size := by omega
    have HD := mkHid hd
    have hB2 : Below w.heap.size w w2 := below_of_grown hB hg (by omega)
    have SV := mkHid (sv.stpC (Stp.grown hg (by omega)))
    obtain ⟨a, c, rfl, -⟩ := sv
    clear hd hc hx hy hfz hg hB
    go_wp2_with fail
    go_region
    all_goals
      go_wp2
      obtain ⟨hg, q0, q1⟩ := fault_world w2 (w.heap.size + 1) 0 0 (.cells #[.int .i64 0, .int .i64 0] 67) c30 c31
      have hB3 := below_of_grown hB2 hg (by omega)
      have SV3 := mkHid ((SV.out.stpC (Stp.grown hg (by omega))).monoC fun _ hk => hk.more (B' := w.heap.size) (by omega) (fun _ ht => ht))
      generalize ((w2.setCell ⟨w.heap.size + 1, 0, none⟩ (.int .i64 0)).setCell ⟨w.heap.size + 1, 1, none⟩ (.int .i64 0)).alloc (.cells #[.int .i64 0, .int .i64 0] 67) = W9 at *
      exact bodyPost_ret (v := .tuple #[_, .agg #[.int .i64 0, .int .i64 0]]) (by simp [results, Try.results30, go_sem, q0, q1]) rfl ⟨hB3.drew, Or.inl ⟨l, _, HD.out, rfl, SV3.out⟩⟩
  · subst he1
    have c4 : w2.cell? ⟨w.heap.size + 1 + 1, 0, none⟩ = some (.slice none 0 0) := hg.cell hc (by simp)
    have c30 : w2.cell? ⟨w.heap.size + 1, 0, none⟩ = some x := hg.cell hx (by simp)
    have c31 : w2.cell? ⟨w.heap.size + 1, 1, none⟩ = some y := hg.cell hy (by simp)
    have z3 : ∀ j, w2.frozen? ⟨w.heap.size + 1, j, none⟩ = false := fun j => (World.frozen?_of_block (a := ⟨w.heap.size + 1, j, none⟩) (hg.block (w.heap.size + 1) (by omega) (by simp))).trans (hfz j)
    have hsz2 : w.heap.size + 4 ≤ w2.heap.size := Nat.le_trans hsz hg.size
    have hlt1 : w.heap.size + 1 < w2.heap.size := by omega
    have hlt2 : w.heap.size + 1 + 1 < w2.heap.size := by omega
    have HD := mkHid hd
    have hB2 : Below w.heap.size w w2 := below_of_grown hB hg (by omega)
    clear hd hc hx hy hfz hg hB
    go_wp2_with fail
    go_region
    all_goals
      go_wp2
      obtain ⟨hg, q0, q1⟩ := fault_world w2 (w.heap.size + 1) 1 p (.cells #[.int .i64 1, .int .i64 p] 67) c30 c31
      have hB3 := below_of_grown hB2 hg (by omega)
      generalize ((w2.setCell ⟨w.heap.size + 1, 0, none⟩ (.int .i64 1)).setCell ⟨w.heap.size + 1, 1, none⟩ (.int .i64 p)).alloc (.cells #[.int .i64 1, .int .i64 p] 67) = W9 at *
      exact bodyPost_ret (v := .tuple #[.slice none 0 0, .agg #[.int .i64 1, .int .i64 p]]) (by simp [results, Try.results30, go_sem, q0, q1]) rfl ⟨hB3.drew, Or.inr ⟨HD.out, _, rfl⟩⟩

theorem SL.all {M : Nat → Prop} {w : World} {v : Value} {l : List ClassD} (h : SL 4 RC M w v l) (hM : ∀ b, M b → b < w.heap.size) : SL 4 RC (· < w.heap.size) w v l := h.monoC hM

theorem readRes_long {s : ByteArray} (h : 20000 < s.size) : readRes s = ([], 2) := by rw [readRes, if_pos h]
theorem readRes_none {s : ByteArray} (h : ¬ 20000 < s.size) (h2 : pImage s = none) : readRes s = ([], 1) := by rw [readRes, if_neg h, h2]
theorem readRes_bad {s : ByteArray} {l : List ClassD} (h : ¬ 20000 < s.size) (h2 : pImage s = some l) (h3 : checkL l ≠ 0) : readRes s = ([], 1) := by
  rw [readRes, if_neg h, h2]
  show (if checkL l = 0 then _ else _) = _
  rw [if_neg h3]
theorem readRes_ok {s : ByteArray} {l : List ClassD} (h : ¬ 20000 < s.size) (h2 : pImage s = some l) (h3 : checkL l = 0) : readRes s = (l, 0) := by
  rw [readRes, if_neg h, h2]
  show (if checkL l = 0 then _ else _) = _
  rw [if_pos h3]

theorem SL_nil {M : Nat → Prop} {w : World} : SL 4 RC M w (.slice none 0 0) [] := ⟨none, 0, rfl, Nat.le_refl _, Nat.zero_le _, fun k hk => by cases hk⟩

set_option maxRecDepth 100000 in
set_option maxHeartbeats 2000000 in
theorem Read_any (w : World) (s : ByteArray) (hs : s.size ≤ maxLen) :
    Calls Try.prog 12 #[.string s] w fun r w' => Below w.heap.size w w' ∧ ∃ v, r = .returned (.tuple #[v, .int .i64 (readRes s).2]) ∧ SL 4 RC (· < w'.heap.size) w' v (readRes s).1 := by
  have hmf : ∀ (fn : Fn) (first cap : Array Value) (w : World), (Instr.makeFunc fn first cap).run Try.prog w = .ok (.func fn first cap) w := fun _ _ _ _ => rfl
  unfold maxLen at hs
  have hB0 := (Below.refl w.heap.size w).alloc (Nat.le_refl _) (.cells #[.string s] 9)
  by_cases hlong : 20000 < s.size
  · have h1 : (20000 : Int) < s.size := by omega
    have HR := mkHid (readRes_long hlong)
    have HB0 := mkHid hB0
    clear hlong hB0
    go_enter Try.func12, Try.ntmps12
    go_wp2_with fail
    go_ret2
    exact ⟨HB0.out, _, by rw [HR.out]; rfl, by rw [HR.out]; exact SL_nil⟩
  have h1 : ¬ (20000 : Int) < s.size := by omega
  have HB0 := mkHid hB0
  clear hB0
  go_enter Try.func12, Try.ntmps12
  go_wp2_with fail
  refine (Made_any _ s w.heap.size (by omega) (by simp [go_sem])).mono ?_
  rintro r w1 ⟨hb1, ⟨l, v, hp, rfl, sv⟩ | ⟨hp, q, rfl⟩⟩
  · have hB1 := HB0.out.trans (hb1.mono (by simp))
    have hs1 := hB1.size
    have SV := mkHid (SL.all sv (fun _ hk => hk.lt))
    obtain ⟨a, c, rfl, -⟩ := sv
    have hBa : Below w1.heap.size w1 (w1.alloc (.cells #[.int .i64 0, .int .i64 0] 67)) := (Below.refl _ _).alloc (Nat.le_refl _) _
    have HBA := mkHid hBa
    have HP := mkHid hp
    clear hb1 hBa hp
    go_wp2_with fail
    refine (Check_any _ w1.heap.size l _ (SV.out.keptC (Kp.below HBA.out)) (by simp)).mono ?_
    rintro r w2 ⟨rfl, hb2⟩
    have hB2 : Below w1.heap.size w1 w2 := HBA.out.trans (hb2.mono (by simp))
    have HBB := mkHid (hB1.trans (hB2.mono hs1))
    have SV2 := mkHid ((SV.out.keptC (Kp.below hB2)).monoC (M' := (· < w2.heap.size)) fun _ hk => Nat.lt_of_lt_of_le hk hB2.size)
    clear hb2 hB2 hB1
    by_cases hc : checkL l = 0
    · have hc' : (checkL l != 0) = false := by rw [hc]; rfl
      have HR := mkHid (readRes_ok hlong HP.out hc)
      clear hc
      go_wp2_with fail
      go_ret2
      exact ⟨HBB.out, _, by rw [HR.out]; rfl, by rw [HR.out]; exact SV2.out⟩
    · have hc' : (checkL l != 0) = true := by rw [bne_iff_ne]; exact hc
      have HR := mkHid (readRes_bad hlong HP.out hc)
      clear hc
      go_wp2_with fail
      go_ret2
      exact ⟨HBB.out, _, by rw [HR.out]; rfl, by rw [HR.out]; exact SL_nil⟩
  · have hB1 := HB0.out.trans (hb1.mono (by simp))
    have HR := mkHid (readRes_none hlong hp)
    have HBB := mkHid (hB1.alloc hB1.size (.cells #[.int .i64 1, .int .i64 q] 67))
    clear hb1 hp hB1
    go_wp2_with fail
    go_ret2
    exact ⟨HBB.out, _, by rw [HR.out]; rfl, by rw [HR.out]; exact SL_nil⟩
end Go.Proofs.Ytkpklkhkhhlifaa
