/- The law LinkFinds, walked. -/
import Derived.Test.YtkpklkhkhhlifabGreatJLPu6LLawI
import Derived.Test.YtkpklkhkhhlifabGreatLTg
import Derived.Test.YtkpklkhkhhlifabGreatLRf7
namespace Go.Proofs.YtkpklkhkhhlifabGreat
open Go.RowKit Go.Maps

theorem eqL_iff {α : Type} {p : α → α → Bool} (hp : ∀ x y, p x y = true ↔ x = y) : ∀ l m : List α, eqL p l m = true ↔ l = m
  | [], [] => by simp [eqL]
  | [], _ :: _ => by simp [eqL]
  | _ :: _, [] => by simp [eqL]
  | x :: l, y :: m => by rw [eqL, Bool.and_eq_true, hp, eqL_iff hp l m, List.cons.injEq]
theorem sameI_iff (x y : Int) : sameI x y = true ↔ x = y := by simp [sameI]
theorem sameS_iff (x y : ByteArray) : sameS x y = true ↔ x = y := by rw [sameS, beq_iff_eq]; exact ⟨tl_inj, fun h => by rw [h]⟩
theorem sameT_iff (x y : TargD) : sameT x y = true ↔ x = y := by cases x; cases y; simp [sameT]
theorem sameF_iff (x y : FieldD) : sameF x y = true ↔ x = y := by
  cases x
  cases y
  rw [sameF, Bool.and_eq_true, sameK_iff, decide_eq_true_iff, FieldD.mk.injEq]
/-- What passes Check is what Link makes of its classes. -/
theorem ok_parts {d : LinkD} (h : okLk d = true) : d = linkD d.classes := by
  rw [okLk, Bool.and_eq_true, makesB] at h
  obtain ⟨-, h⟩ := h
  simp only [Bool.and_eq_true] at h
  obtain ⟨⟨⟨h1, h2⟩, h3⟩, h4⟩ := h
  rw [eqL_iff sameI_iff] at h1
  rw [eqL_iff (eqL_iff sameF_iff)] at h2
  rw [eqL_iff (eqL_iff sameS_iff)] at h3
  rw [eqL_iff (eqL_iff sameT_iff)] at h4
  cases d
  simp only at h1 h2 h3 h4
  rw [linkD, h1, h2, h3, h4]
theorem targEql (a b a' b' : Int) (w : World) : (binOp BinOp.eql 40 (.agg #[.int .i64 a, .int .i64 b]) (.agg #[.int .i64 a', .int .i64 b'])).run Tryz.prog w = .ok (.bool ((a == a') && (b == b'))) w := by
  have u3 := Tryz.underlying3
  have a3 := Tryz.isAgg3
  have z3 := Tryz.sizeOf3
  have hS : Tryz.prog.underlying 40 = some (.struct (Tryz.prog.fieldsOf 40)) := by kernel_rfl
  have hp : Tryz.prog.stoodInHeld 40 = false := by kernel_rfl
  rw [run_eql_struct, show (10000 : Nat) = 9999 + 1 from rfl, run_equalIn_agg w 9999 40 _ _ hS hp]
  simp only [Program.fieldsOf, Tryz.underlying40]
  go_simp
  by_cases h1 : a = a' <;> by_cases h2 : b = b' <;> simp [h1, h2]
theorem finLf {w2 : World} {Q : Nat} (a b : Value) (o : Obj) {x0 x1 : Value} (h0 : w2.cell? ⟨Q, 0, none⟩ = some x0) (h1 : w2.cell? ⟨Q, 1, none⟩ = some x1) :
    ∃ W9, W9 = ((w2.setCell ⟨Q, 0, none⟩ a).setCell ⟨Q, 1, none⟩ b).alloc o ∧ (∀ B, B ≤ Q → Below B w2 W9) ∧ (∀ k, k < w2.heap.size → k ≠ Q → W9.heap[k]? = w2.heap[k]?) ∧ W9.cell? ⟨Q, 0, none⟩ = some a ∧ W9.cell? ⟨Q, 1, none⟩ = some b := by
  have hl := World.block_lt_of_cell? w2 _ h0
  obtain ⟨G1, p0, p1⟩ := two_set w2 Q a b h0 h1
  have hG := grown_alloc G1 o
  have hA : Below ((w2.setCell ⟨Q, 0, none⟩ a).setCell ⟨Q, 1, none⟩ b).heap.size ((w2.setCell ⟨Q, 0, none⟩ a).setCell ⟨Q, 1, none⟩ b) (((w2.setCell ⟨Q, 0, none⟩ a).setCell ⟨Q, 1, none⟩ b).alloc o) := (Below.refl _ _).alloc (Nat.le_refl _) _
  exact ⟨_, rfl, fun B hB => (((Below.refl B w2).setCell hB _).setCell hB _).alloc (Nat.le_trans (Nat.le_of_lt (Nat.lt_of_le_of_lt hB hl)) G1.size) _, fun k hk hne => hG.block k hk (by simpa using hne), (hA.cell (p := ⟨Q, 0, none⟩) (Nat.lt_of_lt_of_le hl G1.size)).trans p0, (hA.cell (p := ⟨Q, 1, none⟩) (Nat.lt_of_lt_of_le hl G1.size)).trans p1⟩
theorem tg_no {d : LinkD} {c : Int} {s : ByteArray} (h : chkRes d [c] ≠ 0) : tgVal d c s = ⟨0, 0⟩ ∧ tgErr d c s = chkRes d [c] := by
  have h1 : tgErr d c s = chkRes d [c] := by rw [tgErr, if_neg h]
  exact ⟨by rw [tgVal, if_neg (by rw [h1]; exact h)], h1⟩
theorem tg_hit {d : LinkD} {n : Nat} {s : ByteArray} (h : chkRes d [(n : Int)] = 0) (hh : 0 ≤ idxS (namesOf d.classes n) s) : tgVal d n s = tgAt d.classes n s ∧ tgErr d n s = 0 := by
  have h1 : tgErr d n s = 0 := by rw [tgErr, if_pos h]; exact if_pos hh
  exact ⟨by rw [tgVal, if_pos h1]; rfl, h1⟩
theorem tg_miss {d : LinkD} {n : Nat} {s : ByteArray} (h : chkRes d [(n : Int)] = 0) (hh : ¬ 0 ≤ idxS (namesOf d.classes n) s) : tgVal d n s = ⟨0, 0⟩ ∧ tgErr d n s = 5 := by
  have h1 : tgErr d n s = 5 := by rw [tgErr, if_pos h]; exact if_neg hh
  exact ⟨by rw [tgVal, if_neg (by rw [h1]; decide)], h1⟩
def tgRef (l : List ClassD) (n : Nat) (s : ByteArray) : TargD := if 0 ≤ idxS (namesOf l n) s then tgAt l n s else ⟨0, 0⟩

set_option maxRecDepth 100000 in
set_option maxHeartbeats 4000000 in
theorem linkFinds_any (w : World) (kC kS kF kN kT : Value) (d : LinkD) (c : Int) (s : ByteArray) (hk : RLk (· < w.heap.size) w kC kS kF kN kT d) (hs : s.size ≤ maxLen) :
    Calls Tryz.prog 5 #[.agg #[kC, kS, kF, kN, kT], .int .i64 c, .string s] w fun r w' => r = .returned (.bool true) ∧ Below w.heap.size w w' := by
  have HK := mkHid hk
  have hrl := linkedErr_chk d
  have hll : d.classes.length ≤ 9223372036854775807 := by obtain ⟨_, _, -, -, h, -⟩ := hk.C; unfold maxLen at h; omega
  obtain ⟨aC, cC, aS, cS, aF, cF, aN, cN, aT, cT, rfl, rfl, rfl, rfl, rfl⟩ := hk.agg
  clear hk
  obtain ⟨W0, hW⟩ : ∃ W0, W0 = w.alloc (.cells #[.slice aC d.classes.length cC, .slice aS d.supers.length cS, .slice aF d.fields.length cF, .slice aN d.names.length cN, .slice aT d.targets.length cT] 28) := ⟨_, rfl⟩
  have hB1 : Below w.heap.size w W0 := hW ▸ (Below.refl w.heap.size w).alloc (Nat.le_refl _) _
  have HX : Hid (W0.heap[w.heap.size]? = some (.cells #[.slice aC d.classes.length cC, .slice aS d.supers.length cS, .slice aF d.fields.length cF, .slice aN d.names.length cN, .slice aT d.targets.length cT] 28 (0, 0))) := hW ▸ heap_alloc_new w _
  have HWE := mkHid hW
  have HW0 := mkHid hB1
  have HKW : Hid (∀ W, Below W0.heap.size W0 W → RLk (· < w.heap.size) W (.slice aC d.classes.length cC) (.slice aS d.supers.length cS) (.slice aF d.fields.length cF) (.slice aN d.names.length cN) (.slice aT d.targets.length cT) d ∧ w.heap.size ≤ W.heap.size) := fun W h => have hb := hB1.trans (h.mono hB1.size); ⟨HK.out.kept (Kp.below hb), hb.size⟩
  have HC1 : Hid (∀ W, Below W0.heap.size W0 W → Calls Tryz.prog 14 #[.agg #[.slice aC d.classes.length cC, .slice aS d.supers.length cS, .slice aF d.fields.length cF, .slice aN d.names.length cN, .slice aT d.targets.length cT], .string s] W fun r w' => r = .returned (.tuple #[.int .i64 (findVal d s), .int .i64 (findErr d s)]) ∧ Below W.heap.size W w') := fun W h => Find_any W w.heap.size _ _ _ _ _ d s (HKW.out W h).1 (HKW.out W h).2 hs
  have HC2 : Hid (∀ W, Below W0.heap.size W0 W → Calls Tryz.prog 15 #[.agg #[.slice aC d.classes.length cC, .slice aS d.supers.length cS, .slice aF d.fields.length cF, .slice aN d.names.length cN, .slice aT d.targets.length cT], .int .i64 c, .string s] W fun r w' => r = .returned (.tuple #[.agg #[.int .i64 (tgVal d c s).cls, .int .i64 (tgVal d c s).meth], .int .i64 (tgErr d c s)]) ∧ Below W.heap.size W w') := fun W h => Target_any W w.heap.size _ _ _ _ _ d c s (HKW.out W h).1 (HKW.out W h).2
  have HC3 : Hid (∀ W, Below W0.heap.size W0 W → Calls Tryz.prog 13 #[.agg #[.slice aC d.classes.length cC, .slice aS d.supers.length cS, .slice aF d.fields.length cF, .slice aN d.names.length cN, .slice aT d.targets.length cT]] W fun r w' => r = .returned (.int .i64 (chkRes d [])) ∧ Below W.heap.size W w') := fun W h => hrl ▸ CheckLinked_any W w.heap.size _ _ _ _ _ d (HKW.out W h).1 (HKW.out W h).2
  have HC4 : Hid (∀ W, Below W0.heap.size W0 W → Calls Tryz.prog 16 #[.slice aC d.classes.length cC, .string s] W fun r w' => r = .returned (.int .i64 (firstAt d.classes s)) ∧ w' = W) := fun W h => ClassAt_any W _ _ _ s (HKW.out W h).1.C
  have htg := targNeqG
  clear hW hB1 hrl hs
  by_cases h0 : chkRes d [] = 0
  · have h1 := chk_some h0 [c]
    have hok := chkRes_ok h0
    have hpt := ok_parts hok
    have hH := Hang.lk hok
    have hfn : firstAt d.classes s = num d.classes s := (num_firstAt _ _ hH.names).symm
    have HTO : Hid (∀ n : Nat, n < d.classes.length → ∀ W, Below W0.heap.size W0 W → Calls Tryz.prog 17 #[.agg #[.slice aC d.classes.length cC, .slice aS d.supers.length cS, .slice aF d.fields.length cF, .slice aN d.names.length cN, .slice aT d.targets.length cT], .int .i64 (n : Int), .string s] W fun r w' => r = .returned (.tuple #[.agg #[.int .i64 (tgRef d.classes n s).cls, .int .i64 (tgRef d.classes n s).meth], .bool (decide (0 ≤ idxS (namesOf d.classes n) s))]) ∧ Below W.heap.size W w') := fun n hn W hW => by
      have e3 : d.names = (List.range d.classes.length).map (namesOf d.classes) := congrArg LinkD.names hpt
      have e4 : d.targets = (List.range d.classes.length).map (targetsOf d.classes) := congrArg LinkD.targets hpt
      refine (TargetOf_any W w.heap.size _ _ _ _ _ d n s (HKW.out W hW).1 (HKW.out W hW).2 (namesOf d.classes n) (targetsOf d.classes n) (by rw [e3]; simpa using hn) (by rw [e4]; simpa using hn) (by simp [e3]) (by simp [e4]) (table_len _ _).symm).mono fun r w' ⟨hb, x, y, f, hr, h⟩ => ⟨?_, hb⟩
      rw [hr]
      rcases h with ⟨k, hk, e, rfl, rfl, rfl⟩ | ⟨e, rfl, rfl, rfl⟩
      · have : tgAt d.classes n s = (targetsOf d.classes n)[k] := by rw [tgAt, e]; simp [hk]
        rw [tgRef, if_pos (by rw [e]; omega), this, decide_eq_true (by rw [e]; omega)]
      · rw [tgRef, if_neg (by rw [e]; omega), decide_eq_false (by rw [e]; omega)]
    rw [h0] at HC3
    rw [hfn] at HC4
    by_cases hf : 0 ≤ num d.classes s
    · have f1 : findErr d s = 0 := by rw [findErr, if_pos h0, if_pos hf]
      have f2 : findVal d s = num d.classes s := by rw [findVal, if_pos f1]
      rw [f1, f2] at HC1
      have hf' : ¬ num d.classes s < 0 := by omega
      generalize num d.classes s = fm at *
      clear h0 hok hpt hH hfn f1 f2 hf HK
      by_cases p1 : c < 0
      · have h2 : chkRes d [c] = 3 := by rw [h1, if_neg]; intro h; simp [inB] at h; omega
        obtain ⟨h3, h4⟩ := tg_no (s := s) (by rw [h2]; decide)
        rw [h3, h4, h2] at HC2
        clear h1 h2 h3 h4
        go_enter Tryz.func5, Tryz.ntmps5
        go_wp2_with fail
        rw [← HWE.out]
        refine (HC1.out _ (Below.refl _ _)).mono ?_
        rintro r w1 ⟨rfl, hb1⟩
        have HB1 := mkHid hb1
        have HX1 := mkHid ((hb1.block _ (lt_of HX.out)).trans HX.out)
        clear hb1
        have x0 := cell_of HX1.out 0 (x := .slice aC d.classes.length cC) rfl
        have x1 := cell_of HX1.out 1 (x := .slice aS d.supers.length cS) rfl
        have x2 := cell_of HX1.out 2 (x := .slice aF d.fields.length cF) rfl
        have x3 := cell_of HX1.out 3 (x := .slice aN d.names.length cN) rfl
        have x4 := cell_of HX1.out 4 (x := .slice aT d.targets.length cT) rfl
        have lx := lt_of HX1.out
        go_wp2_with fail
        refine (HC2.out _ HB1.out).mono ?_
        rintro r w2 ⟨rfl, hb2⟩
        have HB2 := mkHid (HB1.out.trans (hb2.mono HB1.out.size))
        have HX2 := mkHid ((hb2.block _ lx).trans HX1.out)
        clear x0 x1 x2 x3 x4 lx hb2
        have x0 := cell_of HX2.out 0 (x := .slice aC d.classes.length cC) rfl
        have x1 := cell_of HX2.out 1 (x := .slice aS d.supers.length cS) rfl
        have x2 := cell_of HX2.out 2 (x := .slice aF d.fields.length cF) rfl
        have x3 := cell_of HX2.out 3 (x := .slice aN d.names.length cN) rfl
        have x4 := cell_of HX2.out 4 (x := .slice aT d.targets.length cT) rfl
        have lx := lt_of HX2.out
        go_wp2_with fail
        have HA2 := mkHid (HB2.out.trans (((Below.refl w2.heap.size w2).alloc (Nat.le_refl _) (.cells #[.int .i64 0, .int .i64 0] 40)).mono HB2.out.size))
        refine (HC3.out _ HA2.out).mono ?_
        rintro r w3 ⟨rfl, hb3⟩
        have HT9 := mkHid ((hb3.block w2.heap.size (by simp)).trans (heap_alloc_new w2 (.cells #[.int .i64 0, .int .i64 0] 40)))
        have HB3 := mkHid (HA2.out.trans (hb3.mono HA2.out.size))
        have HX3 := mkHid ((hb3.block _ (Nat.lt_of_lt_of_le (lt_of HX2.out) (by simp))).trans ((Below.heap_alloc w2 (.cells #[.int .i64 0, .int .i64 0] 40) _ (lt_of HX2.out)).trans HX2.out))
        clear x0 x1 x2 x3 x4 lx hb3
        have x0 := cell_of HX3.out 0 (x := .slice aC d.classes.length cC) rfl
        have x1 := cell_of HX3.out 1 (x := .slice aS d.supers.length cS) rfl
        have x2 := cell_of HX3.out 2 (x := .slice aF d.fields.length cF) rfl
        have x3 := cell_of HX3.out 3 (x := .slice aN d.names.length cN) rfl
        have x4 := cell_of HX3.out 4 (x := .slice aT d.targets.length cT) rfl
        have lx := lt_of HX3.out
        have HA3 := mkHid (HB3.out.trans (((Below.refl w3.heap.size w3).alloc (Nat.le_refl _) (.cells #[.int .i64 0, .int .i64 0] 40)).mono HB3.out.size))
        go_wp2_with fail
        refine (HC4.out _ HA3.out).mono ?_
        rintro r _ ⟨rfl, rfl⟩
        go_wp2_with fail
        refine (linkBegun_any _).mono ?_
        rintro r w5 ⟨rfl, hb5⟩
        have HB5 := mkHid (HA3.out.trans (hb5.mono HA3.out.size))
        have hv9 := (hb5.block w2.heap.size (Nat.lt_of_lt_of_le (lt_of HT9.out) (by simp))).trans ((Below.heap_alloc w3 (.cells #[.int .i64 0, .int .i64 0] 40) _ (lt_of HT9.out)).trans HT9.out)
        have hv14 := (hb5.block w3.heap.size (by simp)).trans (heap_alloc_new w3 (.cells #[.int .i64 0, .int .i64 0] 40))
        have s0 := cell_of hv9 0 (x := .int .i64 0) rfl
        have s1 := cell_of hv9 1 (x := .int .i64 0) rfl
        have t0 := cell_of hv14 0 (x := .int .i64 0) rfl
        have t1 := cell_of hv14 1 (x := .int .i64 0) rfl
        have l5 := lt_of hv9
        have l6 := lt_of hv14
        clear hb5 hv9 hv14
        clear x0 x1 x2 x3 x4 lx
        have hte := targEql 0 0 0 0
        go_wp2_with fail
        go_ret
        exact ⟨by simp, HW0.out.trans (HB5.out.mono HW0.out.size)⟩
      by_cases p2 : (d.classes.length : Int) ≤ c
      · have h2 : chkRes d [c] = 3 := by rw [h1, if_neg]; intro h; simp [inB] at h; omega
        obtain ⟨h3, h4⟩ := tg_no (s := s) (by rw [h2]; decide)
        rw [h3, h4, h2] at HC2
        clear h1 h2 h3 h4
        go_enter Tryz.func5, Tryz.ntmps5
        go_wp2_with fail
        rw [← HWE.out]
        refine (HC1.out _ (Below.refl _ _)).mono ?_
        rintro r w1 ⟨rfl, hb1⟩
        have HB1 := mkHid hb1
        have HX1 := mkHid ((hb1.block _ (lt_of HX.out)).trans HX.out)
        clear hb1
        have x0 := cell_of HX1.out 0 (x := .slice aC d.classes.length cC) rfl
        have x1 := cell_of HX1.out 1 (x := .slice aS d.supers.length cS) rfl
        have x2 := cell_of HX1.out 2 (x := .slice aF d.fields.length cF) rfl
        have x3 := cell_of HX1.out 3 (x := .slice aN d.names.length cN) rfl
        have x4 := cell_of HX1.out 4 (x := .slice aT d.targets.length cT) rfl
        have lx := lt_of HX1.out
        go_wp2_with fail
        refine (HC2.out _ HB1.out).mono ?_
        rintro r w2 ⟨rfl, hb2⟩
        have HB2 := mkHid (HB1.out.trans (hb2.mono HB1.out.size))
        have HX2 := mkHid ((hb2.block _ lx).trans HX1.out)
        clear x0 x1 x2 x3 x4 lx hb2
        have x0 := cell_of HX2.out 0 (x := .slice aC d.classes.length cC) rfl
        have x1 := cell_of HX2.out 1 (x := .slice aS d.supers.length cS) rfl
        have x2 := cell_of HX2.out 2 (x := .slice aF d.fields.length cF) rfl
        have x3 := cell_of HX2.out 3 (x := .slice aN d.names.length cN) rfl
        have x4 := cell_of HX2.out 4 (x := .slice aT d.targets.length cT) rfl
        have lx := lt_of HX2.out
        go_wp2_with fail
        have HA2 := mkHid (HB2.out.trans (((Below.refl w2.heap.size w2).alloc (Nat.le_refl _) (.cells #[.int .i64 0, .int .i64 0] 40)).mono HB2.out.size))
        refine (HC3.out _ HA2.out).mono ?_
        rintro r w3 ⟨rfl, hb3⟩
        have HT9 := mkHid ((hb3.block w2.heap.size (by simp)).trans (heap_alloc_new w2 (.cells #[.int .i64 0, .int .i64 0] 40)))
        have HB3 := mkHid (HA2.out.trans (hb3.mono HA2.out.size))
        have HX3 := mkHid ((hb3.block _ (Nat.lt_of_lt_of_le (lt_of HX2.out) (by simp))).trans ((Below.heap_alloc w2 (.cells #[.int .i64 0, .int .i64 0] 40) _ (lt_of HX2.out)).trans HX2.out))
        clear x0 x1 x2 x3 x4 lx hb3
        have x0 := cell_of HX3.out 0 (x := .slice aC d.classes.length cC) rfl
        have x1 := cell_of HX3.out 1 (x := .slice aS d.supers.length cS) rfl
        have x2 := cell_of HX3.out 2 (x := .slice aF d.fields.length cF) rfl
        have x3 := cell_of HX3.out 3 (x := .slice aN d.names.length cN) rfl
        have x4 := cell_of HX3.out 4 (x := .slice aT d.targets.length cT) rfl
        have lx := lt_of HX3.out
        have HA3 := mkHid (HB3.out.trans (((Below.refl w3.heap.size w3).alloc (Nat.le_refl _) (.cells #[.int .i64 0, .int .i64 0] 40)).mono HB3.out.size))
        go_wp2_with fail
        refine (HC4.out _ HA3.out).mono ?_
        rintro r _ ⟨rfl, rfl⟩
        go_wp2_with fail
        refine (linkBegun_any _).mono ?_
        rintro r w5 ⟨rfl, hb5⟩
        have HB5 := mkHid (HA3.out.trans (hb5.mono HA3.out.size))
        have hv9 := (hb5.block w2.heap.size (Nat.lt_of_lt_of_le (lt_of HT9.out) (by simp))).trans ((Below.heap_alloc w3 (.cells #[.int .i64 0, .int .i64 0] 40) _ (lt_of HT9.out)).trans HT9.out)
        have hv14 := (hb5.block w3.heap.size (by simp)).trans (heap_alloc_new w3 (.cells #[.int .i64 0, .int .i64 0] 40))
        have s0 := cell_of hv9 0 (x := .int .i64 0) rfl
        have s1 := cell_of hv9 1 (x := .int .i64 0) rfl
        have t0 := cell_of hv14 0 (x := .int .i64 0) rfl
        have t1 := cell_of hv14 1 (x := .int .i64 0) rfl
        have l5 := lt_of hv9
        have l6 := lt_of hv14
        clear hb5 hv9 hv14
        clear x0 x1 x2 x3 x4 lx
        have hte := targEql 0 0 0 0
        go_wp2_with fail
        go_ret
        exact ⟨by simp, HW0.out.trans (HB5.out.mono HW0.out.size)⟩
      obtain ⟨n, rfl⟩ := Int.eq_ofNat_of_zero_le (by omega : 0 ≤ c)
      have hn : n < d.classes.length := by omega
      have h2 : chkRes d [(n : Int)] = 0 := by rw [h1]; simp [inB]; omega
      by_cases hh : 0 ≤ idxS (namesOf d.classes n) s
      · obtain ⟨h3, h4⟩ := tg_hit h2 hh
        have HC5 : Hid (∀ W, Below W0.heap.size W0 W → Calls Tryz.prog 17 #[.agg #[.slice aC d.classes.length cC, .slice aS d.supers.length cS, .slice aF d.fields.length cF, .slice aN d.names.length cN, .slice aT d.targets.length cT], .int .i64 (n : Int), .string s] W fun r w' => r = .returned (.tuple #[.agg #[.int .i64 (tgAt d.classes n s).cls, .int .i64 (tgAt d.classes n s).meth], .bool true]) ∧ Below W.heap.size W w') := fun W hW => (HTO.out n hn W hW).mono fun r w' ⟨h, hb⟩ => ⟨by rw [h, decide_eq_true hh, tgRef, if_pos hh], hb⟩
        rw [h3, h4] at HC2
        generalize (tgAt d.classes n s).cls = tc at *
        generalize (tgAt d.classes n s).meth = tm at *
        clear h1 h2 h3 h4 hh hn HTO
        go_enter Tryz.func5, Tryz.ntmps5
        go_wp2_with fail
        rw [← HWE.out]
        refine (HC1.out _ (Below.refl _ _)).mono ?_
        rintro r w1 ⟨rfl, hb1⟩
        have HB1 := mkHid hb1
        have HX1 := mkHid ((hb1.block _ (lt_of HX.out)).trans HX.out)
        clear hb1
        have x0 := cell_of HX1.out 0 (x := .slice aC d.classes.length cC) rfl
        have x1 := cell_of HX1.out 1 (x := .slice aS d.supers.length cS) rfl
        have x2 := cell_of HX1.out 2 (x := .slice aF d.fields.length cF) rfl
        have x3 := cell_of HX1.out 3 (x := .slice aN d.names.length cN) rfl
        have x4 := cell_of HX1.out 4 (x := .slice aT d.targets.length cT) rfl
        have lx := lt_of HX1.out
        go_wp2_with fail
        refine (HC2.out _ HB1.out).mono ?_
        rintro r w2 ⟨rfl, hb2⟩
        have HB2 := mkHid (HB1.out.trans (hb2.mono HB1.out.size))
        have HX2 := mkHid ((hb2.block _ lx).trans HX1.out)
        clear x0 x1 x2 x3 x4 lx hb2
        have x0 := cell_of HX2.out 0 (x := .slice aC d.classes.length cC) rfl
        have x1 := cell_of HX2.out 1 (x := .slice aS d.supers.length cS) rfl
        have x2 := cell_of HX2.out 2 (x := .slice aF d.fields.length cF) rfl
        have x3 := cell_of HX2.out 3 (x := .slice aN d.names.length cN) rfl
        have x4 := cell_of HX2.out 4 (x := .slice aT d.targets.length cT) rfl
        have lx := lt_of HX2.out
        go_wp2_with fail
        have HA2 := mkHid (HB2.out.trans (((Below.refl w2.heap.size w2).alloc (Nat.le_refl _) (.cells #[.int .i64 tc, .int .i64 tm] 40)).mono HB2.out.size))
        refine (HC3.out _ HA2.out).mono ?_
        rintro r w3 ⟨rfl, hb3⟩
        have HT9 := mkHid ((hb3.block w2.heap.size (by simp)).trans (heap_alloc_new w2 (.cells #[.int .i64 tc, .int .i64 tm] 40)))
        have HB3 := mkHid (HA2.out.trans (hb3.mono HA2.out.size))
        have HX3 := mkHid ((hb3.block _ (Nat.lt_of_lt_of_le (lt_of HX2.out) (by simp))).trans ((Below.heap_alloc w2 (.cells #[.int .i64 tc, .int .i64 tm] 40) _ (lt_of HX2.out)).trans HX2.out))
        clear x0 x1 x2 x3 x4 lx hb3
        have x0 := cell_of HX3.out 0 (x := .slice aC d.classes.length cC) rfl
        have x1 := cell_of HX3.out 1 (x := .slice aS d.supers.length cS) rfl
        have x2 := cell_of HX3.out 2 (x := .slice aF d.fields.length cF) rfl
        have x3 := cell_of HX3.out 3 (x := .slice aN d.names.length cN) rfl
        have x4 := cell_of HX3.out 4 (x := .slice aT d.targets.length cT) rfl
        have lx := lt_of HX3.out
        have HA3 := mkHid (HB3.out.trans (((Below.refl w3.heap.size w3).alloc (Nat.le_refl _) (.cells #[.int .i64 0, .int .i64 0] 40)).mono HB3.out.size))
        go_wp2_with fail
        refine (HC4.out _ HA3.out).mono ?_
        rintro r _ ⟨rfl, rfl⟩
        go_wp2_with fail
        refine (HC5.out _ HA3.out).mono ?_
        rintro r w4 ⟨rfl, hb4⟩
        have HT14 := mkHid ((hb4.block w3.heap.size (by simp)).trans (heap_alloc_new w3 (.cells #[.int .i64 0, .int .i64 0] 40)))
        have HT94 := mkHid ((hb4.block w2.heap.size (Nat.lt_of_lt_of_le (lt_of HT9.out) (by simp))).trans ((Below.heap_alloc w3 (.cells #[.int .i64 0, .int .i64 0] 40) _ (lt_of HT9.out)).trans HT9.out))
        have HB4 := mkHid (HA3.out.trans (hb4.mono HA3.out.size))
        have r0 := cell_of HT14.out 0 (x := .int .i64 0) rfl
        have r1 := cell_of HT14.out 1 (x := .int .i64 0) rfl
        have z14 := frz_of HT14.out
        have l14 := lt_of HT14.out
        clear x0 x1 x2 x3 x4 lx hb4
        go_wp2_with fail
        obtain ⟨W9, h9, hB9, hF9, q0, q1⟩ := finLf (Q := w3.heap.size) (.int .i64 tc) (.int .i64 tm) (.cells #[.int .i64 tc, .int .i64 tm] 40) r0 r1
        rw [← h9]
        have hne9 : w2.heap.size ≠ w3.heap.size := Nat.ne_of_lt (lt_of HT9.out)
        have HT99 := mkHid ((hF9 w2.heap.size (lt_of HT94.out) hne9).trans HT94.out)
        have HB9 := mkHid (HB4.out.trans (hB9 W0.heap.size (Nat.le_trans HB3.out.size (Nat.le_refl _))))
        have L9 := mkHid (And.intro (lt_of HT99.out) (World.block_lt_of_cell? _ _ q0))
        have Q9 := mkHid (And.intro q0 q1)
        clear h9 hB9 hF9 q0 q1 r0 r1 z14 l14
        refine (linkBegun_any W9).mono ?_
        rintro r w5 ⟨rfl, hb5⟩
        have HB5 := mkHid (HB9.out.trans (hb5.mono HB9.out.size))
        have s0 := cell_of ((hb5.block _ L9.out.1).trans HT99.out) 0 (x := .int .i64 tc) rfl
        have s1 := cell_of ((hb5.block _ L9.out.1).trans HT99.out) 1 (x := .int .i64 tm) rfl
        have t0 := (hb5.cell (p := ⟨w3.heap.size, 0, none⟩) L9.out.2).trans Q9.out.1
        have t1 := (hb5.cell (p := ⟨w3.heap.size, 1, none⟩) L9.out.2).trans Q9.out.2
        have l5 : w2.heap.size < w5.heap.size := Nat.lt_of_lt_of_le L9.out.1 hb5.size
        have l6 : w3.heap.size < w5.heap.size := Nat.lt_of_lt_of_le L9.out.2 hb5.size
        clear hb5
        have hte := targEql tc tm tc tm
        go_wp2_with fail
        go_ret
        exact ⟨by simp, HW0.out.trans (HB5.out.mono HW0.out.size)⟩
      · obtain ⟨h3, h4⟩ := tg_miss h2 hh
        have HC5 : Hid (∀ W, Below W0.heap.size W0 W → Calls Tryz.prog 17 #[.agg #[.slice aC d.classes.length cC, .slice aS d.supers.length cS, .slice aF d.fields.length cF, .slice aN d.names.length cN, .slice aT d.targets.length cT], .int .i64 (n : Int), .string s] W fun r w' => r = .returned (.tuple #[.agg #[.int .i64 0, .int .i64 0], .bool false]) ∧ Below W.heap.size W w') := fun W hW => (HTO.out n hn W hW).mono fun r w' ⟨h, hb⟩ => ⟨by rw [h, decide_eq_false hh, tgRef, if_neg hh], hb⟩
        rw [h3, h4] at HC2
        clear h1 h2 h3 h4 hh hn HTO
        go_enter Tryz.func5, Tryz.ntmps5
        go_wp2_with fail
        rw [← HWE.out]
        refine (HC1.out _ (Below.refl _ _)).mono ?_
        rintro r w1 ⟨rfl, hb1⟩
        have HB1 := mkHid hb1
        have HX1 := mkHid ((hb1.block _ (lt_of HX.out)).trans HX.out)
        clear hb1
        have x0 := cell_of HX1.out 0 (x := .slice aC d.classes.length cC) rfl
        have x1 := cell_of HX1.out 1 (x := .slice aS d.supers.length cS) rfl
        have x2 := cell_of HX1.out 2 (x := .slice aF d.fields.length cF) rfl
        have x3 := cell_of HX1.out 3 (x := .slice aN d.names.length cN) rfl
        have x4 := cell_of HX1.out 4 (x := .slice aT d.targets.length cT) rfl
        have lx := lt_of HX1.out
        go_wp2_with fail
        refine (HC2.out _ HB1.out).mono ?_
        rintro r w2 ⟨rfl, hb2⟩
        have HB2 := mkHid (HB1.out.trans (hb2.mono HB1.out.size))
        have HX2 := mkHid ((hb2.block _ lx).trans HX1.out)
        clear x0 x1 x2 x3 x4 lx hb2
        have x0 := cell_of HX2.out 0 (x := .slice aC d.classes.length cC) rfl
        have x1 := cell_of HX2.out 1 (x := .slice aS d.supers.length cS) rfl
        have x2 := cell_of HX2.out 2 (x := .slice aF d.fields.length cF) rfl
        have x3 := cell_of HX2.out 3 (x := .slice aN d.names.length cN) rfl
        have x4 := cell_of HX2.out 4 (x := .slice aT d.targets.length cT) rfl
        have lx := lt_of HX2.out
        go_wp2_with fail
        have HA2 := mkHid (HB2.out.trans (((Below.refl w2.heap.size w2).alloc (Nat.le_refl _) (.cells #[.int .i64 0, .int .i64 0] 40)).mono HB2.out.size))
        refine (HC3.out _ HA2.out).mono ?_
        rintro r w3 ⟨rfl, hb3⟩
        have HT9 := mkHid ((hb3.block w2.heap.size (by simp)).trans (heap_alloc_new w2 (.cells #[.int .i64 0, .int .i64 0] 40)))
        have HB3 := mkHid (HA2.out.trans (hb3.mono HA2.out.size))
        have HX3 := mkHid ((hb3.block _ (Nat.lt_of_lt_of_le (lt_of HX2.out) (by simp))).trans ((Below.heap_alloc w2 (.cells #[.int .i64 0, .int .i64 0] 40) _ (lt_of HX2.out)).trans HX2.out))
        clear x0 x1 x2 x3 x4 lx hb3
        have x0 := cell_of HX3.out 0 (x := .slice aC d.classes.length cC) rfl
        have x1 := cell_of HX3.out 1 (x := .slice aS d.supers.length cS) rfl
        have x2 := cell_of HX3.out 2 (x := .slice aF d.fields.length cF) rfl
        have x3 := cell_of HX3.out 3 (x := .slice aN d.names.length cN) rfl
        have x4 := cell_of HX3.out 4 (x := .slice aT d.targets.length cT) rfl
        have lx := lt_of HX3.out
        have HA3 := mkHid (HB3.out.trans (((Below.refl w3.heap.size w3).alloc (Nat.le_refl _) (.cells #[.int .i64 0, .int .i64 0] 40)).mono HB3.out.size))
        go_wp2_with fail
        refine (HC4.out _ HA3.out).mono ?_
        rintro r _ ⟨rfl, rfl⟩
        go_wp2_with fail
        refine (HC5.out _ HA3.out).mono ?_
        rintro r w4 ⟨rfl, hb4⟩
        have HT14 := mkHid ((hb4.block w3.heap.size (by simp)).trans (heap_alloc_new w3 (.cells #[.int .i64 0, .int .i64 0] 40)))
        have HT94 := mkHid ((hb4.block w2.heap.size (Nat.lt_of_lt_of_le (lt_of HT9.out) (by simp))).trans ((Below.heap_alloc w3 (.cells #[.int .i64 0, .int .i64 0] 40) _ (lt_of HT9.out)).trans HT9.out))
        have HB4 := mkHid (HA3.out.trans (hb4.mono HA3.out.size))
        have r0 := cell_of HT14.out 0 (x := .int .i64 0) rfl
        have r1 := cell_of HT14.out 1 (x := .int .i64 0) rfl
        have z14 := frz_of HT14.out
        have l14 := lt_of HT14.out
        clear x0 x1 x2 x3 x4 lx hb4
        go_wp2_with fail
        have HB9 := mkHid (HB4.out.trans (((Below.refl w4.heap.size w4).alloc (Nat.le_refl _) (.cells #[.int .i64 0, .int .i64 0] 40)).mono HB4.out.size))
        refine (linkBegun_any _).mono ?_
        rintro r w5 ⟨rfl, hb5⟩
        have HB5 := mkHid (HB9.out.trans (hb5.mono HB9.out.size))
        have hv9 := (hb5.block w2.heap.size (Nat.lt_of_lt_of_le (lt_of HT94.out) (by simp))).trans ((Below.heap_alloc w4 (.cells #[.int .i64 0, .int .i64 0] 40) _ (lt_of HT94.out)).trans HT94.out)
        have hv14 := (hb5.block w3.heap.size (Nat.lt_of_lt_of_le (lt_of HT14.out) (by simp))).trans ((Below.heap_alloc w4 (.cells #[.int .i64 0, .int .i64 0] 40) _ (lt_of HT14.out)).trans HT14.out)
        have s0 := cell_of hv9 0 (x := .int .i64 0) rfl
        have s1 := cell_of hv9 1 (x := .int .i64 0) rfl
        have t0 := cell_of hv14 0 (x := .int .i64 0) rfl
        have t1 := cell_of hv14 1 (x := .int .i64 0) rfl
        have l5 := lt_of hv9
        have l6 := lt_of hv14
        clear hb5 hv9 hv14 r0 r1 z14 l14
        have hte := targEql 0 0 0 0
        go_wp2_with fail
        go_ret
        exact ⟨by simp, HW0.out.trans (HB5.out.mono HW0.out.size)⟩
    · have f1 : findErr d s = 5 := by rw [findErr, if_pos h0, if_neg hf]
      have f2 : findVal d s = 0 := by rw [findVal, if_neg (by rw [f1]; decide)]
      rw [f1, f2] at HC1
      have hf' : num d.classes s < 0 := by omega
      generalize num d.classes s = fm at *
      clear h0 hok hpt hH hfn f1 f2 hf HK
      by_cases p1 : c < 0
      · have h2 : chkRes d [c] = 3 := by rw [h1, if_neg]; intro h; simp [inB] at h; omega
        obtain ⟨h3, h4⟩ := tg_no (s := s) (by rw [h2]; decide)
        rw [h3, h4, h2] at HC2
        clear h1 h2 h3 h4
        go_enter Tryz.func5, Tryz.ntmps5
        go_wp2_with fail
        rw [← HWE.out]
        refine (HC1.out _ (Below.refl _ _)).mono ?_
        rintro r w1 ⟨rfl, hb1⟩
        have HB1 := mkHid hb1
        have HX1 := mkHid ((hb1.block _ (lt_of HX.out)).trans HX.out)
        clear hb1
        have x0 := cell_of HX1.out 0 (x := .slice aC d.classes.length cC) rfl
        have x1 := cell_of HX1.out 1 (x := .slice aS d.supers.length cS) rfl
        have x2 := cell_of HX1.out 2 (x := .slice aF d.fields.length cF) rfl
        have x3 := cell_of HX1.out 3 (x := .slice aN d.names.length cN) rfl
        have x4 := cell_of HX1.out 4 (x := .slice aT d.targets.length cT) rfl
        have lx := lt_of HX1.out
        go_wp2_with fail
        refine (HC2.out _ HB1.out).mono ?_
        rintro r w2 ⟨rfl, hb2⟩
        have HB2 := mkHid (HB1.out.trans (hb2.mono HB1.out.size))
        have HX2 := mkHid ((hb2.block _ lx).trans HX1.out)
        clear x0 x1 x2 x3 x4 lx hb2
        have x0 := cell_of HX2.out 0 (x := .slice aC d.classes.length cC) rfl
        have x1 := cell_of HX2.out 1 (x := .slice aS d.supers.length cS) rfl
        have x2 := cell_of HX2.out 2 (x := .slice aF d.fields.length cF) rfl
        have x3 := cell_of HX2.out 3 (x := .slice aN d.names.length cN) rfl
        have x4 := cell_of HX2.out 4 (x := .slice aT d.targets.length cT) rfl
        have lx := lt_of HX2.out
        go_wp2_with fail
        have HA2 := mkHid (HB2.out.trans (((Below.refl w2.heap.size w2).alloc (Nat.le_refl _) (.cells #[.int .i64 0, .int .i64 0] 40)).mono HB2.out.size))
        refine (HC3.out _ HA2.out).mono ?_
        rintro r w3 ⟨rfl, hb3⟩
        have HT9 := mkHid ((hb3.block w2.heap.size (by simp)).trans (heap_alloc_new w2 (.cells #[.int .i64 0, .int .i64 0] 40)))
        have HB3 := mkHid (HA2.out.trans (hb3.mono HA2.out.size))
        have HX3 := mkHid ((hb3.block _ (Nat.lt_of_lt_of_le (lt_of HX2.out) (by simp))).trans ((Below.heap_alloc w2 (.cells #[.int .i64 0, .int .i64 0] 40) _ (lt_of HX2.out)).trans HX2.out))
        clear x0 x1 x2 x3 x4 lx hb3
        have x0 := cell_of HX3.out 0 (x := .slice aC d.classes.length cC) rfl
        have x1 := cell_of HX3.out 1 (x := .slice aS d.supers.length cS) rfl
        have x2 := cell_of HX3.out 2 (x := .slice aF d.fields.length cF) rfl
        have x3 := cell_of HX3.out 3 (x := .slice aN d.names.length cN) rfl
        have x4 := cell_of HX3.out 4 (x := .slice aT d.targets.length cT) rfl
        have lx := lt_of HX3.out
        have HA3 := mkHid (HB3.out.trans (((Below.refl w3.heap.size w3).alloc (Nat.le_refl _) (.cells #[.int .i64 0, .int .i64 0] 40)).mono HB3.out.size))
        go_wp2_with fail
        refine (HC4.out _ HA3.out).mono ?_
        rintro r _ ⟨rfl, rfl⟩
        go_wp2_with fail
        refine (linkBegun_any _).mono ?_
        rintro r w5 ⟨rfl, hb5⟩
        have HB5 := mkHid (HA3.out.trans (hb5.mono HA3.out.size))
        have hv9 := (hb5.block w2.heap.size (Nat.lt_of_lt_of_le (lt_of HT9.out) (by simp))).trans ((Below.heap_alloc w3 (.cells #[.int .i64 0, .int .i64 0] 40) _ (lt_of HT9.out)).trans HT9.out)
        have hv14 := (hb5.block w3.heap.size (by simp)).trans (heap_alloc_new w3 (.cells #[.int .i64 0, .int .i64 0] 40))
        have s0 := cell_of hv9 0 (x := .int .i64 0) rfl
        have s1 := cell_of hv9 1 (x := .int .i64 0) rfl
        have t0 := cell_of hv14 0 (x := .int .i64 0) rfl
        have t1 := cell_of hv14 1 (x := .int .i64 0) rfl
        have l5 := lt_of hv9
        have l6 := lt_of hv14
        clear hb5 hv9 hv14
        clear x0 x1 x2 x3 x4 lx
        have hte := targEql 0 0 0 0
        go_wp2_with fail
        go_ret
        exact ⟨by simp, HW0.out.trans (HB5.out.mono HW0.out.size)⟩
      by_cases p2 : (d.classes.length : Int) ≤ c
      · have h2 : chkRes d [c] = 3 := by rw [h1, if_neg]; intro h; simp [inB] at h; omega
        obtain ⟨h3, h4⟩ := tg_no (s := s) (by rw [h2]; decide)
        rw [h3, h4, h2] at HC2
        clear h1 h2 h3 h4
        go_enter Tryz.func5, Tryz.ntmps5
        go_wp2_with fail
        rw [← HWE.out]
        refine (HC1.out _ (Below.refl _ _)).mono ?_
        rintro r w1 ⟨rfl, hb1⟩
        have HB1 := mkHid hb1
        have HX1 := mkHid ((hb1.block _ (lt_of HX.out)).trans HX.out)
        clear hb1
        have x0 := cell_of HX1.out 0 (x := .slice aC d.classes.length cC) rfl
        have x1 := cell_of HX1.out 1 (x := .slice aS d.supers.length cS) rfl
        have x2 := cell_of HX1.out 2 (x := .slice aF d.fields.length cF) rfl
        have x3 := cell_of HX1.out 3 (x := .slice aN d.names.length cN) rfl
        have x4 := cell_of HX1.out 4 (x := .slice aT d.targets.length cT) rfl
        have lx := lt_of HX1.out
        go_wp2_with fail
        refine (HC2.out _ HB1.out).mono ?_
        rintro r w2 ⟨rfl, hb2⟩
        have HB2 := mkHid (HB1.out.trans (hb2.mono HB1.out.size))
        have HX2 := mkHid ((hb2.block _ lx).trans HX1.out)
        clear x0 x1 x2 x3 x4 lx hb2
        have x0 := cell_of HX2.out 0 (x := .slice aC d.classes.length cC) rfl
        have x1 := cell_of HX2.out 1 (x := .slice aS d.supers.length cS) rfl
        have x2 := cell_of HX2.out 2 (x := .slice aF d.fields.length cF) rfl
        have x3 := cell_of HX2.out 3 (x := .slice aN d.names.length cN) rfl
        have x4 := cell_of HX2.out 4 (x := .slice aT d.targets.length cT) rfl
        have lx := lt_of HX2.out
        go_wp2_with fail
        have HA2 := mkHid (HB2.out.trans (((Below.refl w2.heap.size w2).alloc (Nat.le_refl _) (.cells #[.int .i64 0, .int .i64 0] 40)).mono HB2.out.size))
        refine (HC3.out _ HA2.out).mono ?_
        rintro r w3 ⟨rfl, hb3⟩
        have HT9 := mkHid ((hb3.block w2.heap.size (by simp)).trans (heap_alloc_new w2 (.cells #[.int .i64 0, .int .i64 0] 40)))
        have HB3 := mkHid (HA2.out.trans (hb3.mono HA2.out.size))
        have HX3 := mkHid ((hb3.block _ (Nat.lt_of_lt_of_le (lt_of HX2.out) (by simp))).trans ((Below.heap_alloc w2 (.cells #[.int .i64 0, .int .i64 0] 40) _ (lt_of HX2.out)).trans HX2.out))
        clear x0 x1 x2 x3 x4 lx hb3
        have x0 := cell_of HX3.out 0 (x := .slice aC d.classes.length cC) rfl
        have x1 := cell_of HX3.out 1 (x := .slice aS d.supers.length cS) rfl
        have x2 := cell_of HX3.out 2 (x := .slice aF d.fields.length cF) rfl
        have x3 := cell_of HX3.out 3 (x := .slice aN d.names.length cN) rfl
        have x4 := cell_of HX3.out 4 (x := .slice aT d.targets.length cT) rfl
        have lx := lt_of HX3.out
        have HA3 := mkHid (HB3.out.trans (((Below.refl w3.heap.size w3).alloc (Nat.le_refl _) (.cells #[.int .i64 0, .int .i64 0] 40)).mono HB3.out.size))
        go_wp2_with fail
        refine (HC4.out _ HA3.out).mono ?_
        rintro r _ ⟨rfl, rfl⟩
        go_wp2_with fail
        refine (linkBegun_any _).mono ?_
        rintro r w5 ⟨rfl, hb5⟩
        have HB5 := mkHid (HA3.out.trans (hb5.mono HA3.out.size))
        have hv9 := (hb5.block w2.heap.size (Nat.lt_of_lt_of_le (lt_of HT9.out) (by simp))).trans ((Below.heap_alloc w3 (.cells #[.int .i64 0, .int .i64 0] 40) _ (lt_of HT9.out)).trans HT9.out)
        have hv14 := (hb5.block w3.heap.size (by simp)).trans (heap_alloc_new w3 (.cells #[.int .i64 0, .int .i64 0] 40))
        have s0 := cell_of hv9 0 (x := .int .i64 0) rfl
        have s1 := cell_of hv9 1 (x := .int .i64 0) rfl
        have t0 := cell_of hv14 0 (x := .int .i64 0) rfl
        have t1 := cell_of hv14 1 (x := .int .i64 0) rfl
        have l5 := lt_of hv9
        have l6 := lt_of hv14
        clear hb5 hv9 hv14
        clear x0 x1 x2 x3 x4 lx
        have hte := targEql 0 0 0 0
        go_wp2_with fail
        go_ret
        exact ⟨by simp, HW0.out.trans (HB5.out.mono HW0.out.size)⟩
      obtain ⟨n, rfl⟩ := Int.eq_ofNat_of_zero_le (by omega : 0 ≤ c)
      have hn : n < d.classes.length := by omega
      have h2 : chkRes d [(n : Int)] = 0 := by rw [h1]; simp [inB]; omega
      by_cases hh : 0 ≤ idxS (namesOf d.classes n) s
      · obtain ⟨h3, h4⟩ := tg_hit h2 hh
        have HC5 : Hid (∀ W, Below W0.heap.size W0 W → Calls Tryz.prog 17 #[.agg #[.slice aC d.classes.length cC, .slice aS d.supers.length cS, .slice aF d.fields.length cF, .slice aN d.names.length cN, .slice aT d.targets.length cT], .int .i64 (n : Int), .string s] W fun r w' => r = .returned (.tuple #[.agg #[.int .i64 (tgAt d.classes n s).cls, .int .i64 (tgAt d.classes n s).meth], .bool true]) ∧ Below W.heap.size W w') := fun W hW => (HTO.out n hn W hW).mono fun r w' ⟨h, hb⟩ => ⟨by rw [h, decide_eq_true hh, tgRef, if_pos hh], hb⟩
        rw [h3, h4] at HC2
        generalize (tgAt d.classes n s).cls = tc at *
        generalize (tgAt d.classes n s).meth = tm at *
        clear h1 h2 h3 h4 hh hn HTO
        go_enter Tryz.func5, Tryz.ntmps5
        go_wp2_with fail
        rw [← HWE.out]
        refine (HC1.out _ (Below.refl _ _)).mono ?_
        rintro r w1 ⟨rfl, hb1⟩
        have HB1 := mkHid hb1
        have HX1 := mkHid ((hb1.block _ (lt_of HX.out)).trans HX.out)
        clear hb1
        have x0 := cell_of HX1.out 0 (x := .slice aC d.classes.length cC) rfl
        have x1 := cell_of HX1.out 1 (x := .slice aS d.supers.length cS) rfl
        have x2 := cell_of HX1.out 2 (x := .slice aF d.fields.length cF) rfl
        have x3 := cell_of HX1.out 3 (x := .slice aN d.names.length cN) rfl
        have x4 := cell_of HX1.out 4 (x := .slice aT d.targets.length cT) rfl
        have lx := lt_of HX1.out
        go_wp2_with fail
        refine (HC2.out _ HB1.out).mono ?_
        rintro r w2 ⟨rfl, hb2⟩
        have HB2 := mkHid (HB1.out.trans (hb2.mono HB1.out.size))
        have HX2 := mkHid ((hb2.block _ lx).trans HX1.out)
        clear x0 x1 x2 x3 x4 lx hb2
        have x0 := cell_of HX2.out 0 (x := .slice aC d.classes.length cC) rfl
        have x1 := cell_of HX2.out 1 (x := .slice aS d.supers.length cS) rfl
        have x2 := cell_of HX2.out 2 (x := .slice aF d.fields.length cF) rfl
        have x3 := cell_of HX2.out 3 (x := .slice aN d.names.length cN) rfl
        have x4 := cell_of HX2.out 4 (x := .slice aT d.targets.length cT) rfl
        have lx := lt_of HX2.out
        go_wp2_with fail
        have HA2 := mkHid (HB2.out.trans (((Below.refl w2.heap.size w2).alloc (Nat.le_refl _) (.cells #[.int .i64 tc, .int .i64 tm] 40)).mono HB2.out.size))
        refine (HC3.out _ HA2.out).mono ?_
        rintro r w3 ⟨rfl, hb3⟩
        have HT9 := mkHid ((hb3.block w2.heap.size (by simp)).trans (heap_alloc_new w2 (.cells #[.int .i64 tc, .int .i64 tm] 40)))
        have HB3 := mkHid (HA2.out.trans (hb3.mono HA2.out.size))
        have HX3 := mkHid ((hb3.block _ (Nat.lt_of_lt_of_le (lt_of HX2.out) (by simp))).trans ((Below.heap_alloc w2 (.cells #[.int .i64 tc, .int .i64 tm] 40) _ (lt_of HX2.out)).trans HX2.out))
        clear x0 x1 x2 x3 x4 lx hb3
        have x0 := cell_of HX3.out 0 (x := .slice aC d.classes.length cC) rfl
        have x1 := cell_of HX3.out 1 (x := .slice aS d.supers.length cS) rfl
        have x2 := cell_of HX3.out 2 (x := .slice aF d.fields.length cF) rfl
        have x3 := cell_of HX3.out 3 (x := .slice aN d.names.length cN) rfl
        have x4 := cell_of HX3.out 4 (x := .slice aT d.targets.length cT) rfl
        have lx := lt_of HX3.out
        have HA3 := mkHid (HB3.out.trans (((Below.refl w3.heap.size w3).alloc (Nat.le_refl _) (.cells #[.int .i64 0, .int .i64 0] 40)).mono HB3.out.size))
        go_wp2_with fail
        refine (HC4.out _ HA3.out).mono ?_
        rintro r _ ⟨rfl, rfl⟩
        go_wp2_with fail
        refine (HC5.out _ HA3.out).mono ?_
        rintro r w4 ⟨rfl, hb4⟩
        have HT14 := mkHid ((hb4.block w3.heap.size (by simp)).trans (heap_alloc_new w3 (.cells #[.int .i64 0, .int .i64 0] 40)))
        have HT94 := mkHid ((hb4.block w2.heap.size (Nat.lt_of_lt_of_le (lt_of HT9.out) (by simp))).trans ((Below.heap_alloc w3 (.cells #[.int .i64 0, .int .i64 0] 40) _ (lt_of HT9.out)).trans HT9.out))
        have HB4 := mkHid (HA3.out.trans (hb4.mono HA3.out.size))
        have r0 := cell_of HT14.out 0 (x := .int .i64 0) rfl
        have r1 := cell_of HT14.out 1 (x := .int .i64 0) rfl
        have z14 := frz_of HT14.out
        have l14 := lt_of HT14.out
        clear x0 x1 x2 x3 x4 lx hb4
        go_wp2_with fail
        obtain ⟨W9, h9, hB9, hF9, q0, q1⟩ := finLf (Q := w3.heap.size) (.int .i64 tc) (.int .i64 tm) (.cells #[.int .i64 tc, .int .i64 tm] 40) r0 r1
        rw [← h9]
        have hne9 : w2.heap.size ≠ w3.heap.size := Nat.ne_of_lt (lt_of HT9.out)
        have HT99 := mkHid ((hF9 w2.heap.size (lt_of HT94.out) hne9).trans HT94.out)
        have HB9 := mkHid (HB4.out.trans (hB9 W0.heap.size (Nat.le_trans HB3.out.size (Nat.le_refl _))))
        have L9 := mkHid (And.intro (lt_of HT99.out) (World.block_lt_of_cell? _ _ q0))
        have Q9 := mkHid (And.intro q0 q1)
        clear h9 hB9 hF9 q0 q1 r0 r1 z14 l14
        refine (linkBegun_any W9).mono ?_
        rintro r w5 ⟨rfl, hb5⟩
        have HB5 := mkHid (HB9.out.trans (hb5.mono HB9.out.size))
        have s0 := cell_of ((hb5.block _ L9.out.1).trans HT99.out) 0 (x := .int .i64 tc) rfl
        have s1 := cell_of ((hb5.block _ L9.out.1).trans HT99.out) 1 (x := .int .i64 tm) rfl
        have t0 := (hb5.cell (p := ⟨w3.heap.size, 0, none⟩) L9.out.2).trans Q9.out.1
        have t1 := (hb5.cell (p := ⟨w3.heap.size, 1, none⟩) L9.out.2).trans Q9.out.2
        have l5 : w2.heap.size < w5.heap.size := Nat.lt_of_lt_of_le L9.out.1 hb5.size
        have l6 : w3.heap.size < w5.heap.size := Nat.lt_of_lt_of_le L9.out.2 hb5.size
        clear hb5
        have hte := targEql tc tm tc tm
        go_wp2_with fail
        go_ret
        exact ⟨by simp, HW0.out.trans (HB5.out.mono HW0.out.size)⟩
      · obtain ⟨h3, h4⟩ := tg_miss h2 hh
        have HC5 : Hid (∀ W, Below W0.heap.size W0 W → Calls Tryz.prog 17 #[.agg #[.slice aC d.classes.length cC, .slice aS d.supers.length cS, .slice aF d.fields.length cF, .slice aN d.names.length cN, .slice aT d.targets.length cT], .int .i64 (n : Int), .string s] W fun r w' => r = .returned (.tuple #[.agg #[.int .i64 0, .int .i64 0], .bool false]) ∧ Below W.heap.size W w') := fun W hW => (HTO.out n hn W hW).mono fun r w' ⟨h, hb⟩ => ⟨by rw [h, decide_eq_false hh, tgRef, if_neg hh], hb⟩
        rw [h3, h4] at HC2
        clear h1 h2 h3 h4 hh hn HTO
        go_enter Tryz.func5, Tryz.ntmps5
        go_wp2_with fail
        rw [← HWE.out]
        refine (HC1.out _ (Below.refl _ _)).mono ?_
        rintro r w1 ⟨rfl, hb1⟩
        have HB1 := mkHid hb1
        have HX1 := mkHid ((hb1.block _ (lt_of HX.out)).trans HX.out)
        clear hb1
        have x0 := cell_of HX1.out 0 (x := .slice aC d.classes.length cC) rfl
        have x1 := cell_of HX1.out 1 (x := .slice aS d.supers.length cS) rfl
        have x2 := cell_of HX1.out 2 (x := .slice aF d.fields.length cF) rfl
        have x3 := cell_of HX1.out 3 (x := .slice aN d.names.length cN) rfl
        have x4 := cell_of HX1.out 4 (x := .slice aT d.targets.length cT) rfl
        have lx := lt_of HX1.out
        go_wp2_with fail
        refine (HC2.out _ HB1.out).mono ?_
        rintro r w2 ⟨rfl, hb2⟩
        have HB2 := mkHid (HB1.out.trans (hb2.mono HB1.out.size))
        have HX2 := mkHid ((hb2.block _ lx).trans HX1.out)
        clear x0 x1 x2 x3 x4 lx hb2
        have x0 := cell_of HX2.out 0 (x := .slice aC d.classes.length cC) rfl
        have x1 := cell_of HX2.out 1 (x := .slice aS d.supers.length cS) rfl
        have x2 := cell_of HX2.out 2 (x := .slice aF d.fields.length cF) rfl
        have x3 := cell_of HX2.out 3 (x := .slice aN d.names.length cN) rfl
        have x4 := cell_of HX2.out 4 (x := .slice aT d.targets.length cT) rfl
        have lx := lt_of HX2.out
        go_wp2_with fail
        have HA2 := mkHid (HB2.out.trans (((Below.refl w2.heap.size w2).alloc (Nat.le_refl _) (.cells #[.int .i64 0, .int .i64 0] 40)).mono HB2.out.size))
        refine (HC3.out _ HA2.out).mono ?_
        rintro r w3 ⟨rfl, hb3⟩
        have HT9 := mkHid ((hb3.block w2.heap.size (by simp)).trans (heap_alloc_new w2 (.cells #[.int .i64 0, .int .i64 0] 40)))
        have HB3 := mkHid (HA2.out.trans (hb3.mono HA2.out.size))
        have HX3 := mkHid ((hb3.block _ (Nat.lt_of_lt_of_le (lt_of HX2.out) (by simp))).trans ((Below.heap_alloc w2 (.cells #[.int .i64 0, .int .i64 0] 40) _ (lt_of HX2.out)).trans HX2.out))
        clear x0 x1 x2 x3 x4 lx hb3
        have x0 := cell_of HX3.out 0 (x := .slice aC d.classes.length cC) rfl
        have x1 := cell_of HX3.out 1 (x := .slice aS d.supers.length cS) rfl
        have x2 := cell_of HX3.out 2 (x := .slice aF d.fields.length cF) rfl
        have x3 := cell_of HX3.out 3 (x := .slice aN d.names.length cN) rfl
        have x4 := cell_of HX3.out 4 (x := .slice aT d.targets.length cT) rfl
        have lx := lt_of HX3.out
        have HA3 := mkHid (HB3.out.trans (((Below.refl w3.heap.size w3).alloc (Nat.le_refl _) (.cells #[.int .i64 0, .int .i64 0] 40)).mono HB3.out.size))
        go_wp2_with fail
        refine (HC4.out _ HA3.out).mono ?_
        rintro r _ ⟨rfl, rfl⟩
        go_wp2_with fail
        refine (HC5.out _ HA3.out).mono ?_
        rintro r w4 ⟨rfl, hb4⟩
        have HT14 := mkHid ((hb4.block w3.heap.size (by simp)).trans (heap_alloc_new w3 (.cells #[.int .i64 0, .int .i64 0] 40)))
        have HT94 := mkHid ((hb4.block w2.heap.size (Nat.lt_of_lt_of_le (lt_of HT9.out) (by simp))).trans ((Below.heap_alloc w3 (.cells #[.int .i64 0, .int .i64 0] 40) _ (lt_of HT9.out)).trans HT9.out))
        have HB4 := mkHid (HA3.out.trans (hb4.mono HA3.out.size))
        have r0 := cell_of HT14.out 0 (x := .int .i64 0) rfl
        have r1 := cell_of HT14.out 1 (x := .int .i64 0) rfl
        have z14 := frz_of HT14.out
        have l14 := lt_of HT14.out
        clear x0 x1 x2 x3 x4 lx hb4
        go_wp2_with fail
        have HB9 := mkHid (HB4.out.trans (((Below.refl w4.heap.size w4).alloc (Nat.le_refl _) (.cells #[.int .i64 0, .int .i64 0] 40)).mono HB4.out.size))
        refine (linkBegun_any _).mono ?_
        rintro r w5 ⟨rfl, hb5⟩
        have HB5 := mkHid (HB9.out.trans (hb5.mono HB9.out.size))
        have hv9 := (hb5.block w2.heap.size (Nat.lt_of_lt_of_le (lt_of HT94.out) (by simp))).trans ((Below.heap_alloc w4 (.cells #[.int .i64 0, .int .i64 0] 40) _ (lt_of HT94.out)).trans HT94.out)
        have hv14 := (hb5.block w3.heap.size (Nat.lt_of_lt_of_le (lt_of HT14.out) (by simp))).trans ((Below.heap_alloc w4 (.cells #[.int .i64 0, .int .i64 0] 40) _ (lt_of HT14.out)).trans HT14.out)
        have s0 := cell_of hv9 0 (x := .int .i64 0) rfl
        have s1 := cell_of hv9 1 (x := .int .i64 0) rfl
        have t0 := cell_of hv14 0 (x := .int .i64 0) rfl
        have t1 := cell_of hv14 1 (x := .int .i64 0) rfl
        have l5 := lt_of hv9
        have l6 := lt_of hv14
        clear hb5 hv9 hv14 r0 r1 z14 l14
        have hte := targEql 0 0 0 0
        go_wp2_with fail
        go_ret
        exact ⟨by simp, HW0.out.trans (HB5.out.mono HW0.out.size)⟩
  · obtain ⟨h2, h3⟩ := chk_none h0 [c]
    obtain ⟨h4, h5⟩ := tg_no (s := s) (by rw [h2]; decide : chkRes d [c] ≠ 0)
    have f1 : findErr d s = 4 := by rw [findErr, if_neg h0, h3]
    have f2 : findVal d s = 0 := by rw [findVal, if_neg (by rw [f1]; decide)]
    rw [f1, f2] at HC1
    rw [h4, h5, h2] at HC2
    rw [h3] at HC3
    clear h0 h2 h3 h4 h5 f1 f2 HK
    go_enter Tryz.func5, Tryz.ntmps5
    go_wp2_with fail
    rw [← HWE.out]
    refine (HC1.out _ (Below.refl _ _)).mono ?_
    rintro r w1 ⟨rfl, hb1⟩
    have HB1 := mkHid hb1
    have HX1 := mkHid ((hb1.block _ (lt_of HX.out)).trans HX.out)
    clear hb1
    have x0 := cell_of HX1.out 0 (x := .slice aC d.classes.length cC) rfl
    have x1 := cell_of HX1.out 1 (x := .slice aS d.supers.length cS) rfl
    have x2 := cell_of HX1.out 2 (x := .slice aF d.fields.length cF) rfl
    have x3 := cell_of HX1.out 3 (x := .slice aN d.names.length cN) rfl
    have x4 := cell_of HX1.out 4 (x := .slice aT d.targets.length cT) rfl
    have lx := lt_of HX1.out
    go_wp2_with fail
    refine (HC2.out _ HB1.out).mono ?_
    rintro r w2 ⟨rfl, hb2⟩
    have HB2 := mkHid (HB1.out.trans (hb2.mono HB1.out.size))
    have HX2 := mkHid ((hb2.block _ lx).trans HX1.out)
    clear x0 x1 x2 x3 x4 lx hb2
    have x0 := cell_of HX2.out 0 (x := .slice aC d.classes.length cC) rfl
    have x1 := cell_of HX2.out 1 (x := .slice aS d.supers.length cS) rfl
    have x2 := cell_of HX2.out 2 (x := .slice aF d.fields.length cF) rfl
    have x3 := cell_of HX2.out 3 (x := .slice aN d.names.length cN) rfl
    have x4 := cell_of HX2.out 4 (x := .slice aT d.targets.length cT) rfl
    have lx := lt_of HX2.out
    go_wp2_with fail
    have HA2 := mkHid (HB2.out.trans (((Below.refl w2.heap.size w2).alloc (Nat.le_refl _) (.cells #[.int .i64 0, .int .i64 0] 40)).mono HB2.out.size))
    refine (HC3.out _ HA2.out).mono ?_
    rintro r w3 ⟨rfl, hb3⟩
    have HT9 := mkHid ((hb3.block w2.heap.size (by simp)).trans (heap_alloc_new w2 (.cells #[.int .i64 0, .int .i64 0] 40)))
    have HB3 := mkHid (HA2.out.trans (hb3.mono HA2.out.size))
    have HX3 := mkHid ((hb3.block _ (Nat.lt_of_lt_of_le (lt_of HX2.out) (by simp))).trans ((Below.heap_alloc w2 (.cells #[.int .i64 0, .int .i64 0] 40) _ (lt_of HX2.out)).trans HX2.out))
    clear x0 x1 x2 x3 x4 lx hb3
    have x0 := cell_of HX3.out 0 (x := .slice aC d.classes.length cC) rfl
    have x1 := cell_of HX3.out 1 (x := .slice aS d.supers.length cS) rfl
    have x2 := cell_of HX3.out 2 (x := .slice aF d.fields.length cF) rfl
    have x3 := cell_of HX3.out 3 (x := .slice aN d.names.length cN) rfl
    have x4 := cell_of HX3.out 4 (x := .slice aT d.targets.length cT) rfl
    have lx := lt_of HX3.out
    have HA3 := mkHid (HB3.out.trans (((Below.refl w3.heap.size w3).alloc (Nat.le_refl _) (.cells #[.int .i64 0, .int .i64 0] 40)).mono HB3.out.size))
    go_wp2_with fail
    refine (linkBegun_any _).mono ?_
    rintro r w5 ⟨rfl, hb5⟩
    have HB5 := mkHid (HA3.out.trans (hb5.mono HA3.out.size))
    have hv9 := (hb5.block w2.heap.size (Nat.lt_of_lt_of_le (lt_of HT9.out) (by simp))).trans ((Below.heap_alloc w3 (.cells #[.int .i64 0, .int .i64 0] 40) _ (lt_of HT9.out)).trans HT9.out)
    have hv14 := (hb5.block w3.heap.size (by simp)).trans (heap_alloc_new w3 (.cells #[.int .i64 0, .int .i64 0] 40))
    have s0 := cell_of hv9 0 (x := .int .i64 0) rfl
    have s1 := cell_of hv9 1 (x := .int .i64 0) rfl
    have t0 := cell_of hv14 0 (x := .int .i64 0) rfl
    have t1 := cell_of hv14 1 (x := .int .i64 0) rfl
    have l5 := lt_of hv9
    have l6 := lt_of hv14
    clear hb5 hv9 hv14
    clear x0 x1 x2 x3 x4 lx
    have hte := targEql 0 0 0 0
    go_wp2_with fail
    go_ret
    exact ⟨by simp, HW0.out.trans (HB5.out.mono HW0.out.size)⟩
end Go.Proofs.YtkpklkhkhhlifabGreat
