/- The contract of the document's decoder. -/
import Derived.Test.YtaekpdcnnkmahaaGreatDoorJCdCaughtCdBegun
import Derived.Test.YtaekpdcnnkmahaaGreatDoorCdPlaceRef
import Derived.Test.YtaekpdcnnkmahaaGreatDoorCdRef
import Derived.Test.YtaekpdcnnkmahaaGreatDoorJSpoSpC
namespace Go.Proofs.YtaekpdcnnkmahaaGreatDoor.Cd
set_option maxRecDepth 100000
open Go.RowKit

theorem fault_world2 (w1 : World) (N : Nat) (e p : Int) {x y : Value} (n0 : w1.cell? ⟨N, 0, none⟩ = some x) (n1 : w1.cell? ⟨N, 1, none⟩ = some y) :
    w1.grownBy ((w1.setCell ⟨N, 0, none⟩ (.int .i64 e)).setCell ⟨N, 1, none⟩ (.int .i64 p)) (some N) ∧
    ((w1.setCell ⟨N, 0, none⟩ (.int .i64 e)).setCell ⟨N, 1, none⟩ (.int .i64 p)).cell? ⟨N, 0, none⟩ = some (.int .i64 e) ∧
    ((w1.setCell ⟨N, 0, none⟩ (.int .i64 e)).setCell ⟨N, 1, none⟩ (.int .i64 p)).cell? ⟨N, 1, none⟩ = some (.int .i64 p) := by
  refine ⟨?_, ?_, ?_⟩
  · refine grown_set ?_ _ _ (Or.inl rfl)
    refine grown_set ?_ _ _ (Or.inl rfl)
    exact World.grownBy.refl _ _
  · rw [World.cell?_setCell_other _ _ _ _ (by simp), World.cell?_setCell_same _ _ _ n0]
  · exact World.cell?_setCell_same _ _ _ ((World.cell?_setCell_other _ _ _ _ (by simp)).trans n1)

theorem kOf_one (o : Nat) (h : o < 37) (hk : kOf o = 1) : o = 1 := by
  have : ∀ o : Fin 37, kOf o.val = 1 → o.val = 1 := by decide
  exact this ⟨o, h⟩ hk
theorem mOf_le (k : Nat) : mOf k ≤ 2 := by
  unfold mOf
  split <;> omega

set_option maxRecDepth 100000 in
set_option maxHeartbeats 2000000 in
theorem insOf_any (w : World) (s : ByteArray) (hs : s.size ≤ maxLen) :
    Calls Tryz.prog 8 #[.string s] w fun r w' => Below w.heap.size w w' ∧
      ((∃ l v, full s = .ok l ∧ l.length ≤ 200 ∧ r = .returned (.tuple #[v, .agg #[.int .i64 0, .int .i64 0]]) ∧ w'.ownsRow w.heap.size 47 4 v l.length (cellsOf l)) ∨
       (∃ e p, full s = .error (e, p) ∧ r = .returned (.tuple #[.slice none 0 0, .agg #[.int .i64 e, .int .i64 p]]))) := by
  have hs' := hs
  unfold maxLen at hs'
  by_cases h1 : 200 < s.size
  · have hf : Hid (full s = .error (2, 0)) := by show full s = _; simp [full, h1]
    have h1' : (200 : Int) < s.size := by omega
    go_enter Tryz.func8, Tryz.ntmps8
    go_wp2
    refine bodyPost_ret (v := .tuple #[.slice none 0 0, .agg #[.int .i64 2, .int .i64 0]]) (by simp [results, Tryz.results8, go_sem]) rfl ⟨?_, Or.inr ⟨_, _, hf.out, rfl⟩⟩
    exact (Below.refl _ _).alloc (Nat.le_refl _) _
  · by_cases h2 : s.size = 0
    · have hf : Hid (full s = .error (1, 0)) := by show full s = _; simp [full, h2]
      have h2' : (s.toList == []) = true := by
        rw [beq_iff_eq, ByteArray.toList_eq, ← List.length_eq_zero_iff]
        exact h2
      have h1' : ¬ (200 : Int) < s.size := by omega
      clear h2
      go_enter Tryz.func8, Tryz.ntmps8
      go_wp2
      refine bodyPost_ret (v := .tuple #[.slice none 0 0, .agg #[.int .i64 1, .int .i64 0]]) (by simp [results, Tryz.results8, go_sem]) rfl ⟨?_, Or.inr ⟨_, _, hf.out, rfl⟩⟩
      exact (Below.refl _ _).alloc (Nat.le_refl _) _
    · have HF : Hid (full s = dec s) := by show full s = _; simp only [full, h1, h2, if_false]
      have h2' : (s.toList == []) = false := by
        rw [beq_eq_false_iff_ne, ByteArray.toList_eq]
        intro e
        exact h2 (by have := congrArg List.length e; simpa using this)
      have h1' : ¬ (200 : Int) < s.size := by omega
      obtain ⟨i0, hi, hz0, hz1, hz2⟩ := info_parts Tryz.info42
      clear h2
      go_enter Tryz.func8, Tryz.ntmps8
      go_wp2
      go_loopg [4, 5] s.size (fun g v i wr => ∃ (p f : Nat) (acc : List Op4), g = s.size - p ∧ i = .int .i64 p ∧ p ≤ s.size ∧ acc.length ≤ p ∧ s.size - p ≤ f ∧ Hid (scan s f p acc = scan s s.size 0 []) ∧ wr.ownsRow (w.heap.size + 1) 47 4 v acc.length (cellsOf acc) ∧
        Below (w.heap.size + 1) (w.alloc (.cells #[.int .i64 0, .int .i64 0] 29)) wr)
      case atStart => exact ⟨0, s.size, [], rfl, rfl, Nat.zero_le _, Nat.le_refl _, Nat.le_refl _, rfl, World.ownsRow_nil _ _ _ _, Below.refl _ _⟩
      case round =>
        obtain ⟨p, f, acc, hg, rfl, hp, hacc, hf, HS, hown, hB⟩ := hrel
        have HG := mkHid hg
        clear hg
        have hsz := hB.size
        simp at hsz
        have hltw : w.heap.size < wr.heap.size := by omega
        have hBw : Below w.heap.size w wr := ((Below.refl _ _).alloc (Nat.le_refl _) _).trans (hB.mono (by omega))
        have r0 : wr.cell? ⟨w.heap.size, 0, none⟩ = some (.int .i64 0) := (hB.cell (p := ⟨w.heap.size, 0, none⟩) (by simp)).trans (by simp)
        have r1 : wr.cell? ⟨w.heap.size, 1, none⟩ = some (.int .i64 0) := (hB.cell (p := ⟨w.heap.size, 1, none⟩) (by simp)).trans (by simp)
        have rf : ∀ j, wr.frozen? ⟨w.heap.size, j, none⟩ = false := fun j => (hB.frozen (p := ⟨w.heap.size, j, none⟩) (by simp)).trans (by simp)
        by_cases hlt : p < s.size
        · go_wp2_with fail
          rw [show wrap64 (s[p].toNat : Int) = (bt s p : Int) by rw [byte_w, bt_eq s p hlt]]
          have hbl := bt_lt s p
          by_cases h37 : 37 ≤ bt s p
          · refine (behindOf_not _ _ (Or.inr (by omega))).mono ?_
            rintro r w1 ⟨rfl, rfl⟩
            go_wp2_with fail
            obtain ⟨hg, q0, q1⟩ := fault_world wr w.heap.size 7 p (.cells #[.int .i64 p, .int .i64 (bt s p), .int .i64 0, .int .i64 0] 47) r0 r1
            have hB3 := below_of_grown hBw hg (Nat.le_refl _)
            generalize ((wr.setCell ⟨w.heap.size, 0, none⟩ (.int .i64 7)).setCell ⟨w.heap.size, 1, none⟩ (.int .i64 p)).alloc (.cells #[.int .i64 p, .int .i64 (bt s p), .int .i64 0, .int .i64 0] 47) = W3 at *
            exact bodyPost_ret (v := .tuple #[.slice none 0 0, .agg #[.int .i64 7, .int .i64 p]]) (by simp [results, Tryz.results8, go_sem, q0, q1]) rfl ⟨hB3, Or.inr ⟨7, p, HF.out.trans (dec_err (HS.out.symm.trans (scan_kind s f p acc hlt hf h37))), rfl⟩⟩
          · refine (behindOf_yes _ _ (by omega)).mono ?_
            rintro r w1 ⟨rfl, rfl⟩
            have hm0 : ¬ ((mOf (kOf (bt s p)) : Int) < 0) := by omega
            have hm2 : (mOf (kOf (bt s p)) : Int) ≤ 2 := by have := mOf_le (kOf (bt s p)); omega
            by_cases hsh : s.size < nextAt s p
            · have hsh' : (s.size : Int) < (p : Int) + 1 + mOf (kOf (bt s p)) := by unfold nextAt at hsh; omega
              go_wp2_with fail
              obtain ⟨hg, q0, q1⟩ := fault_world wr w.heap.size 1 p (.cells #[.int .i64 p, .int .i64 (bt s p), .int .i64 0, .int .i64 0] 47) r0 r1
              have hB3 := below_of_grown hBw hg (Nat.le_refl _)
              generalize ((wr.setCell ⟨w.heap.size, 0, none⟩ (.int .i64 1)).setCell ⟨w.heap.size, 1, none⟩ (.int .i64 p)).alloc (.cells #[.int .i64 p, .int .i64 (bt s p), .int .i64 0, .int .i64 0] 47) = W3 at *
              exact bodyPost_ret (v := .tuple #[.slice none 0 0, .agg #[.int .i64 1, .int .i64 p]]) (by simp [results, Tryz.results8, go_sem, q0, q1]) rfl ⟨hB3, Or.inr ⟨1, p, HF.out.trans (dec_err (HS.out.symm.trans (scan_short s f p acc hlt hf h37 hsh))), rfl⟩⟩
            · have hsh' : ¬ (s.size : Int) < (p : Int) + 1 + mOf (kOf (bt s p)) := by unfold nextAt at hsh; omega
              obtain ⟨f', hf', hs2⟩ := scan_step s f p acc hlt hf h37 hsh
              have HS' := mkHid (hs2.symm.trans HS.out)
              have HN : Hid (nextAt s p = p + 1 + mOf (kOf (bt s p))) := rfl
              have hk5 := kOf_lt (bt s p)
              have hown2 := hown.alloc (.cells #[.int .i64 p, .int .i64 (bt s p), .int .i64 0, .int .i64 0] 47)
              clear hs2
              have hkk : kOf (bt s p) = 0 ∨ kOf (bt s p) = 1 ∨ kOf (bt s p) = 2 ∨ kOf (bt s p) = 3 ∨ kOf (bt s p) = 4 := by omega
              rcases hkk with hk | hk | hk | hk | hk
              · have HK := mkHid hk
                rw [hk] at hsh' ⊢
                clear hm0 hm2
                have hop : ((bt s p : Int) == 1) = false := by
                  rw [beq_eq_false_iff_ne]
                  intro e
                  have e1 : bt s p = 1 := by omega
                  rw [e1] at hk
                  cases hk
                clear hk
                simp only [mOf] at hsh' ⊢
                go_wp2_with (at_builtin; refine wpList_append_own _ rfl _ _ 27 rfl (w.heap.size + 1) 47 i0 (.agg #[.int .i64 0, .int .i64 0, .int .i64 0, .int .i64 0]) 4 32 Tryz.underlying27 hi hz0 hz1 hz2 rfl (by decide) _ _ _ rfl ((hown.alloc _).alloc _) ⟨wr.heap.size + 1, 0, none⟩ 1 1 [.int .i64 p, .int .i64 (bt s p), .int .i64 0, .int .i64 0] rfl rfl ?a1a ?a2a ?a3a ?a4a ?a5a ?_)
                case a2a => repeat' (first | rfl | constructor)
                case a3a => unfold maxLen; omega
                case a4a => omega
                case a5a => first | omega | (simp; omega)
                intro v' w3 hown3 hg3 _
                have HB : Hid (Below (w.heap.size + 1) (w.alloc (.cells #[.int .i64 0, .int .i64 0] 29)) w3) := ((hB.alloc (by omega) _).alloc (by simp; omega) _).grown hg3 (by simp; omega) (fun i e => (hown.lt i e).1)
                have HO := mkHid hown3
                clear hown3 hg3 hown
                go_wp2
                go_roundg (s.size - nextAt s p)
                case measure => have := HG.out; have := HN.out; omega
                case rel =>
                  refine ⟨nextAt s p, f', acc ++ [oneAt s p], rfl, ?_, by omega, by have := HN.out; simp; omega, hf', HS'.out, ?_, HB.out⟩
                  · rw [HN.out, HK.out]
                    simp only [mOf]
                    go_num
                  · rw [cellsOf_snoc, List.length_append]
                    have e : (oneAt s p).cells = [.int .i64 p, .int .i64 (bt s p), .int .i64 0, .int .i64 0] := by simp [oneAt, Op4.cells, argA, argB, HK.out]
                    rw [e]
                    exact HO.out
              · have HK := mkHid hk
                rw [hk] at hsh' ⊢
                clear hm0 hm2
                have hop : ((bt s p : Int) == 1) = true := by
                  rw [beq_iff_eq, kOf_one (bt s p) (by omega) hk]
                  rfl
                clear hk
                simp only [mOf] at hsh' ⊢
                have hp1 : p + 1 < s.size := by omega
                have hb1 : (bt s (p + 1) : Int) ≤ 255 := by have := bt_lt s (p + 1); omega
                have hp2 : p + 2 < s.size := by omega
                have hb2 : (bt s (p + 2) : Int) ≤ 255 := by have := bt_lt s (p + 2); omega
                go_wp2_with fail
                rw [show wrap64 (s[p + 1].toNat : Int) = (bt s (p + 1) : Int) by rw [byte_w, bt_eq s (p + 1) hp1], show wrap64 (s[p + 2].toNat : Int) = (bt s (p + 2) : Int) by rw [byte_w, bt_eq s (p + 2) hp2]]
                refine (byItself_any _ _ (by omega)).mono ?_
                rintro r w1 ⟨rfl, rfl⟩
                rw [HK.out, show ((1 : Nat) == 4) = false from rfl]
                by_cases hneg : (32767 : Int) < 256 * bt s (p + 1) + bt s (p + 2)
                · go_wp2_with (at_builtin; refine wpList_append_own _ rfl _ _ 27 rfl (w.heap.size + 1) 47 i0 (.agg #[.int .i64 0, .int .i64 0, .int .i64 0, .int .i64 0]) 4 32 Tryz.underlying27 hi hz0 hz1 hz2 rfl (by decide) _ _ _ rfl ((hown.alloc _).alloc _) ⟨wr.heap.size + 1, 0, none⟩ 1 1 [.int .i64 p, .int .i64 (bt s p), .int .i64 (256 * bt s (p + 1) + bt s (p + 2) - 65536), .int .i64 0] rfl rfl ?b1b ?b2b ?b3b ?b4b ?b5b ?_)
                  case b1b =>
                    intro j u hj
                    match j, hj with
                    | 0, hj => simp at hj; subst hj; simp [Addr.add]
                    | 1, hj => simp at hj; subst hj; simp [Addr.add]
                    | 2, hj => simp at hj; subst hj; simp [Addr.add]
                    | 3, hj => simp at hj; subst hj; simp [Addr.add]
                    | n + 4, hj => simp at hj
                  case b2b => first | (intro u hu; simp at hu; rcases hu with rfl | rfl | rfl | rfl <;> rfl) | repeat' (first | rfl | constructor)
                  case b3b => unfold maxLen; omega
                  case b4b => omega
                  case b5b => first | omega | (simp; omega)
                  intro v' w3 hown3 hg3 _
                  have HB : Hid (Below (w.heap.size + 1) (w.alloc (.cells #[.int .i64 0, .int .i64 0] 29)) w3) := ((hB.alloc (by omega) _).alloc (by simp; omega) _).grown hg3 (by simp; omega) (fun i e => (hown.lt i e).1)
                  have HO := mkHid hown3
                  clear hown3 hg3 hown
                  go_wp2
                  go_roundg (s.size - nextAt s p)
                  case measure => have := HG.out; have := HN.out; omega
                  case rel =>
                    refine ⟨nextAt s p, f', acc ++ [oneAt s p], rfl, ?_, by omega, by have := HN.out; simp; omega, hf', HS'.out, ?_, HB.out⟩
                    · rw [HN.out, HK.out]
                      simp only [mOf]
                      go_num
                    · rw [cellsOf_snoc, List.length_append]
                      have e : (oneAt s p).cells = [.int .i64 p, .int .i64 (bt s p), .int .i64 (256 * bt s (p + 1) + bt s (p + 2) - 65536), .int .i64 0] := by rw [show (oneAt s p).cells = [.int .i64 p, .int .i64 (bt s p), .int .i64 (sg (256 * bt s (p + 1) + bt s (p + 2))), .int .i64 0] by simp [oneAt, Op4.cells, argA, argB, HK.out], show sg (256 * bt s (p + 1) + bt s (p + 2)) = 256 * bt s (p + 1) + bt s (p + 2) - 65536 by unfold sg; rw [if_neg (by omega)]]
                      rw [e]
                      exact HO.out
                · go_wp2_with (at_builtin; refine wpList_append_own _ rfl _ _ 27 rfl (w.heap.size + 1) 47 i0 (.agg #[.int .i64 0, .int .i64 0, .int .i64 0, .int .i64 0]) 4 32 Tryz.underlying27 hi hz0 hz1 hz2 rfl (by decide) _ _ _ rfl ((hown.alloc _).alloc _) ⟨wr.heap.size + 1, 0, none⟩ 1 1 [.int .i64 p, .int .i64 (bt s p), .int .i64 (256 * bt s (p + 1) + bt s (p + 2)), .int .i64 0] rfl rfl ?c1c ?c2c ?c3c ?c4c ?c5c ?_)
                  case c1c =>
                    intro j u hj
                    match j, hj with
                    | 0, hj => simp at hj; subst hj; simp [Addr.add]
                    | 1, hj => simp at hj; subst hj; simp [Addr.add]
                    | 2, hj => simp at hj; subst hj; simp [Addr.add]
                    | 3, hj => simp at hj; subst hj; simp [Addr.add]
                    | n + 4, hj => simp at hj
                  case c2c => first | (intro u hu; simp at hu; rcases hu with rfl | rfl | rfl | rfl <;> rfl) | repeat' (first | rfl | constructor)
                  case c3c => unfold maxLen; omega
                  case c4c => omega
                  case c5c => first | omega | (simp; omega)
                  intro v' w3 hown3 hg3 _
                  have HB : Hid (Below (w.heap.size + 1) (w.alloc (.cells #[.int .i64 0, .int .i64 0] 29)) w3) := ((hB.alloc (by omega) _).alloc (by simp; omega) _).grown hg3 (by simp; omega) (fun i e => (hown.lt i e).1)
                  have HO := mkHid hown3
                  clear hown3 hg3 hown
                  go_wp2
                  go_roundg (s.size - nextAt s p)
                  case measure => have := HG.out; have := HN.out; omega
                  case rel =>
                    refine ⟨nextAt s p, f', acc ++ [oneAt s p], rfl, ?_, by omega, by have := HN.out; simp; omega, hf', HS'.out, ?_, HB.out⟩
                    · rw [HN.out, HK.out]
                      simp only [mOf]
                      go_num
                    · rw [cellsOf_snoc, List.length_append]
                      have e : (oneAt s p).cells = [.int .i64 p, .int .i64 (bt s p), .int .i64 (256 * bt s (p + 1) + bt s (p + 2)), .int .i64 0] := by rw [show (oneAt s p).cells = [.int .i64 p, .int .i64 (bt s p), .int .i64 (sg (256 * bt s (p + 1) + bt s (p + 2))), .int .i64 0] by simp [oneAt, Op4.cells, argA, argB, HK.out], show sg (256 * bt s (p + 1) + bt s (p + 2)) = 256 * bt s (p + 1) + bt s (p + 2) by unfold sg; rw [if_pos (by omega)]]
                      rw [e]
                      exact HO.out
              · have HK := mkHid hk
                rw [hk] at hsh' ⊢
                clear hm0 hm2
                have hop : ((bt s p : Int) == 1) = false := by
                  rw [beq_eq_false_iff_ne]
                  intro e
                  have e1 : bt s p = 1 := by omega
                  rw [e1] at hk
                  cases hk
                clear hk
                simp only [mOf] at hsh' ⊢
                have hp1 : p + 1 < s.size := by omega
                have hb1 : (bt s (p + 1) : Int) ≤ 255 := by have := bt_lt s (p + 1); omega
                have hp2 : p + 2 < s.size := by omega
                have hb2 : (bt s (p + 2) : Int) ≤ 255 := by have := bt_lt s (p + 2); omega
                go_wp2_with fail
                rw [show wrap64 (s[p + 1].toNat : Int) = (bt s (p + 1) : Int) by rw [byte_w, bt_eq s (p + 1) hp1], show wrap64 (s[p + 2].toNat : Int) = (bt s (p + 2) : Int) by rw [byte_w, bt_eq s (p + 2) hp2]]
                refine (byItself_any _ _ (by omega)).mono ?_
                rintro r w1 ⟨rfl, rfl⟩
                rw [HK.out, show ((2 : Nat) == 4) = false from rfl]
                go_wp2_with (at_builtin; refine wpList_append_own _ rfl _ _ 27 rfl (w.heap.size + 1) 47 i0 (.agg #[.int .i64 0, .int .i64 0, .int .i64 0, .int .i64 0]) 4 32 Tryz.underlying27 hi hz0 hz1 hz2 rfl (by decide) _ _ _ rfl ((hown.alloc _).alloc _) ⟨wr.heap.size + 1, 0, none⟩ 1 1 [.int .i64 p, .int .i64 (bt s p), .int .i64 (256 * bt s (p + 1) + bt s (p + 2)), .int .i64 0] rfl rfl ?d1d ?d2d ?d3d ?d4d ?d5d ?_)
                case d1d =>
                  intro j u hj
                  match j, hj with
                  | 0, hj => simp at hj; subst hj; simp [Addr.add]
                  | 1, hj => simp at hj; subst hj; simp [Addr.add]
                  | 2, hj => simp at hj; subst hj; simp [Addr.add]
                  | 3, hj => simp at hj; subst hj; simp [Addr.add]
                  | n + 4, hj => simp at hj
                case d2d => first | (intro u hu; simp at hu; rcases hu with rfl | rfl | rfl | rfl <;> rfl) | repeat' (first | rfl | constructor)
                case d3d => unfold maxLen; omega
                case d4d => omega
                case d5d => first | omega | (simp; omega)
                intro v' w3 hown3 hg3 _
                have HB : Hid (Below (w.heap.size + 1) (w.alloc (.cells #[.int .i64 0, .int .i64 0] 29)) w3) := ((hB.alloc (by omega) _).alloc (by simp; omega) _).grown hg3 (by simp; omega) (fun i e => (hown.lt i e).1)
                have HO := mkHid hown3
                clear hown3 hg3 hown
                go_wp2
                go_roundg (s.size - nextAt s p)
                case measure => have := HG.out; have := HN.out; omega
                case rel =>
                  refine ⟨nextAt s p, f', acc ++ [oneAt s p], rfl, ?_, by omega, by have := HN.out; simp; omega, hf', HS'.out, ?_, HB.out⟩
                  · rw [HN.out, HK.out]
                    simp only [mOf]
                    go_num
                  · rw [cellsOf_snoc, List.length_append]
                    have e : (oneAt s p).cells = [.int .i64 p, .int .i64 (bt s p), .int .i64 (256 * bt s (p + 1) + bt s (p + 2)), .int .i64 0] := by simp [oneAt, Op4.cells, argA, argB, HK.out]
                    rw [e]
                    exact HO.out
              · have HK := mkHid hk
                rw [hk] at hsh' ⊢
                clear hm0 hm2
                have hop : ((bt s p : Int) == 1) = false := by
                  rw [beq_eq_false_iff_ne]
                  intro e
                  have e1 : bt s p = 1 := by omega
                  rw [e1] at hk
                  cases hk
                clear hk
                simp only [mOf] at hsh' ⊢
                have hp1 : p + 1 < s.size := by omega
                have hb1 : (bt s (p + 1) : Int) ≤ 255 := by have := bt_lt s (p + 1); omega
                go_wp2_with (at_builtin; refine wpList_append_own _ rfl _ _ 27 rfl (w.heap.size + 1) 47 i0 (.agg #[.int .i64 0, .int .i64 0, .int .i64 0, .int .i64 0]) 4 32 Tryz.underlying27 hi hz0 hz1 hz2 rfl (by decide) _ _ _ rfl ((hown.alloc _).alloc _) ⟨wr.heap.size + 1, 0, none⟩ 1 1 [.int .i64 p, .int .i64 (bt s p), .int .i64 (bt s (p + 1)), .int .i64 0] rfl rfl ?e1e ?e2e ?e3e ?e4e ?e5e ?_)
                case e1e =>
                  intro j u hj
                  match j, hj with
                  | 0, hj => simp at hj; subst hj; simp [Addr.add]
                  | 1, hj => simp at hj; subst hj; simp [Addr.add]
                  | 2, hj => simp at hj; subst hj; simp [Addr.add]; rw [byte_w, bt_eq s (p + 1) hp1]
                  | 3, hj => simp at hj; subst hj; simp [Addr.add]
                  | n + 4, hj => simp at hj
                case e2e => first | (intro u hu; simp at hu; rcases hu with rfl | rfl | rfl | rfl <;> rfl) | repeat' (first | rfl | constructor)
                case e3e => unfold maxLen; omega
                case e4e => omega
                case e5e => first | omega | (simp; omega)
                intro v' w3 hown3 hg3 _
                have HB : Hid (Below (w.heap.size + 1) (w.alloc (.cells #[.int .i64 0, .int .i64 0] 29)) w3) := ((hB.alloc (by omega) _).alloc (by simp; omega) _).grown hg3 (by simp; omega) (fun i e => (hown.lt i e).1)
                have HO := mkHid hown3
                clear hown3 hg3 hown
                go_wp2
                go_roundg (s.size - nextAt s p)
                case measure => have := HG.out; have := HN.out; omega
                case rel =>
                  refine ⟨nextAt s p, f', acc ++ [oneAt s p], rfl, ?_, by omega, by have := HN.out; simp; omega, hf', HS'.out, ?_, HB.out⟩
                  · rw [HN.out, HK.out]
                    simp only [mOf]
                    go_num
                  · rw [cellsOf_snoc, List.length_append]
                    have e : (oneAt s p).cells = [.int .i64 p, .int .i64 (bt s p), .int .i64 (bt s (p + 1)), .int .i64 0] := by simp [oneAt, Op4.cells, argA, argB, HK.out]
                    rw [e]
                    exact HO.out
              · have HK := mkHid hk
                rw [hk] at hsh' ⊢
                clear hm0 hm2
                have hop : ((bt s p : Int) == 1) = false := by
                  rw [beq_eq_false_iff_ne]
                  intro e
                  have e1 : bt s p = 1 := by omega
                  rw [e1] at hk
                  cases hk
                clear hk
                simp only [mOf] at hsh' ⊢
                have hp1 : p + 1 < s.size := by omega
                have hb1 : (bt s (p + 1) : Int) ≤ 255 := by have := bt_lt s (p + 1); omega
                have hp2 : p + 2 < s.size := by omega
                have hb2 : (bt s (p + 2) : Int) ≤ 255 := by have := bt_lt s (p + 2); omega
                go_wp2_with fail
                rw [show wrap64 (s[p + 1].toNat : Int) = (bt s (p + 1) : Int) by rw [byte_w, bt_eq s (p + 1) hp1], show wrap64 (s[p + 2].toNat : Int) = (bt s (p + 2) : Int) by rw [byte_w, bt_eq s (p + 2) hp2]]
                refine (byItself_any _ _ (by omega)).mono ?_
                rintro r w1 ⟨rfl, rfl⟩
                rw [HK.out, show ((4 : Nat) == 4) = true from rfl]
                go_wp2_with (at_builtin; refine wpList_append_own _ rfl _ _ 27 rfl (w.heap.size + 1) 47 i0 (.agg #[.int .i64 0, .int .i64 0, .int .i64 0, .int .i64 0]) 4 32 Tryz.underlying27 hi hz0 hz1 hz2 rfl (by decide) _ _ _ rfl ((hown.alloc _).alloc _) ⟨wr.heap.size + 1, 0, none⟩ 1 1 [.int .i64 p, .int .i64 (bt s p), .int .i64 (bt s (p + 1)), .int .i64 (bt s (p + 2))] rfl rfl ?f1f ?f2f ?f3f ?f4f ?f5f ?_)
                case f1f =>
                  intro j u hj
                  match j, hj with
                  | 0, hj => simp at hj; subst hj; simp [Addr.add]
                  | 1, hj => simp at hj; subst hj; simp [Addr.add]
                  | 2, hj => simp at hj; subst hj; simp [Addr.add]
                  | 3, hj => simp at hj; subst hj; simp [Addr.add]
                  | n + 4, hj => simp at hj
                case f2f => first | (intro u hu; simp at hu; rcases hu with rfl | rfl | rfl | rfl <;> rfl) | repeat' (first | rfl | constructor)
                case f3f => unfold maxLen; omega
                case f4f => omega
                case f5f => first | omega | (simp; omega)
                intro v' w3 hown3 hg3 _
                have HB : Hid (Below (w.heap.size + 1) (w.alloc (.cells #[.int .i64 0, .int .i64 0] 29)) w3) := ((hB.alloc (by omega) _).alloc (by simp; omega) _).grown hg3 (by simp; omega) (fun i e => (hown.lt i e).1)
                have HO := mkHid hown3
                clear hown3 hg3 hown
                go_wp2
                go_roundg (s.size - nextAt s p)
                case measure => have := HG.out; have := HN.out; omega
                case rel =>
                  refine ⟨nextAt s p, f', acc ++ [oneAt s p], rfl, ?_, by omega, by have := HN.out; simp; omega, hf', HS'.out, ?_, HB.out⟩
                  · rw [HN.out, HK.out]
                    simp only [mOf]
                    go_num
                  · rw [cellsOf_snoc, List.length_append]
                    have e : (oneAt s p).cells = [.int .i64 p, .int .i64 (bt s p), .int .i64 (bt s (p + 1)), .int .i64 (bt s (p + 2))] := by simp [oneAt, Op4.cells, argA, argB, HK.out]
                    rw [e]
                    exact HO.out
        · have hok := scan_okay s _ _ _ _ (fun x hx => by cases hx) (HS.out.symm.trans (scan_end s f p acc hlt))
          have HA := mkHid (HS.out.symm.trans (scan_end s f p acc hlt))
          clear HS
          have hh := own_holds hown
          rcases hh with ⟨ao, cap, rfl, rfl⟩ | ⟨b, off, cap, rfl, hc, hh⟩
          · go_wp2_with fail
            go_loop [8] (fun i => i = .int .i64 0) (fun _ => 0)
            case atStart => rfl
            case round =>
              obtain rfl := hrel
              go_wp2_with fail
              obtain ⟨hg, q0, q1⟩ := fault_world2 wr w.heap.size 0 0 r0 r1
              have hB3 := below_of_grown hBw hg (Nat.le_refl _)
              have ho3 := own_lower (World.ownsRow.kept hown hg (own_ne hown (by omega))) (show w.heap.size ≤ w.heap.size + 1 by omega)
              generalize (wr.setCell ⟨w.heap.size, 0, none⟩ (.int .i64 0)).setCell ⟨w.heap.size, 1, none⟩ (.int .i64 0) = W3 at *
              exact bodyPost_ret (v := .tuple #[_, .agg #[.int .i64 0, .int .i64 0]]) (by simp [results, Tryz.results8, go_sem, q0, q1]) rfl ⟨hB3, Or.inl ⟨[], HF.out.trans (dec_ok HA.out rfl), by simp, _, rfl, ho3⟩⟩
          · go_wp2_with fail
            go_loop [8] (fun i => ∃ k : Nat, k ≤ acc.length ∧ i = .int .i64 k ∧ Hid (firstBad acc (acc.drop k) = firstBad acc acc)) (fun i => acc.length - (intOf i).toNat)
            case atStart => exact ⟨0, Nat.zero_le _, rfl, rfl⟩
            case round =>
              obtain ⟨k, hk, rfl, HP⟩ := hrel
              by_cases hltk : k < acc.length
              · have c0 := hh.c0 k hltk
                have c1 := hh.c1 k hltk
                have c2 := hh.c2 k hltk
                obtain ⟨o, ho, hxo⟩ := hok _ (get4_mem acc k hltk)
                rw [hxo] at c1
                have HXO := mkHid hxo
                clear hxo
                go_wp2_with fail
                refine (goesTo_any _ o ho).mono ?_
                rintro r w1 ⟨rfl, rfl⟩
                by_cases hk2 : kOf o = 2
                · have HK2 := mkHid hk2
                  rw [hk2, show ((2 : Nat) == 2) = true from rfl]
                  clear hk2
                  go_wp2_with fail
                  refine (placeOf_any _ b off cap acc (get4 acc k).a hh (by omega) hc).mono ?_
                  rintro r w1 ⟨rfl, rfl⟩
                  cases hpl : place acc (get4 acc k).a 0 with
                  | none =>
                    have HPL := mkHid hpl
                    rw [placeM_none hpl]
                    clear hpl
                    go_wp2_with fail
                    go_region
                    all_goals
                      go_wp2
                      obtain ⟨hg, q0, q1⟩ := fault_world2 w1 w.heap.size 3 (get4 acc k).loc r0 r1
                      have hB3 := below_of_grown hBw hg (Nat.le_refl _)
                      generalize (w1.setCell ⟨w.heap.size, 0, none⟩ (.int .i64 3)).setCell ⟨w.heap.size, 1, none⟩ (.int .i64 (get4 acc k).loc) = W3 at *
                      exact bodyPost_ret (v := .tuple #[.slice none 0 0, .agg #[.int .i64 3, .int .i64 (get4 acc k).loc]]) (by simp [results, Tryz.results8, go_sem, q0, q1]) rfl ⟨hB3.drew, Or.inr ⟨3, _, HF.out.trans (dec_bad HA.out (HP.out.symm.trans (firstBad_hit acc k hltk (by rw [bad, HXO.out]; simp [HK2.out, HPL.out])))), rfl⟩⟩
                  | some q =>
                    have HPL := mkHid hpl
                    rw [placeM_some hpl]
                    clear hpl
                    have hq0 : ¬ ((q : Int) < 0) := by omega
                    go_wp2_with fail
                    go_round
                    case rel => exact ⟨k + 1, by omega, by go_num, (firstBad_miss acc k hltk (by simp [bad, HPL.out])).symm.trans HP.out⟩
                    case measure => simp [intOf]; omega
                · have HK2 := mkHid hk2
                  rw [show (kOf o == 2) = false from beq_eq_false_iff_ne.2 hk2]
                  clear hk2
                  go_wp2_with fail
                  go_round
                  case rel => exact ⟨k + 1, by omega, by go_num, (firstBad_miss acc k hltk (by rw [bad, HXO.out]; simp [HK2.out])).symm.trans HP.out⟩
                  case measure => simp [intOf]; omega
              · go_wp2_with fail
                obtain ⟨hg, q0, q1⟩ := fault_world2 wr w.heap.size 0 0 r0 r1
                have hB3 := below_of_grown hBw hg (Nat.le_refl _)
                have ho3 := own_lower (World.ownsRow.kept hown hg (own_ne hown (by omega))) (show w.heap.size ≤ w.heap.size + 1 by omega)
                generalize (wr.setCell ⟨w.heap.size, 0, none⟩ (.int .i64 0)).setCell ⟨w.heap.size, 1, none⟩ (.int .i64 0) = W3 at *
                exact bodyPost_ret (v := .tuple #[_, .agg #[.int .i64 0, .int .i64 0]]) (by simp [results, Tryz.results8, go_sem, q0, q1]) rfl ⟨hB3, Or.inl ⟨acc, HF.out.trans (dec_ok HA.out (HP.out.symm.trans (firstBad_end acc k hltk))), by omega, _, rfl, ho3⟩⟩
end Go.Proofs.YtaekpdcnnkmahaaGreatDoor.Cd
/- What decodes a text, and what the document says of it: the same answer, whichever world it is asked in. -/
namespace Go.Proofs.YtaekpdcnnkmahaaGreatDoor.Cd
open Go.RowKit

/-- Operations in a row that may be written to. -/
def YSh (B : Nat) (w : World) (v : Value) (n : Nat) : Prop := ∃ ao cap, v = .slice ao n cap ∧ ∀ k, k < n → ∃ b off, ao = some ⟨b, off, none⟩ ∧ NF B w b ∧ ∃ m, w.cell? ⟨b, off + k * 4 + 1, none⟩ = some (.int .i64 m)
theorem YSh.nil (B : Nat) (w : World) : YSh B w (.slice none 0 0) 0 := ⟨none, 0, rfl, fun k hk => by cases hk⟩
theorem ysh_own {B : Nat} {w : World} {v : Value} {e : Nat} {l : List Op4} (h : w.ownsRow B e 4 v l.length (cellsOf l)) : YSh B w v l.length := by
  rcases h.2 with ⟨rfl, h0⟩ | ⟨g, cap, cur, rfl, hB, hg, hc, _, hn, hx⟩
  · exact ⟨none, 0, by rw [h0], fun k hk => by omega⟩
  · refine ⟨some ⟨g, 0, none⟩, cap, rfl, fun k hk => ⟨g, 0, rfl, ⟨hB, cur, e, hg⟩, ?_⟩⟩
    exact ⟨(get4 l k).op, by rw [Nat.zero_add, h.cellAt (k * 4 + 1) (by omega), cellsOf_get l k hk 1 (by omega)]; rfl⟩
theorem YSh.kept {B : Nat} {w w' : World} {v : Value} {n : Nat} (h : YSh B w v n) (hb : ∀ k, NF B w k → w'.heap[k]? = w.heap[k]?) : YSh B w' v n := by
  obtain ⟨ao, cap, rfl, h⟩ := h
  refine ⟨ao, cap, rfl, fun k hk => ?_⟩
  obtain ⟨b, off, e, h1, m, h2⟩ := h k hk
  exact ⟨b, off, e, h1.kept (hb b h1), m, (World.cell?_of_block (a := ⟨b, _, none⟩) (hb b h1)).trans h2⟩
theorem YSh.spo {B : Nat} {w : World} {ao : Option Addr} {n cap : Nat} (h : YSh B w (.slice ao n cap) n) {k : Nat} (hk : k < n) :
    ∃ b off, ao = some ⟨b, off, none⟩ ∧ ∀ W, Spo B w W → NF B W b ∧ ∃ m, W.cell? ⟨b, off + k * 4 + 1, none⟩ = some (.int .i64 m) := by
  obtain ⟨ao', cap', e, h⟩ := h
  cases e
  obtain ⟨b, off, e, h1, m, h2⟩ := h k hk
  exact ⟨b, off, e, fun W hp => ⟨hp.nf _ h1, hp.int h2⟩⟩
theorem ins_one (s : ByteArray) (hs : s.size ≤ maxLen) : ∃ (e p : Int) (l : List Op4), l.length ≤ 200 ∧
    (∀ W, Tabs W → Calls Tryz.prog 13 #[.string s] W fun r w' => Below W.heap.size W w' ∧ ∃ v, r = .returned (.tuple #[v, .agg #[.int .i64 e, .int .i64 p]]) ∧ Holds4 w' v l ∧ YSh W.heap.size w' v l.length) ∧
    (∀ W, Calls Tryz.prog 8 #[.string s] W fun r w' => Below W.heap.size W w' ∧ ∃ v, r = .returned (.tuple #[v, .agg #[.int .i64 e, .int .i64 p]]) ∧ Holds4 w' v l) := by
  cases hf : full s with
  | ok l =>
    refine ⟨0, 0, if l.length ≤ 200 then l else [], by split <;> simp_all, fun W hT => (Decode_any W s hT hs).mono fun r w' ⟨hb, hr⟩ => ?_, fun W => (insOf_any W s hs).mono fun r w' ⟨hb, hr⟩ => ?_⟩
    · rcases hr with ⟨l', v, h1, h2, h3, h4⟩ | ⟨e, p, h1, -⟩
      · cases hf.symm.trans h1
        rw [if_pos h2]
        exact ⟨hb, v, h3, own_holds h4, ysh_own h4⟩
      · cases hf.symm.trans h1
    · rcases hr with ⟨l', v, h1, h2, h3, h4⟩ | ⟨e, p, h1, -⟩
      · cases hf.symm.trans h1
        rw [if_pos h2]
        exact ⟨hb, v, h3, own_holds h4⟩
      · cases hf.symm.trans h1
  | error x =>
    obtain ⟨e, p⟩ := x
    refine ⟨e, p, [], by simp, fun W hT => (Decode_any W s hT hs).mono fun r w' ⟨hb, hr⟩ => ?_, fun W => (insOf_any W s hs).mono fun r w' ⟨hb, hr⟩ => ?_⟩
    · rcases hr with ⟨l', v, h1, -⟩ | ⟨e', p', h1, h2⟩
      · cases hf.symm.trans h1
      · cases hf.symm.trans h1
        exact ⟨hb, _, h2, Or.inl ⟨none, 0, rfl, rfl⟩, YSh.nil _ _⟩
    · rcases hr with ⟨l', v, h1, -⟩ | ⟨e', p', h1, h2⟩
      · cases hf.symm.trans h1
      · cases hf.symm.trans h1
        exact ⟨hb, _, h2, Or.inl ⟨none, 0, rfl, rfl⟩⟩
end Go.Proofs.YtaekpdcnnkmahaaGreatDoor.Cd
