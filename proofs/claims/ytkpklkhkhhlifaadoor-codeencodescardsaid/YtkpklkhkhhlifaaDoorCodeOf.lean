/- The contract of the document's encoder. -/
import Derived.Test.YtkpklkhkhhlifaaDoorEncode
import Derived.Test.YtkpklkhkhhlifaaDoorRef2
import Derived.Deep.RegionWith
namespace Go.Proofs.YtkpklkhkhhlifaaDoor
open Go.RowKit

theorem kOf_one' (o : Nat) (h : o < 37) (hk : kOf o = 1) : o = 1 := by
  have : ∀ o : Fin 37, kOf o.val = 1 → o.val = 1 := by decide
  exact this ⟨o, h⟩ hk
theorem toB_up (n : Int) : toB ((n + 65536) / 256) = toB (n / 256) := by
  unfold toB
  have : (n + 65536) / 256 % 256 = n / 256 % 256 := by omega
  rw [this]
theorem toB_up' (n : Int) : toB (n + 65536) = toB n := by
  unfold toB
  have : (n + 65536) % 256 = n % 256 := by omega
  rw [this]
theorem size_str (bs : List UInt8) : (ByteArray.mk bs.toArray).size = bs.length := by simp [ByteArray.size]

set_option maxRecDepth 100000 in
set_option maxHeartbeats 4000000 in
theorem codeOf_any (w : World) (b off cap : Nat) (l : List Op4) (hh : Has w b off l) (hl : l.length ≤ 4398046511104) :
    Calls Tryd.prog 11 #[.slice (some ⟨b, off, none⟩) l.length cap] w fun r w' => Below w.heap.size w w' ∧ r = .returned (.tuple #[.string ⟨(encRes l).1.toArray⟩, .int .i64 (encRes l).2]) := by
  go_enter Tryd.func11, Tryd.ntmps11
  go_wp2
  go_loopw [4, 5] (fun s i wr => ∃ (k : Nat) (bs : List UInt8), k ≤ l.length ∧ i = .int .i64 k ∧ s = .string ⟨bs.toArray⟩ ∧ bs.length ≤ 3 * k ∧ Hid (encAll (l.drop k) bs = encAll l []) ∧ Below w.heap.size w wr) (fun _ i _ => l.length - (intOf i).toNat)
  case atStart => exact ⟨0, [], Nat.zero_le _, rfl, rfl, by simp, rfl, Below.refl _ _⟩
  case round =>
    obtain ⟨k, bs, hk, rfl, rfl, hbl, HE, hB⟩ := hrel
    have hsz := hB.size
    by_cases hltk : k < l.length
    · have h' := hh.below hB hh.lt
      have c0 := h'.c0 k hltk
      have c1 := h'.c1 k hltk
      have c2 := h'.c2 k hltk
      have c3 := h'.c3 k hltk
      have HNO : Hid (∀ e, EncNo bs (get4 l k) e → encRes l = ([], e)) := fun e he => by
        have := HE.out.symm.trans (encAll_no hltk he)
        simp [encRes, this]
      have HOK : Hid (∀ bs', EncOk bs (get4 l k) bs' → encAll (l.drop (k + 1)) bs' = encAll l []) := fun bs' he => (encAll_ok hltk he).symm.trans HE.out
      have HLEN : Hid (∀ bs', EncOk bs (get4 l k) bs' → bs'.length ≤ bs.length + 3) := fun bs' he => encOk_len he
      generalize get4 l k = x at *
      obtain ⟨loc, op, a, bb⟩ := x
      dsimp only at c0 c1 c2 c3
      clear h' HE
      go_wp2_with fail
      by_cases hop : 0 ≤ op ∧ op < 37
      · obtain ⟨o, ho⟩ := Int.eq_ofNat_of_zero_le hop.1
        subst ho
        have ho37 : o < 37 := by omega
        refine (behindOf_yes _ o ho37).mono ?_
        rintro r w1 ⟨rfl, rfl⟩
        have hkk : kOf o = 0 ∨ kOf o = 1 ∨ kOf o = 2 ∨ kOf o = 3 ∨ kOf o = 4 := by have := kOf_lt o; omega
        clear hop
        rcases hkk with hk0 | hk0 | hk0 | hk0 | hk0
        · have HK := mkHid hk0
          rw [hk0]
          have hop1 : ((o : Int) == 1) = false := by
            rw [beq_eq_false_iff_ne]
            intro e
            have e1 : o = 1 := by omega
            rw [e1] at hk0
            cases hk0
          clear hk0
          simp only [mOf]
          go_wp2_with fail
          refine (byItself_any _ o ho37).mono ?_
          rintro r w1 ⟨rfl, rfl⟩
          rw [HK.out, show ((0 : Nat) == 4) = false from rfl]
          go_wp2_with fail
          refine (byItself_any _ o ho37).mono ?_
          rintro r w1 ⟨rfl, rfl⟩
          rw [HK.out, show ((0 : Nat) == 4) = false from rfl]
          go_wp2_with fail
          refine (goesTo_any _ o ho37).mono ?_
          rintro r w1 ⟨rfl, rfl⟩
          rw [HK.out, show ((0 : Nat) == 2) = false from rfl]
          go_wp2_with fail
          refine (between_any _ _ _ _).mono ?_
          rintro r w1 ⟨rfl, rfl⟩
          by_cases hf1 : 0 ≤ a ∧ a ≤ 0
          · rw [show (decide ((0 : Int) ≤ a) && decide (a ≤ (0 : Int))) = true by simp [hf1]]
            go_wp2_with fail
            refine (between_any _ _ _ _).mono ?_
            rintro r w1 ⟨rfl, rfl⟩
            by_cases hf2 : 0 ≤ bb ∧ bb ≤ 0
            · rw [show (decide ((0 : Int) ≤ bb) && decide (bb ≤ (0 : Int))) = true by simp [hf2]]
              have HFIT : Hid (fitsIn (kOf (Int.toNat (o : Int))) a bb) := by
                show fitsIn (kOf o) a bb
                rw [HK.out]
                refine ⟨?_, ?_, ?_, ?_⟩ <;> first | omega | (simp [lowOf, highOf, secondOf]; done) | (simp [lowOf, highOf, secondOf]; omega)
              have hal := hf1.1
              have hah := hf1.2
              have hbl2 := hf2.1
              have hbh := hf2.2
              clear hf1 hf2
              by_cases hloc : loc = bs.length
              · have hloc' : (loc != (bs.length : Int)) = false := by rw [bne_eq_false_iff_eq]; exact hloc
                have HLOC := mkHid hloc
                clear hloc
                go_wp2_with fail
                refine (countOf_any _ _).mono ?_
                rintro r w2 ⟨rfl, hB2⟩
                have hBX := hB.alloc hsz (.cells #[.int .i64 loc, .int .i64 o, .int .i64 a, .int .i64 bb] 43)
                have hB3 : Below w.heap.size w w2 := hBX.trans (hB2.mono (by have := hBX.size; exact this))
                have y1 : w2.cell? ⟨wr.heap.size, 1, none⟩ = some (.int .i64 o) := (hB2.cell (p := ⟨wr.heap.size, 1, none⟩) (by simp)).trans (by simp)
                have y2 : w2.cell? ⟨wr.heap.size, 2, none⟩ = some (.int .i64 a) := (hB2.cell (p := ⟨wr.heap.size, 2, none⟩) (by simp)).trans (by simp)
                have y3 : w2.cell? ⟨wr.heap.size, 3, none⟩ = some (.int .i64 bb) := (hB2.cell (p := ⟨wr.heap.size, 3, none⟩) (by simp)).trans (by simp)
                clear hBX hB2 hB hsz hloc' c0 c1 c2 c3
                have hsum : ¬ (bs.length + 1 > 9223372036854775807) := by omega
                have hneg : ¬ a < 0 := by omega
                have HBZ := mkHid hB3
                clear hB3
                go_wp2_with fail
                refine (byItself_any _ o ho37).mono ?_
                rintro r w1 ⟨rfl, rfl⟩
                rw [HK.out, show ((0 : Nat) == 4) = false from rfl]
                go_wp2_with fail
                go_roundw
                case rel =>
                  have hen : EncOk bs ⟨loc, o, a, bb⟩ (bs ++ toB o :: []) := ⟨by dsimp only; omega, HFIT.out, HLOC.out, by show _ = bs ++ toB o :: tailOf (kOf o) a bb; rw [HK.out]; simp [tailOf]⟩
                  exact ⟨k + 1, bs ++ toB o :: [], by omega, by go_num, by simp [ByteArray.mk_append_mk], by have := HLEN.out _ hen; omega, HOK.out _ hen, HBZ.out⟩
                case measure => simp [intOf]; omega
              · have hloc' : (loc != (bs.length : Int)) = true := by rw [bne_iff_ne]; exact hloc
                have HLOC := mkHid hloc
                clear hloc
                go_wp2_with fail
                go_ret2
                exact ⟨hB.alloc hsz _, by rw [HNO.out 4 (Or.inr (Or.inr ⟨by dsimp only; omega, HFIT.out, HLOC.out, rfl⟩))]; rfl⟩
            · rw [show (decide ((0 : Int) ≤ bb) && decide (bb ≤ (0 : Int))) = false by simp; omega]
              have HNF : Hid (¬ fitsIn (kOf (Int.toNat (o : Int))) a bb) := by
                show ¬ fitsIn (kOf o) a bb
                rw [HK.out]
                intro hfi
                simp [fitsIn, lowOf, highOf, secondOf] at hfi
                omega
              clear hf1 hf2
              go_wp2_with fail
              go_ret2
              exact ⟨hB.alloc hsz _, by rw [HNO.out 3 (Or.inr (Or.inl ⟨by dsimp only; omega, HNF.out, rfl⟩))]; rfl⟩
          · rw [show (decide ((0 : Int) ≤ a) && decide (a ≤ (0 : Int))) = false by simp; omega]
            have HNF : Hid (¬ fitsIn (kOf (Int.toNat (o : Int))) a bb) := by
              show ¬ fitsIn (kOf o) a bb
              rw [HK.out]
              intro hfi
              simp [fitsIn, lowOf, highOf, secondOf] at hfi
              omega
            clear hf1
            go_wp2_with fail
            go_ret2
            exact ⟨hB.alloc hsz _, by rw [HNO.out 3 (Or.inr (Or.inl ⟨by dsimp only; omega, HNF.out, rfl⟩))]; rfl⟩
        · have HK := mkHid hk0
          rw [hk0]
          have hop1 : ((o : Int) == 1) = true := by
            rw [beq_iff_eq, kOf_one' o ho37 hk0]
            rfl
          clear hk0
          simp only [mOf]
          go_wp2_with fail
          refine (byItself_any _ o ho37).mono ?_
          rintro r w1 ⟨rfl, rfl⟩
          rw [HK.out, show ((1 : Nat) == 4) = false from rfl]
          go_wp2_with fail
          refine (byItself_any _ o ho37).mono ?_
          rintro r w1 ⟨rfl, rfl⟩
          rw [HK.out, show ((1 : Nat) == 4) = false from rfl]
          go_wp2_with fail
          refine (goesTo_any _ o ho37).mono ?_
          rintro r w1 ⟨rfl, rfl⟩
          rw [HK.out, show ((1 : Nat) == 2) = false from rfl]
          go_wp2_with fail
          refine (between_any _ _ _ _).mono ?_
          rintro r w1 ⟨rfl, rfl⟩
          by_cases hf1 : (-32768) ≤ a ∧ a ≤ 32767
          · rw [show (decide (((-32768) : Int) ≤ a) && decide (a ≤ (32767 : Int))) = true by simp [hf1]]
            go_wp2_with fail
            refine (between_any _ _ _ _).mono ?_
            rintro r w1 ⟨rfl, rfl⟩
            by_cases hf2 : 0 ≤ bb ∧ bb ≤ 0
            · rw [show (decide ((0 : Int) ≤ bb) && decide (bb ≤ (0 : Int))) = true by simp [hf2]]
              have HFIT : Hid (fitsIn (kOf (Int.toNat (o : Int))) a bb) := by
                show fitsIn (kOf o) a bb
                rw [HK.out]
                refine ⟨?_, ?_, ?_, ?_⟩ <;> first | omega | (simp [lowOf, highOf, secondOf]; done) | (simp [lowOf, highOf, secondOf]; omega)
              have hal := hf1.1
              have hah := hf1.2
              have hbl2 := hf2.1
              have hbh := hf2.2
              clear hf1 hf2
              by_cases hloc : loc = bs.length
              · have hloc' : (loc != (bs.length : Int)) = false := by rw [bne_eq_false_iff_eq]; exact hloc
                have HLOC := mkHid hloc
                clear hloc
                go_wp2_with fail
                refine (countOf_any _ _).mono ?_
                rintro r w2 ⟨rfl, hB2⟩
                have hBX := hB.alloc hsz (.cells #[.int .i64 loc, .int .i64 o, .int .i64 a, .int .i64 bb] 43)
                have hB3 : Below w.heap.size w w2 := hBX.trans (hB2.mono (by have := hBX.size; exact this))
                have y1 : w2.cell? ⟨wr.heap.size, 1, none⟩ = some (.int .i64 o) := (hB2.cell (p := ⟨wr.heap.size, 1, none⟩) (by simp)).trans (by simp)
                have y2 : w2.cell? ⟨wr.heap.size, 2, none⟩ = some (.int .i64 a) := (hB2.cell (p := ⟨wr.heap.size, 2, none⟩) (by simp)).trans (by simp)
                have y3 : w2.cell? ⟨wr.heap.size, 3, none⟩ = some (.int .i64 bb) := (hB2.cell (p := ⟨wr.heap.size, 3, none⟩) (by simp)).trans (by simp)
                clear hBX hB2 hB hsz hloc' c0 c1 c2 c3
                have hsum : ¬ (bs.length + 1 > 9223372036854775807) := by omega
                by_cases hneg : a < 0
                · go_wp2_with fail
                  refine (byItself_any _ o ho37).mono ?_
                  rintro r w1 ⟨rfl, rfl⟩
                  rw [HK.out, show ((1 : Nat) == 4) = false from rfl]
                  go_wp2_with fail
                  refine (twoOf_any _ _ (by omega) (by omega)).mono ?_
                  rintro r w3 ⟨rfl, hB4⟩
                  have HBZ := mkHid (hB3.trans (hB4.mono hB3.size))
                  clear hB3 hB4
                  have hsum2 : ¬ (bs.length + 1 + 2 > 9223372036854775807) := by omega
                  go_wp2_with fail
                  go_roundw
                  case rel =>
                    have hen : EncOk bs ⟨loc, o, a, bb⟩ (bs ++ toB o :: [toB ((a + 65536) / 256), toB (a + 65536)]) := ⟨by dsimp only; omega, HFIT.out, HLOC.out, by show _ = bs ++ toB o :: tailOf (kOf o) a bb; rw [HK.out]; simp [tailOf, toB_up, toB_up']⟩
                    exact ⟨k + 1, bs ++ toB o :: [toB ((a + 65536) / 256), toB (a + 65536)], by omega, by go_num, by simp [ByteArray.mk_append_mk], by have := HLEN.out _ hen; omega, HOK.out _ hen, HBZ.out⟩
                  case measure => simp [intOf]; omega
                · go_wp2_with fail
                  refine (byItself_any _ o ho37).mono ?_
                  rintro r w1 ⟨rfl, rfl⟩
                  rw [HK.out, show ((1 : Nat) == 4) = false from rfl]
                  go_wp2_with fail
                  refine (twoOf_any _ _ (by omega) (by omega)).mono ?_
                  rintro r w3 ⟨rfl, hB4⟩
                  have HBZ := mkHid (hB3.trans (hB4.mono hB3.size))
                  clear hB3 hB4
                  have hsum2 : ¬ (bs.length + 1 + 2 > 9223372036854775807) := by omega
                  go_wp2_with fail
                  go_roundw
                  case rel =>
                    have hen : EncOk bs ⟨loc, o, a, bb⟩ (bs ++ toB o :: [toB (a / 256), toB a]) := ⟨by dsimp only; omega, HFIT.out, HLOC.out, by show _ = bs ++ toB o :: tailOf (kOf o) a bb; rw [HK.out]; simp [tailOf]⟩
                    exact ⟨k + 1, bs ++ toB o :: [toB (a / 256), toB a], by omega, by go_num, by simp [ByteArray.mk_append_mk], by have := HLEN.out _ hen; omega, HOK.out _ hen, HBZ.out⟩
                  case measure => simp [intOf]; omega
              · have hloc' : (loc != (bs.length : Int)) = true := by rw [bne_iff_ne]; exact hloc
                have HLOC := mkHid hloc
                clear hloc
                go_wp2_with fail
                go_ret2
                exact ⟨hB.alloc hsz _, by rw [HNO.out 4 (Or.inr (Or.inr ⟨by dsimp only; omega, HFIT.out, HLOC.out, rfl⟩))]; rfl⟩
            · rw [show (decide ((0 : Int) ≤ bb) && decide (bb ≤ (0 : Int))) = false by simp; omega]
              have HNF : Hid (¬ fitsIn (kOf (Int.toNat (o : Int))) a bb) := by
                show ¬ fitsIn (kOf o) a bb
                rw [HK.out]
                intro hfi
                simp [fitsIn, lowOf, highOf, secondOf] at hfi
                omega
              clear hf1 hf2
              go_wp2_with fail
              go_ret2
              exact ⟨hB.alloc hsz _, by rw [HNO.out 3 (Or.inr (Or.inl ⟨by dsimp only; omega, HNF.out, rfl⟩))]; rfl⟩
          · rw [show (decide (((-32768) : Int) ≤ a) && decide (a ≤ (32767 : Int))) = false by simp; omega]
            have HNF : Hid (¬ fitsIn (kOf (Int.toNat (o : Int))) a bb) := by
              show ¬ fitsIn (kOf o) a bb
              rw [HK.out]
              intro hfi
              simp [fitsIn, lowOf, highOf, secondOf] at hfi
              omega
            clear hf1
            go_wp2_with fail
            go_ret2
            exact ⟨hB.alloc hsz _, by rw [HNO.out 3 (Or.inr (Or.inl ⟨by dsimp only; omega, HNF.out, rfl⟩))]; rfl⟩
        · have HK := mkHid hk0
          rw [hk0]
          have hop1 : ((o : Int) == 1) = false := by
            rw [beq_eq_false_iff_ne]
            intro e
            have e1 : o = 1 := by omega
            rw [e1] at hk0
            cases hk0
          clear hk0
          simp only [mOf]
          go_wp2_with fail
          refine (byItself_any _ o ho37).mono ?_
          rintro r w1 ⟨rfl, rfl⟩
          rw [HK.out, show ((2 : Nat) == 4) = false from rfl]
          go_wp2_with fail
          refine (byItself_any _ o ho37).mono ?_
          rintro r w1 ⟨rfl, rfl⟩
          rw [HK.out, show ((2 : Nat) == 4) = false from rfl]
          go_wp2_with fail
          refine (goesTo_any _ o ho37).mono ?_
          rintro r w1 ⟨rfl, rfl⟩
          rw [HK.out, show ((2 : Nat) == 2) = true from rfl]
          go_wp2_with fail
          refine (between_any _ _ _ _).mono ?_
          rintro r w1 ⟨rfl, rfl⟩
          by_cases hf1 : 0 ≤ a ∧ a ≤ 65535
          · rw [show (decide ((0 : Int) ≤ a) && decide (a ≤ (65535 : Int))) = true by simp [hf1]]
            go_wp2_with fail
            refine (between_any _ _ _ _).mono ?_
            rintro r w1 ⟨rfl, rfl⟩
            by_cases hf2 : 0 ≤ bb ∧ bb ≤ 0
            · rw [show (decide ((0 : Int) ≤ bb) && decide (bb ≤ (0 : Int))) = true by simp [hf2]]
              have HFIT : Hid (fitsIn (kOf (Int.toNat (o : Int))) a bb) := by
                show fitsIn (kOf o) a bb
                rw [HK.out]
                refine ⟨?_, ?_, ?_, ?_⟩ <;> first | omega | (simp [lowOf, highOf, secondOf]; done) | (simp [lowOf, highOf, secondOf]; omega)
              have hal := hf1.1
              have hah := hf1.2
              have hbl2 := hf2.1
              have hbh := hf2.2
              clear hf1 hf2
              by_cases hloc : loc = bs.length
              · have hloc' : (loc != (bs.length : Int)) = false := by rw [bne_eq_false_iff_eq]; exact hloc
                have HLOC := mkHid hloc
                clear hloc
                go_wp2_with fail
                refine (countOf_any _ _).mono ?_
                rintro r w2 ⟨rfl, hB2⟩
                have hBX := hB.alloc hsz (.cells #[.int .i64 loc, .int .i64 o, .int .i64 a, .int .i64 bb] 43)
                have hB3 : Below w.heap.size w w2 := hBX.trans (hB2.mono (by have := hBX.size; exact this))
                have y1 : w2.cell? ⟨wr.heap.size, 1, none⟩ = some (.int .i64 o) := (hB2.cell (p := ⟨wr.heap.size, 1, none⟩) (by simp)).trans (by simp)
                have y2 : w2.cell? ⟨wr.heap.size, 2, none⟩ = some (.int .i64 a) := (hB2.cell (p := ⟨wr.heap.size, 2, none⟩) (by simp)).trans (by simp)
                have y3 : w2.cell? ⟨wr.heap.size, 3, none⟩ = some (.int .i64 bb) := (hB2.cell (p := ⟨wr.heap.size, 3, none⟩) (by simp)).trans (by simp)
                clear hBX hB2 hB hsz hloc' c0 c1 c2 c3
                have hsum : ¬ (bs.length + 1 > 9223372036854775807) := by omega
                have hneg : ¬ a < 0 := by omega
                go_wp2_with fail
                refine (byItself_any _ o ho37).mono ?_
                rintro r w1 ⟨rfl, rfl⟩
                rw [HK.out, show ((2 : Nat) == 4) = false from rfl]
                go_wp2_with fail
                refine (twoOf_any _ _ (by omega) (by omega)).mono ?_
                rintro r w3 ⟨rfl, hB4⟩
                have HBZ := mkHid (hB3.trans (hB4.mono hB3.size))
                clear hB3 hB4
                have hsum2 : ¬ (bs.length + 1 + 2 > 9223372036854775807) := by omega
                go_wp2_with fail
                go_roundw
                case rel =>
                  have hen : EncOk bs ⟨loc, o, a, bb⟩ (bs ++ toB o :: [toB (a / 256), toB a]) := ⟨by dsimp only; omega, HFIT.out, HLOC.out, by show _ = bs ++ toB o :: tailOf (kOf o) a bb; rw [HK.out]; simp [tailOf]⟩
                  exact ⟨k + 1, bs ++ toB o :: [toB (a / 256), toB a], by omega, by go_num, by simp [ByteArray.mk_append_mk], by have := HLEN.out _ hen; omega, HOK.out _ hen, HBZ.out⟩
                case measure => simp [intOf]; omega
              · have hloc' : (loc != (bs.length : Int)) = true := by rw [bne_iff_ne]; exact hloc
                have HLOC := mkHid hloc
                clear hloc
                go_wp2_with fail
                go_ret2
                exact ⟨hB.alloc hsz _, by rw [HNO.out 4 (Or.inr (Or.inr ⟨by dsimp only; omega, HFIT.out, HLOC.out, rfl⟩))]; rfl⟩
            · rw [show (decide ((0 : Int) ≤ bb) && decide (bb ≤ (0 : Int))) = false by simp; omega]
              have HNF : Hid (¬ fitsIn (kOf (Int.toNat (o : Int))) a bb) := by
                show ¬ fitsIn (kOf o) a bb
                rw [HK.out]
                intro hfi
                simp [fitsIn, lowOf, highOf, secondOf] at hfi
                omega
              clear hf1 hf2
              go_wp2_with fail
              go_ret2
              exact ⟨hB.alloc hsz _, by rw [HNO.out 3 (Or.inr (Or.inl ⟨by dsimp only; omega, HNF.out, rfl⟩))]; rfl⟩
          · rw [show (decide ((0 : Int) ≤ a) && decide (a ≤ (65535 : Int))) = false by simp; omega]
            have HNF : Hid (¬ fitsIn (kOf (Int.toNat (o : Int))) a bb) := by
              show ¬ fitsIn (kOf o) a bb
              rw [HK.out]
              intro hfi
              simp [fitsIn, lowOf, highOf, secondOf] at hfi
              omega
            clear hf1
            go_wp2_with fail
            go_ret2
            exact ⟨hB.alloc hsz _, by rw [HNO.out 3 (Or.inr (Or.inl ⟨by dsimp only; omega, HNF.out, rfl⟩))]; rfl⟩
        · have HK := mkHid hk0
          rw [hk0]
          have hop1 : ((o : Int) == 1) = false := by
            rw [beq_eq_false_iff_ne]
            intro e
            have e1 : o = 1 := by omega
            rw [e1] at hk0
            cases hk0
          clear hk0
          simp only [mOf]
          go_wp2_with fail
          refine (byItself_any _ o ho37).mono ?_
          rintro r w1 ⟨rfl, rfl⟩
          rw [HK.out, show ((3 : Nat) == 4) = false from rfl]
          go_wp2_with fail
          refine (goesTo_any _ o ho37).mono ?_
          rintro r w1 ⟨rfl, rfl⟩
          rw [HK.out, show ((3 : Nat) == 2) = false from rfl]
          go_wp2_with fail
          refine (between_any _ _ _ _).mono ?_
          rintro r w1 ⟨rfl, rfl⟩
          by_cases hf1 : 0 ≤ a ∧ a ≤ 255
          · rw [show (decide ((0 : Int) ≤ a) && decide (a ≤ (255 : Int))) = true by simp [hf1]]
            go_wp2_with fail
            refine (between_any _ _ _ _).mono ?_
            rintro r w1 ⟨rfl, rfl⟩
            by_cases hf2 : 0 ≤ bb ∧ bb ≤ 0
            · rw [show (decide ((0 : Int) ≤ bb) && decide (bb ≤ (0 : Int))) = true by simp [hf2]]
              have HFIT : Hid (fitsIn (kOf (Int.toNat (o : Int))) a bb) := by
                show fitsIn (kOf o) a bb
                rw [HK.out]
                refine ⟨?_, ?_, ?_, ?_⟩ <;> first | omega | (simp [lowOf, highOf, secondOf]; done) | (simp [lowOf, highOf, secondOf]; omega)
              have hal := hf1.1
              have hah := hf1.2
              have hbl2 := hf2.1
              have hbh := hf2.2
              clear hf1 hf2
              by_cases hloc : loc = bs.length
              · have hloc' : (loc != (bs.length : Int)) = false := by rw [bne_eq_false_iff_eq]; exact hloc
                have HLOC := mkHid hloc
                clear hloc
                go_wp2_with fail
                refine (countOf_any _ _).mono ?_
                rintro r w2 ⟨rfl, hB2⟩
                have hBX := hB.alloc hsz (.cells #[.int .i64 loc, .int .i64 o, .int .i64 a, .int .i64 bb] 43)
                have hB3 : Below w.heap.size w w2 := hBX.trans (hB2.mono (by have := hBX.size; exact this))
                have y1 : w2.cell? ⟨wr.heap.size, 1, none⟩ = some (.int .i64 o) := (hB2.cell (p := ⟨wr.heap.size, 1, none⟩) (by simp)).trans (by simp)
                have y2 : w2.cell? ⟨wr.heap.size, 2, none⟩ = some (.int .i64 a) := (hB2.cell (p := ⟨wr.heap.size, 2, none⟩) (by simp)).trans (by simp)
                have y3 : w2.cell? ⟨wr.heap.size, 3, none⟩ = some (.int .i64 bb) := (hB2.cell (p := ⟨wr.heap.size, 3, none⟩) (by simp)).trans (by simp)
                clear hBX hB2 hB hsz hloc' c0 c1 c2 c3
                have hsum : ¬ (bs.length + 1 > 9223372036854775807) := by omega
                have hneg : ¬ a < 0 := by omega
                go_wp2_with fail
                refine (countOf_any _ _).mono ?_
                rintro r w3 ⟨rfl, hB4⟩
                have HBZ := mkHid (hB3.trans (hB4.mono hB3.size))
                clear hB3 hB4
                have hsum2 : ¬ (bs.length + 1 + 1 > 9223372036854775807) := by omega
                go_wp2_with fail
                go_roundw
                case rel =>
                  have hen : EncOk bs ⟨loc, o, a, bb⟩ (bs ++ toB o :: [toB a]) := ⟨by dsimp only; omega, HFIT.out, HLOC.out, by show _ = bs ++ toB o :: tailOf (kOf o) a bb; rw [HK.out]; simp [tailOf]⟩
                  exact ⟨k + 1, bs ++ toB o :: [toB a], by omega, by go_num, by simp [ByteArray.mk_append_mk], by have := HLEN.out _ hen; omega, HOK.out _ hen, HBZ.out⟩
                case measure => simp [intOf]; omega
              · have hloc' : (loc != (bs.length : Int)) = true := by rw [bne_iff_ne]; exact hloc
                have HLOC := mkHid hloc
                clear hloc
                go_wp2_with fail
                go_ret2
                exact ⟨hB.alloc hsz _, by rw [HNO.out 4 (Or.inr (Or.inr ⟨by dsimp only; omega, HFIT.out, HLOC.out, rfl⟩))]; rfl⟩
            · rw [show (decide ((0 : Int) ≤ bb) && decide (bb ≤ (0 : Int))) = false by simp; omega]
              have HNF : Hid (¬ fitsIn (kOf (Int.toNat (o : Int))) a bb) := by
                show ¬ fitsIn (kOf o) a bb
                rw [HK.out]
                intro hfi
                simp [fitsIn, lowOf, highOf, secondOf] at hfi
                omega
              clear hf1 hf2
              go_wp2_with fail
              go_ret2
              exact ⟨hB.alloc hsz _, by rw [HNO.out 3 (Or.inr (Or.inl ⟨by dsimp only; omega, HNF.out, rfl⟩))]; rfl⟩
          · rw [show (decide ((0 : Int) ≤ a) && decide (a ≤ (255 : Int))) = false by simp; omega]
            have HNF : Hid (¬ fitsIn (kOf (Int.toNat (o : Int))) a bb) := by
              show ¬ fitsIn (kOf o) a bb
              rw [HK.out]
              intro hfi
              simp [fitsIn, lowOf, highOf, secondOf] at hfi
              omega
            clear hf1
            go_wp2_with fail
            go_ret2
            exact ⟨hB.alloc hsz _, by rw [HNO.out 3 (Or.inr (Or.inl ⟨by dsimp only; omega, HNF.out, rfl⟩))]; rfl⟩
        · have HK := mkHid hk0
          rw [hk0]
          have hop1 : ((o : Int) == 1) = false := by
            rw [beq_eq_false_iff_ne]
            intro e
            have e1 : o = 1 := by omega
            rw [e1] at hk0
            cases hk0
          clear hk0
          simp only [mOf]
          go_wp2_with fail
          refine (byItself_any _ o ho37).mono ?_
          rintro r w1 ⟨rfl, rfl⟩
          rw [HK.out, show ((4 : Nat) == 4) = true from rfl]
          go_wp2_with fail
          refine (byItself_any _ o ho37).mono ?_
          rintro r w1 ⟨rfl, rfl⟩
          rw [HK.out, show ((4 : Nat) == 4) = true from rfl]
          go_wp2_with fail
          refine (goesTo_any _ o ho37).mono ?_
          rintro r w1 ⟨rfl, rfl⟩
          rw [HK.out, show ((4 : Nat) == 2) = false from rfl]
          go_wp2_with fail
          refine (between_any _ _ _ _).mono ?_
          rintro r w1 ⟨rfl, rfl⟩
          by_cases hf1 : 0 ≤ a ∧ a ≤ 255
          · rw [show (decide ((0 : Int) ≤ a) && decide (a ≤ (255 : Int))) = true by simp [hf1]]
            go_wp2_with fail
            refine (between_any _ _ _ _).mono ?_
            rintro r w1 ⟨rfl, rfl⟩
            by_cases hf2 : 0 ≤ bb ∧ bb ≤ 255
            · rw [show (decide ((0 : Int) ≤ bb) && decide (bb ≤ (255 : Int))) = true by simp [hf2]]
              have HFIT : Hid (fitsIn (kOf (Int.toNat (o : Int))) a bb) := by
                show fitsIn (kOf o) a bb
                rw [HK.out]
                refine ⟨?_, ?_, ?_, ?_⟩ <;> first | omega | (simp [lowOf, highOf, secondOf]; done) | (simp [lowOf, highOf, secondOf]; omega)
              have hal := hf1.1
              have hah := hf1.2
              have hbl2 := hf2.1
              have hbh := hf2.2
              clear hf1 hf2
              by_cases hloc : loc = bs.length
              · have hloc' : (loc != (bs.length : Int)) = false := by rw [bne_eq_false_iff_eq]; exact hloc
                have HLOC := mkHid hloc
                clear hloc
                go_wp2_with fail
                refine (countOf_any _ _).mono ?_
                rintro r w2 ⟨rfl, hB2⟩
                have hBX := hB.alloc hsz (.cells #[.int .i64 loc, .int .i64 o, .int .i64 a, .int .i64 bb] 43)
                have hB3 : Below w.heap.size w w2 := hBX.trans (hB2.mono (by have := hBX.size; exact this))
                have y1 : w2.cell? ⟨wr.heap.size, 1, none⟩ = some (.int .i64 o) := (hB2.cell (p := ⟨wr.heap.size, 1, none⟩) (by simp)).trans (by simp)
                have y2 : w2.cell? ⟨wr.heap.size, 2, none⟩ = some (.int .i64 a) := (hB2.cell (p := ⟨wr.heap.size, 2, none⟩) (by simp)).trans (by simp)
                have y3 : w2.cell? ⟨wr.heap.size, 3, none⟩ = some (.int .i64 bb) := (hB2.cell (p := ⟨wr.heap.size, 3, none⟩) (by simp)).trans (by simp)
                clear hBX hB2 hB hsz hloc' c0 c1 c2 c3
                have hsum : ¬ (bs.length + 1 > 9223372036854775807) := by omega
                have hneg : ¬ a < 0 := by omega
                go_wp2_with fail
                refine (byItself_any _ o ho37).mono ?_
                rintro r w1 ⟨rfl, rfl⟩
                rw [HK.out, show ((4 : Nat) == 4) = true from rfl]
                go_wp2_with fail
                have hlt2 := World.block_lt_of_cell? _ _ y3
                have hsum2 : ¬ (bs.length + 1 + 2 > 9223372036854775807) := by omega
                go_region_with (first
                  | (go_at_call_of 28 a; refine (countOf_any _ _).mono ?_; rintro e w3 ⟨rfl, hB4⟩; have y3' : w3.cell? ⟨wr.heap.size, 3, none⟩ = some (.int .i64 bb) := (hB4.cell (p := ⟨wr.heap.size, 3, none⟩) hlt2).trans y3)
                  | (go_at_call_of 28 bb; refine (countOf_any _ _).mono ?_; rintro e w4 ⟨rfl, hB5⟩))
                all_goals
                  have HBZ := mkHid ((hB3.drew.trans (hB4.mono hB3.size)).trans (hB5.mono (Nat.le_trans hB3.size hB4.size)))
                  clear hB3 hB4 hB5
                  go_wp2_with fail
                  go_roundw
                  case rel =>
                    have hen : EncOk bs ⟨loc, o, a, bb⟩ (bs ++ toB o :: [toB a, toB bb]) := ⟨by dsimp only; omega, HFIT.out, HLOC.out, by show _ = bs ++ toB o :: tailOf (kOf o) a bb; rw [HK.out]; simp [tailOf]⟩
                    exact ⟨k + 1, bs ++ toB o :: [toB a, toB bb], by omega, by go_num, by simp [ByteArray.mk_append_mk], by have := HLEN.out _ hen; omega, HOK.out _ hen, HBZ.out⟩
                  case measure => simp [intOf]; omega
              · have hloc' : (loc != (bs.length : Int)) = true := by rw [bne_iff_ne]; exact hloc
                have HLOC := mkHid hloc
                clear hloc
                go_wp2_with fail
                go_ret2
                exact ⟨hB.alloc hsz _, by rw [HNO.out 4 (Or.inr (Or.inr ⟨by dsimp only; omega, HFIT.out, HLOC.out, rfl⟩))]; rfl⟩
            · rw [show (decide ((0 : Int) ≤ bb) && decide (bb ≤ (255 : Int))) = false by simp; omega]
              have HNF : Hid (¬ fitsIn (kOf (Int.toNat (o : Int))) a bb) := by
                show ¬ fitsIn (kOf o) a bb
                rw [HK.out]
                intro hfi
                simp [fitsIn, lowOf, highOf, secondOf] at hfi
                omega
              clear hf1 hf2
              go_wp2_with fail
              go_ret2
              exact ⟨hB.alloc hsz _, by rw [HNO.out 3 (Or.inr (Or.inl ⟨by dsimp only; omega, HNF.out, rfl⟩))]; rfl⟩
          · rw [show (decide ((0 : Int) ≤ a) && decide (a ≤ (255 : Int))) = false by simp; omega]
            have HNF : Hid (¬ fitsIn (kOf (Int.toNat (o : Int))) a bb) := by
              show ¬ fitsIn (kOf o) a bb
              rw [HK.out]
              intro hfi
              simp [fitsIn, lowOf, highOf, secondOf] at hfi
              omega
            clear hf1
            go_wp2_with fail
            go_ret2
            exact ⟨hB.alloc hsz _, by rw [HNO.out 3 (Or.inr (Or.inl ⟨by dsimp only; omega, HNF.out, rfl⟩))]; rfl⟩
      · refine (behindOf_not _ op (by omega)).mono ?_
        rintro r w1 ⟨rfl, rfl⟩
        have HOP := mkHid hop
        clear hop
        go_wp2_with fail
        go_ret2
        exact ⟨hB.alloc hsz _, by rw [HNO.out 7 (Or.inl ⟨HOP.out, rfl⟩)]; rfl⟩
    · have he := HE.out.symm.trans (encAll_end (l := l) (k := k) hltk)
      by_cases hlong : 200 < bs.length
      · have hlong' : (200 : Int) < bs.length := by omega
        have er : encRes l = ([], 2) := by simp [encRes, he, hlong]
        have HER := mkHid er
        clear er he HE
        go_wp2_with fail
        go_ret2
        exact ⟨hB, by rw [HER.out]; rfl⟩
      · have hlong' : ¬ (200 : Int) < bs.length := by omega
        have er : encRes l = (bs, 0) := by simp [encRes, he, hlong]
        have HER := mkHid er
        clear er he HE
        go_wp2_with fail
        go_ret2
        exact ⟨hB, by rw [HER.out]; rfl⟩

theorem codeOf_nil (w : World) (ao : Option Addr) (cap : Nat) : Calls Tryd.prog 11 #[.slice ao 0 cap] w fun r w' => Below w.heap.size w w' ∧ r = .returned (.tuple #[.string ⟨(encRes []).1.toArray⟩, .int .i64 (encRes []).2]) := by
  go_enter Tryd.func11, Tryd.ntmps11
  go_wp2
  go_loop [4, 5] (fun s i => i = .int .i64 0 ∧ s = .string ⟨#[]⟩) (fun _ _ => 0)
  case atStart => exact ⟨rfl, rfl⟩
  case round =>
    obtain ⟨rfl, rfl⟩ := hrel
    go_wp2
    go_ret2
    exact ⟨Below.refl _ _, rfl⟩
theorem codeOf_all (w : World) (v : Value) (l : List Op4) (hh : Holds4 w v l) (hl : l.length ≤ 4398046511104) :
    Calls Tryd.prog 11 #[v] w fun r w' => Below w.heap.size w w' ∧ r = .returned (.tuple #[.string ⟨(encRes l).1.toArray⟩, .int .i64 (encRes l).2]) := by
  rcases hh with ⟨ao, c, rfl, rfl⟩ | ⟨b, off, c, rfl, _, hh⟩
  · exact codeOf_nil w ao c
  · exact codeOf_any w b off c l hh hl
end Go.Proofs.YtkpklkhkhhlifaaDoor
