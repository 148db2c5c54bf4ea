/- The contract of the decoder's method that reads one operation: where it gives up. -/
import Derived.Test.YtfibgdcpbkaaoaaGreatDoorCdIns
import Derived.Test.YtfibgdcpbkaaoaaGreatDoorCdDies
import Derived.Test.YtfibgdcpbkaaoaaGreatDoorCdScan
import Derived.Deep.LoopGhost
import Derived.Test.YtfibgdcpbkaaoaaGreatDoorRows
import Derived.ProofKit
import Derived.OpenShut
import Derived.Lib.LaidTab
import Derived.Stop.LaidErr
namespace Go.Proofs.YtfibgdcpbkaaoaaGreatDoor.Cd
set_option maxRecDepth 100000
open Go.RowKit
set_option maxHeartbeats 1000000 in
theorem ins_kind (w : World) (b : Nat) (s : ByteArray) (p : Nat) (h : Rd w b s p) (hs : s.size ≤ maxLen) (hp : p < s.size) (o : Nat) (ho : ¬ (o : Int) < 37) (hso : Hid (bt s p = o)) :
    Calls Tryz.prog 57 #[.pointer (some ⟨b, 0, none⟩)] w fun r w' => r = .panicked [wrongV 7 p] ∧ w.grownBy w' (some b) := by
  have hs' := hs
  unfold maxLen at hs'
  have hb := h.lt
  have HG := World.grownBy.refl w (some b)
  go_enter Tryz.func57, Tryz.ntmps57
  go_wp2_with fail
  refine (at_any _ b s p ?_).mono ?_
  · exact h.alloc _
  rintro r w' ⟨rfl, rfl⟩
  go_wp2_with fail
  refine (count_ok _ b s p ?_ hs hp).mono ?_
  · exact (h.alloc _).alloc _
  rintro r w' ⟨rfl, q, rfl⟩
  rw [hso.out]
  go_wp2_with fail
  refine wp_region_dies_lit (fun chain w' => chain = [wrongV 7 p] ∧ w.grownBy w' (some b)) (by kernel_rfl) (by kernel_rfl) rfl (by simp only [List.dropLast]; rfl) ?_ ?_
  · rintro chain a' w' hd ⟨rfl, hg⟩
    exact ⟨hd, rfl, hg⟩
  · repeat (go_big_quiet_step ((go_at_call 101; exact Calls.quiet_of_same (isOp_not _ _ (by omega)))))
    refine wpQuiet_nil ?_
    refine ⟨rfl, ?_⟩
    rintro w' ⟨n, rfl⟩
    go_simp
    refine ⟨rfl, (demand_no _ _ _).mono ?_⟩
    rintro e w' ⟨rfl, rfl⟩
    refine ⟨_, rfl, rfl, ?_⟩
    exact grown_drewN (grown_set (grown_drewN (grown_alloc (grown_alloc (grown_set HG _ _ (by simp)) _) _) _) _ _ (by simp)) _
set_option maxHeartbeats 1000000 in
theorem ins_short (w : World) (b : Nat) (s : ByteArray) (p : Nat) (h : Rd w b s p) (hs : s.size ≤ maxLen) (hp : p < s.size) (o k : Nat) (ho : o < 37) (hso : Hid (bt s p = o)) (hk : k < 5)
    (ht : w.cell? ⟨5, o, none⟩ = some (.int .i64 k)) (hr : w.cell? ⟨4, k * 4, none⟩ = some (.int .i64 (mOf k))) (h0b : 5 < b) (hm : ¬ p + 1 + mOf k ≤ s.size) :
    Calls Tryz.prog 57 #[.pointer (some ⟨b, 0, none⟩)] w fun r w' => r = .panicked [wrongV 1 p] ∧ w.grownBy w' (some b) := by
  have hs' := hs
  unfold maxLen at hs'
  have hb := h.lt
  have hpc : ((p : Int) + 1) = ((p + 1 : Nat) : Int) := by omega
  have HP : Hid (((p : Int) + 1) = ((p + 1 : Nat) : Int)) := hpc
  have HM : Hid (¬ p + 1 + mOf k ≤ s.size) := hm
  clear hpc hm
  go_enter Tryz.func57, Tryz.ntmps57
  go_wp2_with fail
  refine (at_any _ b s p ?_).mono ?_
  · exact h.alloc _
  rintro r w' ⟨rfl, rfl⟩
  go_wp2_with fail
  refine (count_ok _ b s p ?_ hs hp).mono ?_
  · exact (h.alloc _).alloc _
  rintro r w' ⟨rfl, q, rfl⟩
  rw [hso.out]
  go_wp2_with fail
  go_cut [] (fun W => Mid w W b s p o)
  case first =>
    go_quiet (first | (go_at_call 101; exact Calls.quiet_of_same (isOp_yes _ _ (by omega) (by omega))) | (go_at_call 47; exact Calls.quiet_of_same (demand_ok _ _ _)))
    go_wp2_with fail
    go_meet
    exact mid_start w b s p o h _ _ HP.out
  case rest =>
    have hw0 : wc.cell? ⟨5, o, none⟩ = some (.int .i64 k) := hcut.grown.cell ht (by simp; omega)
    have hw1 : wc.cell? ⟨4, k * 4, none⟩ = some (.int .i64 (mOf k)) := hcut.grown.cell hr (by simp; omega)
    obtain ⟨HG, g2, x0, x1, x2, x3, xf, r0, r1, r2, r3, rf, z⟩ := hcut
    go_wp2_with fail
    refine wp_region_dies_lit (fun chain w' => chain = [wrongV 1 p] ∧ w.grownBy w' (some b)) (by kernel_rfl) (by kernel_rfl) rfl (by simp only [List.dropLast]; rfl) ?_ ?_
    · rintro chain a' w' hd ⟨rfl, hg⟩
      exact ⟨hd, rfl, hg⟩
    · repeat (go_big_quiet_step ((go_at_call 98; exact Calls.quiet_of (left_any _ b s (p + 1) (g2.drewN _) (by omega) hs))))
      refine wpQuiet_nil ?_
      refine ⟨rfl, ?_⟩
      rintro w' ⟨n, rfl⟩
      go_simp
      refine ⟨rfl, (demand_not _ (by have := HM.out; simp; omega) _ _ _).mono ?_⟩
      rintro e w' ⟨rfl, rfl⟩
      exact ⟨_, rfl, rfl, grown_drewN HG _⟩
end Go.Proofs.YtfibgdcpbkaaoaaGreatDoor.Cd
/- The contract of the generic function that reads all operations. -/
namespace Go.Proofs.YtfibgdcpbkaaoaaGreatDoor.Cd
set_option maxRecDepth 100000
open Go.RowKit
structure Tabs (w : World) : Prop where
  behind : ∀ o, o < 37 → w.cell? ⟨5, o, none⟩ = some (.int .i64 (kOf o))
  bytes : ∀ k, k < 5 → w.cell? ⟨4, k * 4, none⟩ = some (.int .i64 (mOf k))
  two : 5 < w.heap.size
theorem Tabs.drewN {w : World} (h : Tabs w) (n : Nat) : Tabs (w.drewN n) := ⟨h.behind, h.bytes, h.two⟩
theorem Tabs.grown {w w' : World} {b : Nat} (h : Tabs w) (hg : w.grownBy w' (some b)) (hb : 5 < b) : Tabs w' :=
  ⟨fun o ho => hg.cell (h.behind o ho) (by simp; omega), fun k hk => hg.cell (h.bytes k hk) (by simp; omega), Nat.lt_of_lt_of_le h.two hg.size⟩
theorem ins_any (w : World) (b : Nat) (s : ByteArray) (p : Nat) (h : Rd w b s p) (hT : Tabs w) (hs : s.size ≤ maxLen) (hp : p < s.size) (hb : 5 < b) :
    Calls Tryz.prog 57 #[.pointer (some ⟨b, 0, none⟩)] w fun r w' => w.grownBy w' (some b) ∧
      ((37 ≤ bt s p ∧ r = .panicked [wrongV 7 p]) ∨ (¬ 37 ≤ bt s p ∧ s.size < nextAt s p ∧ r = .panicked [wrongV 1 p]) ∨
       (¬ 37 ≤ bt s p ∧ ¬ s.size < nextAt s p ∧ r = .returned (.agg #[.int .i64 (oneAt s p).loc, .int .i64 (oneAt s p).op, .int .i64 (oneAt s p).a, .int .i64 (oneAt s p).b]) ∧ Rd w' b s (nextAt s p))) := by
  by_cases h1 : 37 ≤ bt s p
  · refine (ins_kind w b s p h hs hp (bt s p) (by omega) rfl).mono ?_
    rintro r w' ⟨rfl, hg⟩
    exact ⟨hg, Or.inl ⟨h1, rfl⟩⟩
  · by_cases h2 : s.size < nextAt s p
    · refine (ins_short w b s p h hs hp (bt s p) (kOf (bt s p)) (by omega) rfl (kOf_lt _) (hT.behind _ (by omega)) (hT.bytes _ (kOf_lt _)) hb (by unfold nextAt at h2; omega)).mono ?_
      rintro r w' ⟨rfl, hg⟩
      exact ⟨hg, Or.inr (Or.inl ⟨h1, h2, rfl⟩)⟩
    · refine (ins_ok w b s p h hs hp (bt s p) (kOf (bt s p)) (by omega) rfl (kOf_lt _) (hT.behind _ (by omega)) (hT.bytes _ (kOf_lt _)) hb (by unfold nextAt at h2; omega)).mono ?_
      rintro r w' ⟨rfl, hg, hr⟩
      exact ⟨hg, Or.inr (Or.inr ⟨h1, h2, rfl, hr⟩)⟩
theorem grown_trans {w w1 w2 : World} {b : Nat} (h : w.grownBy w1 (some b)) (k : w1.grownBy w2 (some b)) : w.grownBy w2 (some b) :=
  ⟨k.os.trans h.os, k.tape.trans h.tape, k.output.trans h.output, Nat.le_trans h.size k.size, fun i hi hne => (k.block i (Nat.lt_of_lt_of_le hi h.size) hne).trans (h.block i hi hne)⟩
theorem grown_drewN_left {w w' : World} {b n : Nat} (h : (w.drewN n).grownBy w' (some b)) : w.grownBy w' (some b) := ⟨h.os, h.tape, h.output, h.size, h.block⟩
theorem grown_own {w w1 w2 : World} {b : Nat} {row : Option Nat} (h : w.grownBy w1 (some b)) (k : w1.grownBy w2 row) (hr : ∀ i, row = some i → w.heap.size ≤ i) : w.grownBy w2 (some b) :=
  ⟨k.os.trans h.os, k.tape.trans h.tape, k.output.trans h.output, Nat.le_trans h.size k.size, fun i hi hne => (k.block i (Nat.lt_of_lt_of_le hi h.size) (fun e => by have := hr i e.symm; omega)).trans (h.block i hi hne)⟩
theorem Rd.grown {w w' : World} {b : Nat} {s : ByteArray} {p : Nat} {row : Option Nat} (h : Rd w b s p) (hg : w.grownBy w' row) (hne : some b ≠ row) : Rd w' b s p :=
  ⟨hg.cell h.text hne, hg.cell h.at_ hne, (World.frozen?_of_block (hg.block b h.lt hne)).trans h.fz⟩
theorem own_drewN {w : World} {B e size n : Nat} {v : Value} {xs : List Value} (h : w.ownsRow B e size v n xs) (q : Nat) : (w.drewN q).ownsRow B e size v n xs := h
theorem own_ne {w : World} {B e size n b : Nat} {v : Value} {xs : List Value} (h : w.ownsRow B e size v n xs) (hb : b < B) : v.ownBlock = none ∨ v.ownBlock ≠ some b := by
  right
  intro e
  have := (h.lt b e).1
  omega
theorem Tryz.info42 : (Tryz.prog.info? 55).map (fun i => (i.zero, i.size, i.bytes)) = some (some (.agg #[.int .i64 0, .int .i64 0, .int .i64 0, .int .i64 0]), 4, 32) := by kernel_rfl
set_option maxHeartbeats 400000 in
theorem readAll_any (w : World) (b : Nat) (s : ByteArray) (h : Rd w b s 0) (hT : Tabs w) (hs : s.size ≤ 200) (hb : 5 < b) :
    Calls Tryz.prog 56 #[.pointer (some ⟨b, 0, none⟩), .func (.func 57) #[.pointer (some ⟨b, 0, none⟩)] #[]] w fun r w' => w.grownBy w' (some b) ∧
      ((∃ l v, scan s s.size 0 [] = .ok l ∧ l.length ≤ s.size ∧ r = .returned v ∧ w'.ownsRow w.heap.size 55 4 v l.length (cellsOf l)) ∨ (∃ e p, scan s s.size 0 [] = .error (e, p) ∧ r = .panicked [wrongV e p])) := by
  have hs' : s.size ≤ maxLen := by unfold maxLen; omega
  obtain ⟨i0, hi, hz0, hz1, hz2⟩ := info_parts Tryz.info42
  go_enter Tryz.func56, Tryz.ntmps56
  go_wp2_with fail
  go_loopg [5] s.size (fun g v wr => ∃ (p f : Nat) (acc : List Op4), g = s.size - p ∧ p ≤ s.size ∧ acc.length ≤ p ∧ s.size - p ≤ f ∧ scan s f p acc = scan s s.size 0 [] ∧ wr.ownsRow w.heap.size 55 4 v acc.length (cellsOf acc) ∧ Rd wr b s p ∧ w.grownBy wr (some b))
  case atStart => exact ⟨0, s.size, [], rfl, Nat.zero_le _, Nat.le_refl _, Nat.le_refl _, rfl, World.ownsRow_nil _ _ _ _, h, World.grownBy.refl _ _⟩
  case round =>
    obtain ⟨p, f, acc, hg, hp, hacc, hf, hsc, hown, hrd, hgr⟩ := hrel
    have HG : Hid (gk = s.size - p) := hg
    have HS : Hid (scan s f p acc = scan s s.size 0 []) := hsc
    clear hg hsc
    have hbw := Nat.lt_of_lt_of_le h.lt hgr.size
    by_cases hlt : p < s.size
    · go_wp2_with fail
      refine (left_any _ b s p hrd hp hs').mono ?_
      rintro e w1 ⟨rfl, n1, rfl⟩
      have hpos : (0 : Int) < (s.size : Int) - p := by omega
      go_wp2_with fail
      refine (ins_any _ b s p (hrd.drewN _) ((hT.grown hgr hb).drewN _) hs' hlt hb).mono ?_
      rintro e w2 ⟨hg2, hw2⟩
      rcases hw2 with ⟨h1, rfl⟩ | ⟨h1, h2, rfl⟩ | ⟨h1, h2, rfl, hr2⟩
      · refine ⟨rfl, ?_, Or.inr ⟨_, _, HS.out.symm.trans (scan_kind s f p acc hlt hf h1), rfl⟩⟩
        exact grown_trans hgr (grown_drewN_left hg2)
      · refine ⟨rfl, ?_, Or.inr ⟨_, _, HS.out.symm.trans (scan_short s f p acc hlt hf h1 h2), rfl⟩⟩
        exact grown_trans hgr (grown_drewN_left hg2)
      · obtain ⟨f', hf', hs2⟩ := scan_step s f p acc hlt hf h1 h2
        have HS' : Hid (scan s f' (nextAt s p) (acc ++ [oneAt s p]) = scan s s.size 0 []) := hs2.symm.trans HS.out
        clear hs2 HS
        have hown2 : w2.ownsRow w.heap.size 55 4 u5 acc.length (cellsOf acc) := (own_drewN hown n1).kept hg2 (own_ne hown h.lt)
        have hgr2 := grown_trans hgr (grown_drewN_left hg2)
        clear hown hgr hg2 hrd
        generalize hx : oneAt s p = x at *
        have HX : Hid (oneAt s p = x) := hx
        clear hx
        go_wp2_with (at_builtin; refine wpList_append_own _ rfl _ _ 49 rfl w.heap.size 55 i0 (.agg #[.int .i64 0, .int .i64 0, .int .i64 0, .int .i64 0]) 4 32 Tryz.underlying49 hi hz0 hz1 hz2 rfl (by decide) _ _ _ rfl (hown2.alloc _) ⟨w2.heap.size, 0, none⟩ 1 1 x.cells rfl rfl ?c1 ?c2 ?c3 ?c4 ?c5 ?_)
        case c1 =>
          intro j u hj
          match j, hj with
          | 0, hj => simp [Op4.cells] at hj; subst hj; simp [Addr.add]
          | 1, hj => simp [Op4.cells] at hj; subst hj; simp [Addr.add]
          | 2, hj => simp [Op4.cells] at hj; subst hj; simp [Addr.add]
          | 3, hj => simp [Op4.cells] at hj; subst hj; simp [Addr.add]
          | n + 4, hj => simp [Op4.cells] at hj
        case c2 => intro u hu; simp [Op4.cells] at hu; rcases hu with rfl | rfl | rfl | rfl <;> rfl
        case c3 => unfold maxLen; omega
        case c4 => omega
        case c5 => have := hgr2.size; simp; omega
        intro v' w3 hown3 hg3 _
        have hr3 : Rd w3 b s (nextAt s p) := (hr2.alloc _).grown hg3 (by intro e; have := (hown2.lt b e.symm).1; have := h.lt; omega)
        have hgr3 : w.grownBy w3 (some b) := grown_own (grown_alloc hgr2 _) hg3 (fun i e => (hown2.lt i e).1)
        have HO : Hid (w3.ownsRow w.heap.size 55 4 v' (acc.length + 1) (cellsOf acc ++ x.cells)) := hown3
        have hnx : p < nextAt s p := by unfold nextAt; omega
        clear hown3 hown2 hg3 hgr2 hr2
        go_wp2
        go_roundg (s.size - nextAt s p)
        case measure => have := HG.out; omega
        case rel => exact ⟨nextAt s p, f', acc ++ [x], rfl, by omega, by simp; omega, hf', HX.out ▸ HS'.out, by rw [cellsOf_snoc, List.length_append]; exact HO.out, hr3, hgr3⟩
    · have hpe : p = s.size := by omega
      go_wp2_with fail
      refine (left_any _ b s p hrd hp hs').mono ?_
      rintro e w1 ⟨rfl, n1, rfl⟩
      have hpos : ¬ (0 : Int) < (s.size : Int) - p := by omega
      go_wp2_with fail
      go_ret
      refine ⟨grown_drewN hgr _, Or.inl ⟨acc, u5, HS.out.symm.trans (scan_end s f p acc hlt), by omega, rfl, hown⟩⟩
end Go.Proofs.YtfibgdcpbkaaoaaGreatDoor.Cd
/- What the listed variables give a walk: the tables' cells. -/
namespace Go.Proofs.YtfibgdcpbkaaoaaGreatDoor.Cd
set_option maxRecDepth 100000
open Go.ChangeShapes Go.WideShapes Go.ChangeAt Go.RowKit
theorem own : ownKnob Tryz.prog.godebug = none := by kernel_rfl
theorem gBehind : Tryz.prog.globalNamed "cinder/code.behind" = some 5 := by kernel_rfl
theorem gRooms : Tryz.prog.globalNamed "cinder/code.rooms" = some 4 := by kernel_rfl
theorem tBehind : (Tryz.prog.globals[5]?).map (·.type) = some 155 := by kernel_rfl
theorem tRooms : (Tryz.prog.globals[4]?).map (·.type) = some 154 := by kernel_rfl
theorem cells3 : Tryz.prog.cellsOf 3 = 1 := by kernel_rfl
theorem cells72 : Tryz.prog.cellsOf 155 = 37 := by kernel_rfl
theorem cells76 : Tryz.prog.cellsOf 153 = 4 := by kernel_rfl
def tabZ : List Int := [0, 1, 0, 3, 3, 0, 0, 0, 0, 0, 0, 0, 0, 2, 2, 2, 2, 2, 3, 4, 4, 0, 3, 0, 0, 0, 4, 0, 0, 3, 3, 0, 0, 0, 4, 0, 0]
theorem tabZ_eq (o : Nat) (h : o < 37) : tabZ.getD o 0 = (kOf o : Int) := by
  have : ∀ o : Fin 37, tabZ.getD o.val 0 = (kOf o.val : Int) := by decide
  exact this ⟨o, h⟩
abbrev laidL : List (String × DataW Unit) := [("cinder/code.rooms", Rows.laid_cinder_code_rooms), ("cinder/code.behind", Rows.laid_cinder_code_behind), ("cinder/verify.number", Rows.laid_cinder_verify_number), ("cinder/verify.row", Rows.laid_cinder_verify_row), ("cinder/verify.null", Rows.laid_cinder_verify_null), ("cinder/verify.anything", Rows.laid_cinder_verify_anything), ("cinder/verify.thing", Rows.laid_cinder_verify_thing)]
theorem behind_of {W : World} (h : laidMet Tryz.prog laidL W) : Lib.TabIs Tryz.prog W "cinder/code.behind" .i64 tabZ :=
  Lib.tabIs_of_head gBehind tBehind Tryz.underlying155 Tryz.underlying3 cells3 cells72 h.tail
def rowsZ : List (List Int) := [[0, 0, 0, 0], [2, -32768, 32767, 0], [2, 0, 65535, 0], [1, 0, 255, 0], [2, 0, 255, 255]]
theorem room_cells {H : Type} {enc : TypeId × Value → H} {w : World} {base : Nat} {spare : Nat → Bool} {held : Bool} {fuel : Nat} {cs : List Value} {ps : List MemPlace}
    (h : DataW.trod enc Tryz.prog w base spare held fuel 154 cs = some (Rows.laid_cinder_code_rooms, ps)) (i j : Nat) (hi : i < 5) (hj : j < 4) :
    cs[i * 4 + j]? = some (.int .i64 ((rowsZ.getD i []).getD j 0)) := by
  obtain ⟨xs, m, rfl, hx, hlen, hn, hel⟩ := DataW.trod_array Tryz.underlying154 h
  have h1 := hel i hi
  rw [cells76] at h1
  have hxi : (xs.map (·.1))[i]? = some (.agg ((rowsZ.getD i []).map fun z => .lit (.int .i64 z))) := by
    have e : xs.map (·.1) = rowsZ.map fun r => .agg (r.map fun z => .lit (.int .i64 z)) := by
      have := (Prod.mk.inj hx).1
      exact (DataW.agg.inj this).symm
    rw [e]
    match i, hi with
    | 0, _ => rfl
    | 1, _ => rfl
    | 2, _ => rfl
    | 3, _ => rfl
    | 4, _ => rfl
  rw [List.getElem?_map] at hxi
  cases hxe : xs[i]? with
  | none => rw [hxe] at hxi; cases hxi
  | some x =>
    rw [hxe] at hxi h1
    obtain ⟨ys, m', rfl, hy, hlen2, hn2, hel2⟩ := DataW.trod_struct Tryz.underlying153 h1
    have hx1 : x.1 = .agg ((rowsZ.getD i []).map fun z => .lit (.int .i64 z)) := Option.some.inj hxi
    have ey : ys.map (·.1) = (rowsZ.getD i []).map fun z => .lit (.int .i64 z) := by
      rw [hy] at hx1
      exact DataW.agg.inj hx1
    have hlen3 : (rowsZ.getD i []).length = 4 := by
      match i, hi with
      | 0, _ => rfl
      | 1, _ => rfl
      | 2, _ => rfl
      | 3, _ => rfl
      | 4, _ => rfl
    have hf : DataW.trod enc Tryz.prog w base spare held m' 3 ((((cs.drop (i * 4)).take 4).drop j).take 1) = ys[j]? := by
      match j, hj with
      | 0, _ => have := hel2 0 _ rfl; simpa [cells3] using this
      | 1, _ => have := hel2 1 _ rfl; simpa [cells3] using this
      | 2, _ => have := hel2 2 _ rfl; simpa [cells3] using this
      | 3, _ => have := hel2 3 _ rfl; simpa [cells3] using this
    have eyj : (ys.map (·.1))[j]? = some (.lit (.int .i64 ((rowsZ.getD i []).getD j 0))) := by
      rw [ey]
      generalize rowsZ.getD i [] = r at hlen3
      have hjr : j < r.length := by omega
      simp [hjr]
    rw [List.getElem?_map] at eyj
    cases hye : ys[j]? with
    | none => rw [hye] at eyj; cases eyj
    | some y =>
      rw [hye] at eyj hf
      obtain ⟨z, e1, e2, _⟩ := DataW.trod_int Tryz.underlying3 hf
      have ez : z = (rowsZ.getD i []).getD j 0 := by
        have : y.1 = .lit (.int .i64 ((rowsZ.getD i []).getD j 0)) := Option.some.inj eyj
        rw [e2] at this
        simpa using this
      subst ez
      have := congrArg (fun l => l[0]?) e1
      simp only [List.getElem?_take, List.getElem?_drop] at this
      simpa [show 0 < 1 by omega, show j < 4 by omega] using this
theorem rooms_of {W : World} (h : laidMet Tryz.prog laidL W) (i j : Nat) (hi : i < 5) (hj : j < 4) : W.cell? ⟨4, i * 4 + j, none⟩ = some (.int .i64 ((rowsZ.getD i []).getD j 0)) := by
  obtain ⟨ps, ⟨g0, t0, cs0, f0, p0, q0, hg0, ht0, hv0, hd0, _⟩, _⟩ := h
  obtain rfl := Option.some.inj (gRooms.symm.trans hg0)
  obtain rfl := Option.some.inj (tRooms.symm.trans ht0)
  have := World.var?_cell hg0 hv0 (i * 4 + j)
  rw [this]
  have h2 := room_cells hd0 i j hi hj
  simpa using h2
theorem tabs_of {W : World} (h : laidMetH Tryz.prog laidL W) : Tabs W := by
  have h' : laidMet Tryz.prog laidL W := h
  have hb := behind_of h'
  refine ⟨fun o ho => ?_, fun k hk => ?_, ?_⟩
  · rw [hb.cell gBehind o ho, tabZ_eq o ho]
  · have := rooms_of h' k 0 hk (by omega)
    rw [Nat.add_zero] at this
    rw [this]
    match k, hk with
    | 0, _ => rfl
    | 1, _ => rfl
    | 2, _ => rfl
    | 3, _ => rfl
    | 4, _ => rfl
  · exact World.block_lt_of_cell? W _ (hb.cell gBehind 0 (by decide))
def lay (zs : List Int) : Obj → Obj
  | .cells _ t frozen => .cells (zs.map fun z => Value.int .i64 z).toArray t frozen
  | o => o
def layWorld (w : World) : World := { w with heap := (w.heap.modify 5 (lay tabZ)).modify 4 (lay rowsZ.flatten) }
end Go.Proofs.YtfibgdcpbkaaoaaGreatDoor.Cd
