/- The contract of the encoder's method that writes one operation. -/
import Derived.Test.YtkpklkhkhhlifabDoorFits
import Derived.Test.YtkpklkhkhhlifabDoorIns
import Derived.Deep.RegionWith
import Derived.Deep.DeepCutAuto
namespace Go.Proofs.YtkpklkhkhhlifabDoor
open Go.RowKit

/-- The bytes of an operation, by what stands behind it. -/
def tailOf (k : Nat) (a b : Int) : List UInt8 :=
  if k = 1 then [toB (a / 256), toB a] else if k = 2 then [toB (a / 256), toB a] else if k = 3 then [toB a] else if k = 4 then [toB a, toB b] else []
/-- What comes of one operation, behind the bytes that there are: an error, or more bytes. -/
def EncNo (bs : List UInt8) (x : Op4) (e : Int) : Prop :=
  (¬ (0 ≤ x.op ∧ x.op < 37) ∧ e = 7) ∨ ((0 ≤ x.op ∧ x.op < 37) ∧ ¬ fitsIn (kOf x.op.toNat) x.a x.b ∧ e = 3) ∨
    ((0 ≤ x.op ∧ x.op < 37) ∧ fitsIn (kOf x.op.toNat) x.a x.b ∧ ¬ x.loc = bs.length ∧ e = 4)
def EncOk (bs : List UInt8) (x : Op4) (bs' : List UInt8) : Prop :=
  (0 ≤ x.op ∧ x.op < 37) ∧ fitsIn (kOf x.op.toNat) x.a x.b ∧ x.loc = bs.length ∧ bs' = bs ++ toB x.op :: tailOf (kOf x.op.toNat) x.a x.b

/-- The state in the middle of the method: the operation in its own block, the tables, the builder. -/
structure Mid2 (w W : World) (q base : Nat) (bs : List UInt8) (x : Op4) (o : Nat) : Prop where
  kb : KB base q w W
  bd : Bd W q base bs
  x1 : W.cell? ⟨w.heap.size, 1, none⟩ = some (.int .i64 o)
  x2 : W.cell? ⟨w.heap.size, 2, none⟩ = some (.int .i64 x.a)
  x3 : W.cell? ⟨w.heap.size, 3, none⟩ = some (.int .i64 x.b)
  ot : Other W w.heap.size
  tb : W.cell? ⟨0, o, none⟩ = some (.int .i64 (kOf o))

theorem Mid2.step {w W W' : World} {q base : Nat} {bs bs' : List UInt8} {x : Op4} {o : Nat} (h : Mid2 w W q base bs x o) (hk : KB base q W W') (hb : Bd W' q base bs') (h0 : 0 < base) (hq : q ≠ 0) (hqw : q < w.heap.size) : Mid2 w W' q base bs' x o := by
  have e := hk.other w.heap.size (by omega) h.ot
  have e0 := hk.block 0 h0 (by omega)
  obtain ⟨c, t, fr, h1, h2⟩ := h.ot
  exact ⟨h.kb.trans hk, hb, (World.cell?_of_block (a := ⟨w.heap.size, 1, none⟩) e).trans h.x1, (World.cell?_of_block (a := ⟨w.heap.size, 2, none⟩) e).trans h.x2, (World.cell?_of_block (a := ⟨w.heap.size, 3, none⟩) e).trans h.x3,
    ⟨c, t, fr, e.trans h1, h2⟩, (World.cell?_of_block (a := ⟨0, o, none⟩) e0).trans h.tb⟩
theorem Mid2.drew {w W : World} {q base : Nat} {bs : List UInt8} {x : Op4} {o : Nat} (h : Mid2 w W q base bs x o) : Mid2 w W.drew q base bs x o :=
  ⟨h.kb.drew, ⟨h.bd.own, h.bd.fz, h.bd.lt, h.bd.le⟩, h.x1, h.x2, h.x3, h.ot, h.tb⟩

set_option maxHeartbeats 1000000 in
theorem encIns_any (w : World) (q base : Nat) (bs : List UInt8) (x : Op4) (hT : Tabs w) (hR : Rooms w) (h : Bd w q base bs) (hl : bs.length ≤ 70368744177660) (hb1 : 1 < q) :
    Calls Tryd.prog 14 #[.pointer (some ⟨q, 0, none⟩), .agg #[.int .i64 x.loc, .int .i64 x.op, .int .i64 x.a, .int .i64 x.b]] w fun r w' => KB base q w w' ∧
      ((∃ e p, EncNo bs x e ∧ r = .panicked [wrongV e p]) ∨ (∃ bs', EncOk bs x bs' ∧ r = .returned (.tuple #[]) ∧ Bd w' q base bs')) := by
  have hlt := h.lt
  have hle := h.le
  have hq : q < w.heap.size := by omega
  have h00 : 0 < w.heap.size := by omega
  have hBa : ∀ o, Below w.heap.size w (w.alloc o) := fun o => (Below.refl _ _).alloc (Nat.le_refl _) o
  by_cases hop : 0 ≤ x.op ∧ x.op < 37
  · obtain ⟨o, ho⟩ := Int.eq_ofNat_of_zero_le hop.1
    have ho37 : o < 37 := by omega
    have HO := mkHid ho
    have hxk : kOf x.op.toNat = kOf o := by rw [ho]; rfl
    have HXK := mkHid hxk
    have hcall := fun W hT hR => fits_any W x o hT hR ho37 ho
    rw [ho] at hcall ⊢
    have HCALL := mkHid hcall
    clear hxk ho hop hcall
    go_enter Tryd.func14, Tryd.ntmps14
    go_wp2_with fail
    refine (len_b _ q base bs (h.below (hBa _))).mono ?_
    rintro r w1 ⟨rfl, rfl⟩
    go_wp2_with fail
    refine (isOp_yes _ _ (by omega) (by omega)).mono ?_
    rintro r w1 ⟨rfl, rfl⟩
    go_wp2_with fail
    refine (demand_ok _ _ _).mono ?_
    rintro r w1 ⟨rfl, rfl⟩
    go_wp2_with fail
    refine (HCALL.out _ (hT.below (hBa _)) (hR.kept ((hBa _).block 1 (by omega)))).mono ?_
    rintro r w2 ⟨hB2, hr⟩
    have hBw : Below w.heap.size w w2 := (hBa _).trans (hB2.mono (by simp))
    have eX : w2.heap[w.heap.size]? = some (.cells #[.int .i64 x.loc, .int .i64 o, .int .i64 x.a, .int .i64 x.b] 32 (0, 0)) := by
      rw [hB2.block w.heap.size (by simp)]
      exact heap_alloc_new w _
    have x0 : w2.cell? ⟨w.heap.size, 0, none⟩ = some (.int .i64 x.loc) := by simp [World.cell?, eX]
    have M : Mid2 w w2 q base bs x o := ⟨KB.below hBw hle, h.below hBw, by simp [World.cell?, eX], by simp [World.cell?, eX], by simp [World.cell?, eX], ⟨_, _, _, eX, by decide⟩, (hBw.cell (p := ⟨0, o, none⟩) h00).trans (hT.behind o ho37)⟩
    clear HCALL eX hB2
    rcases hr with ⟨hfit, rfl⟩ | ⟨hfit, rfl⟩
    · have HFIT := mkHid hfit
      clear hfit
      go_wp2_with fail
      refine (demand_ok _ _ _).mono ?_
      rintro r w3 ⟨rfl, rfl⟩
      by_cases hloc : x.loc = bs.length
      · have hloc' : (x.loc == (bs.length : Int)) = true := beq_iff_eq.2 hloc
        have HLOC := mkHid hloc
        clear hloc
        go_wp2_with fail
        refine (demand_ok _ _ _).mono ?_
        rintro r w4 ⟨rfl, rfl⟩
        clear hloc' x0
        have x1 := M.x1
        have hbd : Bd w4.drew q base bs := ⟨M.bd.own, M.bd.fz, M.bd.lt, M.bd.le⟩
        go_wp2_with fail
        go_cut [] (fun W => Mid2 w W q base (bs ++ [toB o]) x o)
        case first =>
          go_region_with (go_at_call 26; refine (count_b _ q base bs o hbd (by omega)).mono ?_; rintro e w5 ⟨rfl, hk5, hb5⟩)
          all_goals
            go_wp2_with fail
            go_meet
            exact M.drew.step hk5 hb5 (by omega) (by omega) hq
        case rest =>
          clear x1 hbd
          have M2 := hcut
          have y1 := M2.x1
          have y2 := M2.x2
          have y3 := M2.x3
          have y0 := M2.tb
          have hk5 := kOf_lt o
          clear hcut M
          have hbd2 : Bd wc.drew q base (bs ++ [toB o]) := ⟨M2.bd.own, M2.bd.fz, M2.bd.lt, M2.bd.le⟩
          have hkk : kOf o = 0 ∨ kOf o = 1 ∨ kOf o = 2 ∨ kOf o = 3 ∨ kOf o = 4 := by omega
          have fin : ∀ bs', bs' = bs ++ toB o :: tailOf (kOf o) x.a x.b → EncOk bs x bs' := fun bs' e => ⟨by rw [HO.out]; omega, by rw [HXK.out]; exact HFIT.out, HLOC.out, by rw [e, HXK.out, HO.out]⟩
          have FIN := mkHid fin
          clear fin
          rcases hkk with hk | hk | hk | hk | hk
          · have HK := mkHid hk
            rw [hk] at y0
            clear hk
            go_wp2_with fail
            go_end0
            exact ⟨M2.kb, Or.inr ⟨_, FIN.out _ (by rw [HK.out]; rfl), rfl, M2.bd⟩⟩
          · have HK := mkHid hk
            rw [hk] at y0
            clear hk
            go_wp2_with fail
            go_region_with (go_at_call 27; refine (number_b _ q base (bs ++ [toB o]) x.a hbd2 (by simp; omega)).mono ?_; rintro e w5 ⟨rfl, hk5, hb5⟩)
            all_goals
              go_wp2_with fail
              go_end0
              exact ⟨M2.kb.drew.trans hk5, Or.inr ⟨_, FIN.out _ (by rw [HK.out]; simp [tailOf]), rfl, hb5⟩⟩
          · have HK := mkHid hk
            rw [hk] at y0
            clear hk
            go_wp2_with fail
            go_region_with (go_at_call 27; refine (number_b _ q base (bs ++ [toB o]) x.a hbd2 (by simp; omega)).mono ?_; rintro e w5 ⟨rfl, hk5, hb5⟩)
            all_goals
              go_wp2_with fail
              go_end0
              exact ⟨M2.kb.drew.trans hk5, Or.inr ⟨_, FIN.out _ (by rw [HK.out]; simp [tailOf]), rfl, hb5⟩⟩
          · have HK := mkHid hk
            rw [hk] at y0
            clear hk
            go_wp2_with fail
            go_region_with (go_at_call 26; refine (count_b _ q base (bs ++ [toB o]) x.a hbd2 (by simp; omega)).mono ?_; rintro e w5 ⟨rfl, hk5, hb5⟩)
            all_goals
              go_wp2_with fail
              go_end0
              exact ⟨M2.kb.drew.trans hk5, Or.inr ⟨_, FIN.out _ (by rw [HK.out]; simp [tailOf]), rfl, hb5⟩⟩
          · have HK := mkHid hk
            rw [hk] at y0
            clear hk
            go_wp2_with fail
            go_cut [] (fun W => Mid2 w W q base (bs ++ [toB o] ++ [toB x.a]) x o)
            case first =>
              go_region_with (go_at_call 26; refine (count_b _ q base (bs ++ [toB o]) x.a hbd2 (by simp; omega)).mono ?_; rintro e w5 ⟨rfl, hk5, hb5⟩)
              all_goals
                go_wp2_with fail
                go_meet
                exact M2.drew.step hk5 hb5 (by omega) (by omega) hq
            case rest =>
              have M3 := hcut
              have z3 := M3.x3
              clear hcut M2 hbd2 y0 y1 y2 y3
              have hbd3 : Bd wc.drew q base (bs ++ [toB o] ++ [toB x.a]) := ⟨M3.bd.own, M3.bd.fz, M3.bd.lt, M3.bd.le⟩
              go_wp2_with fail
              go_region_with (go_at_call 26; refine (count_b _ q base (bs ++ [toB o] ++ [toB x.a]) x.b hbd3 (by simp; omega)).mono ?_; rintro e w5 ⟨rfl, hk5, hb5⟩)
              all_goals
                go_wp2_with fail
                go_end0
                exact ⟨M3.kb.drew.trans hk5, Or.inr ⟨_, FIN.out _ (by rw [HK.out]; simp [tailOf]), rfl, hb5⟩⟩
      · have hloc' : (x.loc == (bs.length : Int)) = false := beq_eq_false_iff_ne.2 hloc
        have HLOC := mkHid hloc
        clear hloc
        go_wp2_with fail
        refine (demand_no _ _ _).mono ?_
        rintro r w4 ⟨rfl, rfl⟩
        exact ⟨rfl, KB.below hBw hle, Or.inl ⟨4, _, Or.inr (Or.inr ⟨by rw [HO.out]; omega, by rw [HXK.out]; exact HFIT.out, HLOC.out, rfl⟩), rfl⟩⟩
    · have HFIT := mkHid hfit
      clear hfit
      go_wp2_with fail
      refine (demand_no _ _ _).mono ?_
      rintro r w3 ⟨rfl, rfl⟩
      exact ⟨rfl, KB.below hBw hle, Or.inl ⟨3, _, Or.inr (Or.inl ⟨by rw [HO.out]; omega, by rw [HXK.out]; exact HFIT.out, rfl⟩), rfl⟩⟩
  · have HOP := mkHid hop
    have hio : ∀ W : World, Calls Tryd.prog 24 #[.int .i64 x.op] W fun r w' => r = .returned (.bool false) ∧ w' = W := fun W => by
      refine (isOp_any W x.op).mono ?_
      rintro r w' ⟨rfl, rfl⟩
      exact ⟨by simp [hop], rfl⟩
    have HIO := mkHid hio
    clear hop hio
    go_enter Tryd.func14, Tryd.ntmps14
    go_wp2_with fail
    refine (len_b _ q base bs (h.below (hBa _))).mono ?_
    rintro r w1 ⟨rfl, rfl⟩
    go_wp2_with fail
    refine (HIO.out _).mono ?_
    rintro r w1 ⟨rfl, rfl⟩
    go_wp2_with fail
    refine (demand_no _ _ _).mono ?_
    rintro r w1 ⟨rfl, rfl⟩
    exact ⟨rfl, KB.below (hBa _) hle, Or.inl ⟨7, _, Or.inl ⟨HOP.out, rfl⟩, rfl⟩⟩
end Go.Proofs.YtkpklkhkhhlifabDoor
