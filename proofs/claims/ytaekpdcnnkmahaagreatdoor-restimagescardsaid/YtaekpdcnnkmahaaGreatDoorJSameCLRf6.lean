/- The contract of SameClasses, where both lists are the same. -/
import Derived.Test.YtaekpdcnnkmahaaGreatDoorJCatchLAsk
import Derived.Test.YtaekpdcnnkmahaaGreatDoorSame
import Derived.Deep.RegionWith
import Derived.Deep.DeepCutAuto
import Derived.Test.YtaekpdcnnkmahaaGreatDoorJLRf4LCkD
import Derived.Test.YtaekpdcnnkmahaaGreatDoorJLMkLLv
namespace Go.Proofs.YtaekpdcnnkmahaaGreatDoor
open Go.RowKit

theorem below_drewN {B : Nat} {w w' : World} (h : Below B w w') (n : Nat) : Below B w (w'.drewN n) := ⟨h.os, h.tape, h.output, h.size, h.block⟩

/-- Two variables side by side, each in a block of its own. -/
structure Pair (wr W : World) (px py : Value) (t : Nat) (cx cy : Array Value) : Prop where
  at_ : ∃ X Y, px = .pointer (some ⟨X, 0, none⟩) ∧ py = .pointer (some ⟨Y, 0, none⟩) ∧ wr.heap.size ≤ X ∧ wr.heap.size ≤ Y ∧ W.heap[X]? = some (.cells cx t (0, 0)) ∧ W.heap[Y]? = some (.cells cy t (0, 0))
  below : Below wr.heap.size wr W

theorem Pair.one (wr : World) (t : Nat) (cx cy : Array Value) : Pair wr ((wr.alloc (.cells cx t)).alloc (.cells cy t)).drew (.pointer (some ⟨wr.heap.size, 0, none⟩)) (.pointer (some ⟨wr.heap.size + 1, 0, none⟩)) t cx cy := by
  refine ⟨⟨_, _, rfl, rfl, Nat.le_refl _, by omega, ?_, ?_⟩, (((Below.refl _ _).alloc (Nat.le_refl _) _).alloc (by simp) _).drew⟩
  · show ((wr.heap.push _).push _)[wr.heap.size]? = _
    rw [Array.getElem?_push, if_neg (by simp)]
    exact Array.getElem?_push_size
  · show ((wr.heap.push _).push _)[wr.heap.size + 1]? = _
    rw [Array.getElem?_push, if_pos (by simp)]
theorem Pair.two (wr : World) (t : Nat) (cx cy : Array Value) : Pair wr ((wr.alloc (.cells cy t)).alloc (.cells cx t)).drew (.pointer (some ⟨wr.heap.size + 1, 0, none⟩)) (.pointer (some ⟨wr.heap.size, 0, none⟩)) t cx cy := by
  obtain ⟨⟨X, Y, h1, h2, h3, h4, h5, h6⟩, h7⟩ := Pair.one wr t cy cx
  exact ⟨⟨Y, X, h2, h1, h4, h3, h6, h5⟩, h7⟩
theorem blk_lt {W : World} {X : Nat} {o : Obj} (h : W.heap[X]? = some o) : X < W.heap.size := (Array.getElem?_eq_some_iff.1 h).1
theorem SL.upF {B : Nat} {w w' : World} {v : Value} {l : List FieldD} (h : SL 3 RF (· < B) w v l) (hb : Below B w w') (hB : B ≤ w.heap.size) : SL 3 RF (· < w'.heap.size) w' v l := (h.keptF (Kp.below hb)).monoF fun _ hk => Nat.lt_of_lt_of_le hk (Nat.le_trans hB hb.size)
theorem SL.upK {B : Nat} {w w' : World} {v : Value} {l : List KindD} (h : SL 2 RK (· < B) w v l) (hb : Below B w w') (hB : B ≤ w.heap.size) : SL 2 RK (· < w'.heap.size) w' v l := (h.keptK (Kp.below hb)).monoK fun _ hk => Nat.lt_of_lt_of_le hk (Nat.le_trans hB hb.size)

set_option maxRecDepth 100000 in
set_option maxHeartbeats 20000000 in
theorem sameClasses_any (w : World) (u v : Value) (l : List ClassD) (hu : SL 4 RC (· < w.heap.size) w u l) (hv : SL 4 RC (· < w.heap.size) w v l) :
    Calls Tryz.prog 15 #[u, v] w fun r w' => r = .returned (.bool true) ∧ Below w.heap.size w w' := by
  have HU := mkHid hu
  have HV := mkHid hv
  obtain ⟨au, cu, rfl, _, hl, -⟩ := hu
  obtain ⟨av, cv, rfl, -⟩ := hv
  unfold maxLen at hl
  go_enter Tryz.func15, Tryz.ntmps15
  go_wp2
  go_loopw [5] (fun i wr => ∃ k : Nat, k ≤ l.length ∧ i = .int .i64 k ∧ Below w.heap.size w wr) (fun i _ => l.length - (intOf i).toNat)
  case atStart => exact ⟨0, Nat.zero_le _, rfl, Below.refl _ _⟩
  case round =>
    obtain ⟨k, hk, rfl, hBr⟩ := hrel
    have hszr := hBr.size
    by_cases hlt : k < l.length
    rotate_left
    · go_wp2_with fail
      go_ret
      exact ⟨rfl, hBr⟩
    obtain ⟨b, off, vf, vm, rfl, hbl, e0, e1, e2, e3, ef, em, -⟩ := (HU.out.keptC (Kp.below hBr)).atC k hlt
    obtain ⟨b', off', vf', vm', rfl, hbl', d0, d1, d2, d3, ef', em', -⟩ := (HV.out.keptC (Kp.below hBr)).atC k hlt
    have EF := mkHid ef
    have EM := mkHid em
    have EF' := mkHid ef'
    have EM' := mkHid em'
    obtain ⟨fo, cf, rfl, -⟩ := ef
    obtain ⟨mo, cm, rfl, _, hlm, -⟩ := em
    obtain ⟨fo', cf', rfl, -⟩ := ef'
    obtain ⟨mo', cm', rfl, -⟩ := em'
    unfold maxLen at hlm
    generalize l[k] = c at *
    obtain ⟨name, super, fields, meths⟩ := c
    dsimp only at *
    have HB0 : Hid (Below wr.heap.size wr wr) := Below.refl _ _
    go_wp2_with fail
    go_cut [6, 7] (fun px py W => Pair wr W px py 61 #[.string name, .string super, .slice fo fields.length cf, .slice mo meths.length cm] #[.string name, .string super, .slice fo' fields.length cf', .slice mo' meths.length cm'])
    case first =>
      go_region
      all_goals
        go_wp2_with fail
        go_meet
        first | exact Pair.one _ _ _ _ | exact Pair.two _ _ _ _
    case rest =>
      obtain ⟨⟨X, Y, rfl, rfl, hX, hY, hx, hy⟩, hBp⟩ := hcut
      have HXX := mkHid hx
      have HYY := mkHid hy
      have xl := blk_lt hx
      have yl := blk_lt hy
      have x0 := cell_of hx 0 (x := .string name) rfl
      have x1 := cell_of hx 1 (x := .string super) rfl
      have x2 := cell_of hx 2 (x := .slice fo fields.length cf) rfl
      have x3 := cell_of hx 3 (x := .slice mo meths.length cm) rfl
      have y0 := cell_of hy 0 (x := .string name) rfl
      have y1 := cell_of hy 1 (x := .string super) rfl
      have y2 := cell_of hy 2 (x := .slice fo' fields.length cf') rfl
      have y3 := cell_of hy 3 (x := .slice mo' meths.length cm') rfl
      clear hx hy e0 e1 e2 e3 d0 d1 d2 d3
      go_wp2_with fail
      refine (sameFields_any _ _ _ fields (EF.out.upF (hBp.mono hszr) hszr) (EF'.out.upF (hBp.mono hszr) hszr)).mono ?_
      rintro r w2 ⟨rfl, n2, rfl⟩
      go_wp2_with fail
      go_loopw [8] (fun i wi => ∃ j : Nat, j ≤ meths.length ∧ i = .int .i64 j ∧ Below wr.heap.size wr wi ∧ Hid (wi.heap[X]? = some (.cells #[.string name, .string super, .slice fo fields.length cf, .slice mo meths.length cm] 61 (0, 0))) ∧ Hid (wi.heap[Y]? = some (.cells #[.string name, .string super, .slice fo' fields.length cf', .slice mo' meths.length cm'] 61 (0, 0)))) (fun i _ => meths.length - (intOf i).toNat)
      case atStart => exact ⟨0, Nat.zero_le _, rfl, below_drewN hBp _, HXX.out, HYY.out⟩
      case round =>
        rename World => wi
        obtain ⟨j, hj, rfl, hBi, HX2, HY2⟩ := hrel
        have hszi := hBi.size
        clear x0 x1 x2 x3 y0 y1 y2 y3 xl yl hBp HXX HYY
        have xl := blk_lt HX2.out
        have yl := blk_lt HY2.out
        have x3 := cell_of HX2.out 3 (x := .slice mo meths.length cm) rfl
        have y3 := cell_of HY2.out 3 (x := .slice mo' meths.length cm') rfl
        by_cases hltj : j < meths.length
        rotate_left
        · go_wp2_with fail
          go_roundw
          case rel => exact ⟨k + 1, by omega, by go_num, hBr.trans (hBi.mono hszr)⟩
          case measure => simp [intOf]; omega
        obtain ⟨b2, off2, va, vh, rfl, hbl2, q0, q1, q2, q3, q4, q5, q6, q7, q8, ea, eh, -⟩ := (EM.out.keptM (Kp.below (hBi.mono hszr))).atM j hltj
        obtain ⟨b3, off3, va', vh', rfl, hbl3, s0, s1, s2, s3, s4, s5, s6, s7, s8, ea', eh', -⟩ := (EM'.out.keptM (Kp.below (hBi.mono hszr))).atM j hltj
        have EA := mkHid ea
        have EH := mkHid eh
        have EA' := mkHid ea'
        have EH' := mkHid eh'
        obtain ⟨ao, ca, rfl, -⟩ := ea
        obtain ⟨ho, ch, rfl, _, hlh, -⟩ := eh
        obtain ⟨ao', ca', rfl, -⟩ := ea'
        obtain ⟨ho', ch', rfl, -⟩ := eh'
        unfold maxLen at hlh
        generalize meths[j] = m at *
        obtain ⟨mname, static, args, ⟨rk, rc⟩, stack, locals, code, hands⟩ := m
        dsimp only at *
        go_wp2_with fail
        go_cut [9, 10] (fun px py W => Pair wi W px py 76 #[.string mname, .bool static, .slice ao args.length ca, .int .i64 rk, .string rc, .int .i64 stack, .int .i64 locals, .string code, .slice ho hands.length ch] #[.string mname, .bool static, .slice ao' args.length ca', .int .i64 rk, .string rc, .int .i64 stack, .int .i64 locals, .string code, .slice ho' hands.length ch'])
        case first =>
          go_region
          all_goals
            go_wp2_with fail
            go_meet
            first | exact Pair.one _ _ _ _ | exact Pair.two _ _ _ _
        case rest =>
          obtain ⟨⟨X2, Y2, rfl, rfl, hX2, hY2, hx, hy⟩, hBp⟩ := hcut
          have HXX := mkHid hx
          have HYY := mkHid hy
          have xl2 := blk_lt hx
          have yl2 := blk_lt hy
          have m0 := cell_of hx 0 (x := .string mname) rfl
          have m1 := cell_of hx 1 (x := .bool static) rfl
          have m2 := cell_of hx 2 (x := .slice ao args.length ca) rfl
          have m3 := cell_of hx 3 (x := .int .i64 rk) rfl
          have m4 := cell_of hx 4 (x := .string rc) rfl
          have m5 := cell_of hx 5 (x := .int .i64 stack) rfl
          have m6 := cell_of hx 6 (x := .int .i64 locals) rfl
          have m7 := cell_of hx 7 (x := .string code) rfl
          have m8 := cell_of hx 8 (x := .slice ho hands.length ch) rfl
          have n0 := cell_of hy 0 (x := .string mname) rfl
          have n1 := cell_of hy 1 (x := .bool static) rfl
          have n2 := cell_of hy 2 (x := .slice ao' args.length ca') rfl
          have n3 := cell_of hy 3 (x := .int .i64 rk) rfl
          have n4 := cell_of hy 4 (x := .string rc) rfl
          have n5 := cell_of hy 5 (x := .int .i64 stack) rfl
          have n6 := cell_of hy 6 (x := .int .i64 locals) rfl
          have n7 := cell_of hy 7 (x := .string code) rfl
          have n8 := cell_of hy 8 (x := .slice ho' hands.length ch') rfl
          have hszw : w.heap.size ≤ wi.heap.size := Nat.le_trans hszr hszi
          clear hx hy q0 q1 q2 q3 q4 q5 q6 q7 q8 s0 s1 s2 s3 s4 s5 s6 s7 s8 x3 y3
          go_wp2_with fail
          refine (sameKinds_any _ _ _ args (EA.out.upK (hBp.mono hszw) hszw) (EA'.out.upK (hBp.mono hszw) hszw)).mono ?_
          rintro r w3 ⟨rfl, n9, rfl⟩
          go_wp2_with fail
          go_loopw [11] (fun i wj => ∃ (h n : Nat), h ≤ hands.length ∧ i = .int .i64 h ∧ wj = wc.drewN n) (fun i _ => hands.length - (intOf i).toNat)
          case atStart => exact ⟨0, n9, Nat.zero_le _, rfl, rfl⟩
          case round =>
            obtain ⟨h, nn, hh, rfl, rfl⟩ := hrel
            by_cases hlth : h < hands.length
            · obtain ⟨b5, off5, rfl, _, g0, g1, g2, g3, -⟩ := (EH.out.keptH (Kp.below (hBp.mono hszw))).atH h hlth
              obtain ⟨b6, off6, rfl, _, j0, j1, j2, j3, -⟩ := (EH'.out.keptH (Kp.below (hBp.mono hszw))).atH h hlth
              go_wp2_with fail
              go_quiet (fail)
              go_wp2_with fail
              go_roundw
              case rel => exact ⟨h + 1, _, by omega, by go_num, rfl⟩
              case measure => simp [intOf]; omega
            · go_wp2_with fail
              go_roundw
              case rel => exact ⟨j + 1, by omega, by go_num, hBi.trans ((below_drewN hBp _).mono hszi), (hBp.block X xl).trans HX2.out, (hBp.block Y yl).trans HY2.out⟩
              case measure => simp [intOf]; omega
end Go.Proofs.YtaekpdcnnkmahaaGreatDoor
/- The document's own reading of linked classes: are they the same? -/
namespace Go.Proofs.YtaekpdcnnkmahaaGreatDoor
open Go.RowKit Go.Maps

def sameRest (d e : LinkD) : Bool := eqL sameI d.supers e.supers && eqL (eqL sameF) d.fields e.fields && eqL (eqL sameS) d.names e.names && eqL (eqL sameT) d.targets e.targets

set_option maxRecDepth 100000 in
set_option maxHeartbeats 8000000 in
theorem SameLinked_any (w : World) (B : Nat) (aC aS aF aN aT bC bS bF bN bT : Value) (d e : LinkD) (hd : RLk (· < B) w aC aS aF aN aT d) (he : RLk (· < B) w bC bS bF bN bT e) (hcl : d.classes = e.classes) (hB : B ≤ w.heap.size) :
    Calls Tryz.prog 17 #[.agg #[aC, aS, aF, aN, aT], .agg #[bC, bS, bF, bN, bT]] w fun r w' => r = .returned (.bool (sameRest d e)) ∧ Below w.heap.size w w' := by
  have hB1 : Below w.heap.size w ((w.alloc (.cells #[aC, aS, aF, aN, aT] 37)).alloc (.cells #[bC, bS, bF, bN, bT] 37)) := ((Below.refl _ _).alloc (Nat.le_refl _) _).alloc (by simp) _
  have hka : ((w.alloc (.cells #[aC, aS, aF, aN, aT] 37)).alloc (.cells #[bC, bS, bF, bN, bT] 37)).heap[w.heap.size]? = some (.cells #[aC, aS, aF, aN, aT] 37 (0, 0)) := (Below.heap_alloc _ _ _ (by simp)).trans (heap_alloc_new w _)
  have hkb : ((w.alloc (.cells #[aC, aS, aF, aN, aT] 37)).alloc (.cells #[bC, bS, bF, bN, bT] 37)).heap[w.heap.size + 1]? = some (.cells #[bC, bS, bF, bN, bT] 37 (0, 0)) := by
    have := heap_alloc_new (w.alloc (.cells #[aC, aS, aF, aN, aT] 37)) (.cells #[bC, bS, bF, bN, bT] 37)
    simpa using this
  have hd1 := hd.kept (Kp.below (hB1.mono hB))
  have he1 := he.kept (Kp.below (hB1.mono hB))
  have HSC := mkHid (sameClasses_any _ aC bC d.classes (hd1.C.monoC fun _ (h : _ < B) => by have := hB1.size; omega) (hcl ▸ he1.C.monoC fun _ (h : _ < B) => by have := hB1.size; omega))
  have HD1 := mkHid hd1
  have HE1 := mkHid he1
  have HB1 := mkHid hB1
  have HKA := mkHid hka
  have HKB := mkHid hkb
  have HSR : Hid (sameRest d e = (eqL sameI d.supers e.supers && eqL (eqL sameF) d.fields e.fields && eqL (eqL sameS) d.names e.names && eqL (eqL sameT) d.targets e.targets)) := rfl
  have a0 := cell_of hka 0 (x := aC) rfl
  have a1 := cell_of hka 1 (x := aS) rfl
  have b0 := cell_of hkb 0 (x := bC) rfl
  have hza : w.heap.size < ((w.alloc (.cells #[aC, aS, aF, aN, aT] 37)).alloc (.cells #[bC, bS, bF, bN, bT] 37)).heap.size := by simp; omega
  have hzb : w.heap.size + 1 < ((w.alloc (.cells #[aC, aS, aF, aN, aT] 37)).alloc (.cells #[bC, bS, bF, bN, bT] 37)).heap.size := by simp
  obtain ⟨oaS, caS, rfl, -, hl1, -⟩ := hd.S
  obtain ⟨oaF, caF, rfl, -, hl2, -⟩ := hd.F
  obtain ⟨oaN, caN, rfl, -, hl3, -⟩ := hd.N
  obtain ⟨oaT, caT, rfl, -, hl4, -⟩ := hd.T
  obtain ⟨obS, cbS, rfl, -, hm1, -⟩ := he.S
  obtain ⟨obF, cbF, rfl, -, hm2, -⟩ := he.F
  obtain ⟨obN, cbN, rfl, -, hm3, -⟩ := he.N
  obtain ⟨obT, cbT, rfl, -, hm4, -⟩ := he.T
  unfold maxLen at hl1 hl2 hl3 hl4 hm1 hm2 hm3 hm4
  clear hd he hd1 he1 hka hkb
  have HW1 : Hid (((w.alloc (.cells #[aC, .slice oaS d.supers.length caS, .slice oaF d.fields.length caF, .slice oaN d.names.length caN, .slice oaT d.targets.length caT] 37)).alloc (.cells #[bC, .slice obS e.supers.length cbS, .slice obF e.fields.length cbF, .slice obN e.names.length cbN, .slice obT e.targets.length cbT] 37)).heap.size = w.heap.size + 2) := by
    show _ = _
    simp
  go_enter Tryz.func17, Tryz.ntmps17
  go_upto_region 2 with fail
  generalize hWW : ((w.alloc (.cells #[aC, .slice oaS d.supers.length caS, .slice oaF d.fields.length caF, .slice oaN d.names.length caN, .slice oaT d.targets.length caT] 37)).alloc (.cells #[bC, .slice obS e.supers.length cbS, .slice obF e.fields.length cbF, .slice obN e.names.length cbN, .slice obT e.targets.length cbT] 37)) = W1 at *
  clear hWW
  have hbb := HB1.out.size
  have HBL : Hid (∀ w', Below W1.heap.size W1 w' → Below w.heap.size w w') := fun w' h => HB1.out.trans (h.mono HB1.out.size)
  by_cases hsupers : d.supers.length = e.supers.length
  rotate_left
  · have HR : Hid (sameRest d e = false) := HSR.out.trans (by rw [eqL_len sameI d.supers e.supers hsupers]; simp)
    have hx : ¬ (e.supers.length : Int) = d.supers.length := by omega
    have hx' : ((e.supers.length : Int) == d.supers.length) = false := beq_eq_false_iff_ne.2 hx
    clear hsupers
    go_wp2_with (first | (go_at_call 15; refine HSC.out.mono ?_; rintro r w7 ⟨rfl, hb7⟩; have ka := (hb7.block w.heap.size (by omega)).trans HKA.out; have kb := (hb7.block (w.heap.size + 1) (by omega)).trans HKB.out; have p1 := cell_of ka 1 (x := .slice oaS d.supers.length caS) rfl; have p2 := cell_of ka 2 (x := .slice oaF d.fields.length caF) rfl; have p3 := cell_of ka 3 (x := .slice oaN d.names.length caN) rfl; have p4 := cell_of ka 4 (x := .slice oaT d.targets.length caT) rfl; have o1 := cell_of kb 1 (x := .slice obS e.supers.length cbS) rfl; have o2 := cell_of kb 2 (x := .slice obF e.fields.length cbF) rfl; have o3 := cell_of kb 3 (x := .slice obN e.names.length cbN) rfl; have o4 := cell_of kb 4 (x := .slice obT e.targets.length cbT) rfl; have za := lt_of ka; have zb := lt_of kb; have HB7 := mkHid hb7; have HKZ := mkHid (And.intro ka kb); clear hb7 ka kb))
    go_ret
    exact ⟨by rw [HR.out]; rfl, HBL.out _ HB7.out⟩
  have HLsupers := mkHid hsupers
  by_cases hfields : d.fields.length = e.fields.length
  rotate_left
  · have HR : Hid (sameRest d e = false) := HSR.out.trans (by rw [eqL_len (eqL sameF) d.fields e.fields hfields]; simp)
    have hx : ¬ (d.fields.length : Int) = e.fields.length := by omega
    have hx' : ((d.fields.length : Int) == e.fields.length) = false := beq_eq_false_iff_ne.2 hx
    clear hfields
    go_wp2_with (first | (go_at_call 15; refine HSC.out.mono ?_; rintro r w7 ⟨rfl, hb7⟩; have ka := (hb7.block w.heap.size (by omega)).trans HKA.out; have kb := (hb7.block (w.heap.size + 1) (by omega)).trans HKB.out; have p1 := cell_of ka 1 (x := .slice oaS d.supers.length caS) rfl; have p2 := cell_of ka 2 (x := .slice oaF d.fields.length caF) rfl; have p3 := cell_of ka 3 (x := .slice oaN d.names.length caN) rfl; have p4 := cell_of ka 4 (x := .slice oaT d.targets.length caT) rfl; have o1 := cell_of kb 1 (x := .slice obS e.supers.length cbS) rfl; have o2 := cell_of kb 2 (x := .slice obF e.fields.length cbF) rfl; have o3 := cell_of kb 3 (x := .slice obN e.names.length cbN) rfl; have o4 := cell_of kb 4 (x := .slice obT e.targets.length cbT) rfl; have za := lt_of ka; have zb := lt_of kb; have HB7 := mkHid hb7; have HKZ := mkHid (And.intro ka kb); clear hb7 ka kb))
    go_ret
    exact ⟨by rw [HR.out]; rfl, HBL.out _ HB7.out⟩
  have HLfields := mkHid hfields
  by_cases hnames : d.names.length = e.names.length
  rotate_left
  · have HR : Hid (sameRest d e = false) := HSR.out.trans (by rw [eqL_len (eqL sameS) d.names e.names hnames]; simp)
    have hx : ¬ (d.names.length : Int) = e.names.length := by omega
    have hx' : ((d.names.length : Int) == e.names.length) = false := beq_eq_false_iff_ne.2 hx
    clear hnames
    go_wp2_with (first | (go_at_call 15; refine HSC.out.mono ?_; rintro r w7 ⟨rfl, hb7⟩; have ka := (hb7.block w.heap.size (by omega)).trans HKA.out; have kb := (hb7.block (w.heap.size + 1) (by omega)).trans HKB.out; have p1 := cell_of ka 1 (x := .slice oaS d.supers.length caS) rfl; have p2 := cell_of ka 2 (x := .slice oaF d.fields.length caF) rfl; have p3 := cell_of ka 3 (x := .slice oaN d.names.length caN) rfl; have p4 := cell_of ka 4 (x := .slice oaT d.targets.length caT) rfl; have o1 := cell_of kb 1 (x := .slice obS e.supers.length cbS) rfl; have o2 := cell_of kb 2 (x := .slice obF e.fields.length cbF) rfl; have o3 := cell_of kb 3 (x := .slice obN e.names.length cbN) rfl; have o4 := cell_of kb 4 (x := .slice obT e.targets.length cbT) rfl; have za := lt_of ka; have zb := lt_of kb; have HB7 := mkHid hb7; have HKZ := mkHid (And.intro ka kb); clear hb7 ka kb))
    go_ret
    exact ⟨by rw [HR.out]; rfl, HBL.out _ HB7.out⟩
  have HLnames := mkHid hnames
  by_cases htargets : d.targets.length = e.targets.length
  rotate_left
  · have HR : Hid (sameRest d e = false) := HSR.out.trans (by rw [eqL_len (eqL sameT) d.targets e.targets htargets]; simp)
    have hx : ¬ (d.targets.length : Int) = e.targets.length := by omega
    have hx' : ((d.targets.length : Int) == e.targets.length) = false := beq_eq_false_iff_ne.2 hx
    clear htargets
    go_wp2_with (first | (go_at_call 15; refine HSC.out.mono ?_; rintro r w7 ⟨rfl, hb7⟩; have ka := (hb7.block w.heap.size (by omega)).trans HKA.out; have kb := (hb7.block (w.heap.size + 1) (by omega)).trans HKB.out; have p1 := cell_of ka 1 (x := .slice oaS d.supers.length caS) rfl; have p2 := cell_of ka 2 (x := .slice oaF d.fields.length caF) rfl; have p3 := cell_of ka 3 (x := .slice oaN d.names.length caN) rfl; have p4 := cell_of ka 4 (x := .slice oaT d.targets.length caT) rfl; have o1 := cell_of kb 1 (x := .slice obS e.supers.length cbS) rfl; have o2 := cell_of kb 2 (x := .slice obF e.fields.length cbF) rfl; have o3 := cell_of kb 3 (x := .slice obN e.names.length cbN) rfl; have o4 := cell_of kb 4 (x := .slice obT e.targets.length cbT) rfl; have za := lt_of ka; have zb := lt_of kb; have HB7 := mkHid hb7; have HKZ := mkHid (And.intro ka kb); clear hb7 ka kb))
    go_ret
    exact ⟨by rw [HR.out]; rfl, HBL.out _ HB7.out⟩
  have HLtargets := mkHid htargets
  rw [← hsupers, ← hfields, ← hnames, ← htargets] at HE1 HKB ⊢
  clear hsupers hfields hnames htargets
  go_wp2_with (first | (go_at_call 15; refine HSC.out.mono ?_; rintro r w7 ⟨rfl, hb7⟩; have ka := (hb7.block w.heap.size (by omega)).trans HKA.out; have kb := (hb7.block (w.heap.size + 1) (by omega)).trans HKB.out; have p1 := cell_of ka 1 (x := .slice oaS d.supers.length caS) rfl; have p2 := cell_of ka 2 (x := .slice oaF d.fields.length caF) rfl; have p3 := cell_of ka 3 (x := .slice oaN d.names.length caN) rfl; have p4 := cell_of ka 4 (x := .slice oaT d.targets.length caT) rfl; have o1 := cell_of kb 1 (x := .slice obS d.supers.length cbS) rfl; have o2 := cell_of kb 2 (x := .slice obF d.fields.length cbF) rfl; have o3 := cell_of kb 3 (x := .slice obN d.names.length cbN) rfl; have o4 := cell_of kb 4 (x := .slice obT d.targets.length cbT) rfl; have za := lt_of ka; have zb := lt_of kb; have HB7 := mkHid hb7; have HKZ := mkHid (And.intro ka kb); clear hb7 ka kb))
  have hz7 := HB7.out.size
  have HDz : Hid (RLk (· < B) w7 aC (.slice oaS d.supers.length caS) (.slice oaF d.fields.length caF) (.slice oaN d.names.length caN) (.slice oaT d.targets.length caT) d) := HD1.out.kept (Kp.below (HB7.out.mono (by omega)))
  have HEz : Hid (RLk (· < B) w7 bC (.slice obS d.supers.length cbS) (.slice obF d.fields.length cbF) (.slice obN d.names.length cbN) (.slice obT d.targets.length cbT) e) := HE1.out.kept (Kp.below (HB7.out.mono (by omega)))
  have HFIN : Hid (∀ n, Below w.heap.size w (w7.drewN n)) := fun n => HBL.out _ (below_dn HB7.out n)
  clear hm1 hm2 hm3 hm4 p1 p2 p3 p4 o1 o2 o3 o4 za zb
  go_loopw [6] (fun i wx => ∃ k : Nat, k ≤ d.supers.length ∧ i = .int .i64 k ∧ Hid (eqL sameI d.supers e.supers = eqL sameI (d.supers.drop k) (e.supers.drop k)) ∧ ∃ n, wx = w7.drewN n) (fun i _ => d.supers.length - (intOf i).toNat)
  case atStart => exact ⟨0, Nat.zero_le _, rfl, rfl, 0, rfl⟩
  case round =>
    rename World => wr
    obtain ⟨k, hk, rfl, HQ, nz, hwx⟩ := hrel
    have HDy : Hid (RLk (· < B) wr aC (.slice oaS d.supers.length caS) (.slice oaF d.fields.length caF) (.slice oaN d.names.length caN) (.slice oaT d.targets.length caT) d) := by rw [hwx]; exact HDz.out.kept ⟨Nat.le_refl _, fun _ _ _ => rfl⟩
    have HEy : Hid (RLk (· < B) wr bC (.slice obS d.supers.length cbS) (.slice obF d.fields.length cbF) (.slice obN d.names.length cbN) (.slice obT d.targets.length cbT) e) := by rw [hwx]; exact HEz.out.kept ⟨Nat.le_refl _, fun _ _ _ => rfl⟩
    have ka : wr.heap[w.heap.size]? = some (.cells #[aC, .slice oaS d.supers.length caS, .slice oaF d.fields.length caF, .slice oaN d.names.length caN, .slice oaT d.targets.length caT] 37 (0, 0)) := by rw [hwx]; exact HKZ.out.1
    have kb : wr.heap[w.heap.size + 1]? = some (.cells #[bC, .slice obS d.supers.length cbS, .slice obF d.fields.length cbF, .slice obN d.names.length cbN, .slice obT d.targets.length cbT] 37 (0, 0)) := by rw [hwx]; exact HKZ.out.2
    have p1 := cell_of ka 1 (x := .slice oaS d.supers.length caS) rfl
    have p2 := cell_of ka 2 (x := .slice oaF d.fields.length caF) rfl
    have p3 := cell_of ka 3 (x := .slice oaN d.names.length caN) rfl
    have p4 := cell_of ka 4 (x := .slice oaT d.targets.length caT) rfl
    have o1 := cell_of kb 1 (x := .slice obS d.supers.length cbS) rfl
    have o2 := cell_of kb 2 (x := .slice obF d.fields.length cbF) rfl
    have o3 := cell_of kb 3 (x := .slice obN d.names.length cbN) rfl
    have o4 := cell_of kb 4 (x := .slice obT d.targets.length cbT) rfl
    have za := lt_of ka
    have zb := lt_of kb
    have HFW : Hid (∀ n, Below w.heap.size w (wr.drewN n)) := by rw [hwx]; exact fun n => below_dn (HFIN.out nz) n
    have HNW : Hid (∀ m, ∃ n, wr.drewN m = w7.drewN n) := by rw [hwx]; exact fun m => ⟨_, World.drewN_drewN _ _ _⟩
    have HWX := mkHid hwx
    clear hwx ka kb
    by_cases hlt : k < d.supers.length
    · have hlm : k < e.supers.length := by have := HLsupers.out; omega
      obtain ⟨b, off, rfl, _, c0⟩ := HDy.out.S.atI k hlt
      obtain ⟨b2, off2, rfl, _, d0⟩ := HEy.out.S.atI k hlm
      have HST := mkHid (eqL_step sameI d.supers e.supers k hlt hlm)
      generalize d.supers[k] = x at *
      generalize e.supers[k] = y at *
      cases hs : sameI x y with
      | true =>
        have hs' : x = y := by simpa [sameI] using hs
        have HQ' : Hid (eqL sameI d.supers e.supers = eqL sameI (d.supers.drop (k + 1)) (e.supers.drop (k + 1))) := HQ.out.trans (by rw [HST.out, hs, Bool.true_and])
        go_wp2
        go_quiet (fail)
        go_wp2
        go_roundw
        case rel => exact ⟨k + 1, by omega, by go_num, HQ'.out, HNW.out _⟩
        case measure => simp [intOf]; omega
      | false =>
        have hs' : ¬ x = y := by simpa [sameI] using hs
        have HQ' : Hid (sameRest d e = false) := HSR.out.trans (by rw [HQ.out, HST.out, hs]; simp)
        go_wp2
        go_quiet (fail)
        go_wp2
        go_ret
        exact ⟨by rw [HQ'.out]; rfl, HFW.out _⟩
    · have HA1 : Hid (eqL sameI d.supers e.supers = true) := HQ.out.trans (eqL_end sameI _ _ k hlt HLsupers.out)
      go_wp2_with fail
      clear hlt hk HQ p1 p2 p3 p4 o1 o2 o3 o4 za zb HDy HEy HFW HNW
      go_loopw [7] (fun i wx => ∃ k : Nat, k ≤ d.fields.length ∧ i = .int .i64 k ∧ Hid (eqL (eqL sameF) d.fields e.fields = eqL (eqL sameF) (d.fields.drop k) (e.fields.drop k)) ∧ ∃ n, wx = w7.drewN n) (fun i _ => d.fields.length - (intOf i).toNat)
      case atStart => exact ⟨0, Nat.zero_le _, rfl, rfl, nz, HWX.out⟩
      case round =>
        rename World => wr
        obtain ⟨k, hk, rfl, HQ, nz, hwx⟩ := hrel
        have HDy : Hid (RLk (· < B) wr aC (.slice oaS d.supers.length caS) (.slice oaF d.fields.length caF) (.slice oaN d.names.length caN) (.slice oaT d.targets.length caT) d) := by rw [hwx]; exact HDz.out.kept ⟨Nat.le_refl _, fun _ _ _ => rfl⟩
        have HEy : Hid (RLk (· < B) wr bC (.slice obS d.supers.length cbS) (.slice obF d.fields.length cbF) (.slice obN d.names.length cbN) (.slice obT d.targets.length cbT) e) := by rw [hwx]; exact HEz.out.kept ⟨Nat.le_refl _, fun _ _ _ => rfl⟩
        have ka : wr.heap[w.heap.size]? = some (.cells #[aC, .slice oaS d.supers.length caS, .slice oaF d.fields.length caF, .slice oaN d.names.length caN, .slice oaT d.targets.length caT] 37 (0, 0)) := by rw [hwx]; exact HKZ.out.1
        have kb : wr.heap[w.heap.size + 1]? = some (.cells #[bC, .slice obS d.supers.length cbS, .slice obF d.fields.length cbF, .slice obN d.names.length cbN, .slice obT d.targets.length cbT] 37 (0, 0)) := by rw [hwx]; exact HKZ.out.2
        have p1 := cell_of ka 1 (x := .slice oaS d.supers.length caS) rfl
        have p2 := cell_of ka 2 (x := .slice oaF d.fields.length caF) rfl
        have p3 := cell_of ka 3 (x := .slice oaN d.names.length caN) rfl
        have p4 := cell_of ka 4 (x := .slice oaT d.targets.length caT) rfl
        have o1 := cell_of kb 1 (x := .slice obS d.supers.length cbS) rfl
        have o2 := cell_of kb 2 (x := .slice obF d.fields.length cbF) rfl
        have o3 := cell_of kb 3 (x := .slice obN d.names.length cbN) rfl
        have o4 := cell_of kb 4 (x := .slice obT d.targets.length cbT) rfl
        have za := lt_of ka
        have zb := lt_of kb
        have HFW : Hid (∀ n, Below w.heap.size w (wr.drewN n)) := by rw [hwx]; exact fun n => below_dn (HFIN.out nz) n
        have HNW : Hid (∀ m, ∃ n, wr.drewN m = w7.drewN n) := by rw [hwx]; exact fun m => ⟨_, World.drewN_drewN _ _ _⟩
        have HWX := mkHid hwx
        clear hwx ka kb
        by_cases hlt : k < d.fields.length
        · have hlm : k < e.fields.length := by have := HLfields.out; omega
          obtain ⟨b, off, a1_, k1_, rfl, _, c0, su⟩ := HDy.out.F.atSl k hlt
          obtain ⟨b2, off2, a2_, k2_, rfl, _, d0, sv⟩ := HEy.out.F.atSl k hlm
          have HST := mkHid (eqL_step (eqL sameF) d.fields e.fields k hlt hlm)
          have HC := mkHid (fun n => SameFields_any (wr.drewN n) _ _ _ _ d.fields[k] e.fields[k] (su.kept ⟨Nat.le_refl _, fun _ _ _ => rfl⟩ fun _ _ h => h) (sv.kept ⟨Nat.le_refl _, fun _ _ _ => rfl⟩ fun _ _ h => h))
          clear su sv
          generalize d.fields[k] = x at *
          generalize e.fields[k] = y at *
          cases hs : eqL sameF x y with
          | true =>
            rw [hs] at HC
            have HQ' : Hid (eqL (eqL sameF) d.fields e.fields = eqL (eqL sameF) (d.fields.drop (k + 1)) (e.fields.drop (k + 1))) := HQ.out.trans (by rw [HST.out, hs, Bool.true_and])
            clear hs
            go_wp2
            go_quiet (first | (go_at_call 54; exact Calls.quiet_of (HC.out _)))
            go_wp2
            go_roundw
            case rel => exact ⟨k + 1, by omega, by go_num, HQ'.out, HNW.out _⟩
            case measure => simp [intOf]; omega
          | false =>
            rw [hs] at HC
            have HQ' : Hid (sameRest d e = false) := HSR.out.trans (by rw [HQ.out, HST.out, hs]; simp)
            clear hs
            go_wp2
            go_quiet (first | (go_at_call 54; exact Calls.quiet_of (HC.out _)))
            go_wp2
            go_ret
            exact ⟨by rw [HQ'.out]; rfl, HFW.out _⟩
        · have HA2 : Hid (eqL (eqL sameF) d.fields e.fields = true) := HQ.out.trans (eqL_end (eqL sameF) _ _ k hlt HLfields.out)
          go_wp2_with fail
          clear hlt hk HQ p1 p2 p3 p4 o1 o2 o3 o4 za zb HDy HEy HFW HNW
          go_loopw [8] (fun i wx => ∃ k : Nat, k ≤ d.names.length ∧ i = .int .i64 k ∧ Hid (eqL (eqL sameS) d.names e.names = eqL (eqL sameS) (d.names.drop k) (e.names.drop k)) ∧ ∃ n, wx = w7.drewN n) (fun i _ => d.names.length - (intOf i).toNat)
          case atStart => exact ⟨0, Nat.zero_le _, rfl, rfl, nz, HWX.out⟩
          case round =>
            rename World => wr
            obtain ⟨k, hk, rfl, HQ, nz, hwx⟩ := hrel
            have HDy : Hid (RLk (· < B) wr aC (.slice oaS d.supers.length caS) (.slice oaF d.fields.length caF) (.slice oaN d.names.length caN) (.slice oaT d.targets.length caT) d) := by rw [hwx]; exact HDz.out.kept ⟨Nat.le_refl _, fun _ _ _ => rfl⟩
            have HEy : Hid (RLk (· < B) wr bC (.slice obS d.supers.length cbS) (.slice obF d.fields.length cbF) (.slice obN d.names.length cbN) (.slice obT d.targets.length cbT) e) := by rw [hwx]; exact HEz.out.kept ⟨Nat.le_refl _, fun _ _ _ => rfl⟩
            have ka : wr.heap[w.heap.size]? = some (.cells #[aC, .slice oaS d.supers.length caS, .slice oaF d.fields.length caF, .slice oaN d.names.length caN, .slice oaT d.targets.length caT] 37 (0, 0)) := by rw [hwx]; exact HKZ.out.1
            have kb : wr.heap[w.heap.size + 1]? = some (.cells #[bC, .slice obS d.supers.length cbS, .slice obF d.fields.length cbF, .slice obN d.names.length cbN, .slice obT d.targets.length cbT] 37 (0, 0)) := by rw [hwx]; exact HKZ.out.2
            have p1 := cell_of ka 1 (x := .slice oaS d.supers.length caS) rfl
            have p2 := cell_of ka 2 (x := .slice oaF d.fields.length caF) rfl
            have p3 := cell_of ka 3 (x := .slice oaN d.names.length caN) rfl
            have p4 := cell_of ka 4 (x := .slice oaT d.targets.length caT) rfl
            have o1 := cell_of kb 1 (x := .slice obS d.supers.length cbS) rfl
            have o2 := cell_of kb 2 (x := .slice obF d.fields.length cbF) rfl
            have o3 := cell_of kb 3 (x := .slice obN d.names.length cbN) rfl
            have o4 := cell_of kb 4 (x := .slice obT d.targets.length cbT) rfl
            have za := lt_of ka
            have zb := lt_of kb
            have HFW : Hid (∀ n, Below w.heap.size w (wr.drewN n)) := by rw [hwx]; exact fun n => below_dn (HFIN.out nz) n
            have HNW : Hid (∀ m, ∃ n, wr.drewN m = w7.drewN n) := by rw [hwx]; exact fun m => ⟨_, World.drewN_drewN _ _ _⟩
            have HWX := mkHid hwx
            clear hwx ka kb
            by_cases hlt : k < d.names.length
            · have hlm : k < e.names.length := by have := HLnames.out; omega
              obtain ⟨b, off, a1_, k1_, rfl, hb1, c0, su⟩ := HDy.out.N.atSl k hlt
              obtain ⟨b2, off2, a2_, k2_, rfl, hb2, d0, sv⟩ := HEy.out.N.atSl k hlm
              have HST := mkHid (eqL_step (eqL sameS) d.names e.names k hlt hlm)
              have HSU := mkHid su
              have HSV := mkHid sv
              have hmx : d.names[k].length ≤ maxLen := by
                obtain ⟨_, _, e1, _, h, _⟩ := su
                cases e1
                exact h
              unfold maxLen at hmx
              clear su sv
              generalize d.names[k] = x at *
              generalize e.names[k] = y at *
              have hk0 : (0 : Int) ≤ k := by omega
              have hk1 : (k : Int) < d.names.length := by omega
              by_cases hxy : x.length = y.length
              rotate_left
              · have HQ' : Hid (sameRest d e = false) := HSR.out.trans (by rw [HQ.out, HST.out, eqL_len sameS x y hxy]; simp)
                have hx' : ((x.length : Int) == y.length) = false := beq_eq_false_iff_ne.2 (by omega)
                clear hxy
                go_wp2
                go_quiet (fail)
                go_wp2
                go_ret
                exact ⟨by rw [HQ'.out]; rfl, HFW.out _⟩
              have HLX := mkHid hxy
              rw [← hxy] at d0 HSV
              clear hxy
              go_wp2
              go_quiet (fail)
              go_wp2
              go_loopw [9] (fun i wx => ∃ j : Nat, j ≤ x.length ∧ i = .int .i64 j ∧ Hid (eqL sameS x y = eqL sameS (x.drop j) (y.drop j)) ∧ ∃ n, wx = wr.drewN n) (fun i _ => x.length - (intOf i).toNat)
              case atStart => exact ⟨0, Nat.zero_le _, rfl, rfl, _, rfl⟩
              case round =>
                obtain ⟨j, hj, rfl, HJ, n2, rfl⟩ := hrel
                by_cases hjt : j < x.length
                · have hjy : j < y.length := by have := HLX.out; omega
                  obtain ⟨bx, ox, rfl, _, f0, _⟩ := HSU.out.atS j hjt
                  obtain ⟨by_, oy, rfl, _, g0, _⟩ := HSV.out.atS j hjy
                  have HSJ := mkHid (eqL_step sameS x y j hjt hjy)
                  have hj0 : (0 : Int) ≤ j := by omega
                  have hj1 : (j : Int) < x.length := by omega
                  generalize x[j] = s at *
                  generalize y[j] = s' at *
                  cases hs : sameS s s' with
                  | true =>
                    have hs' : (s.toList == s'.toList) = true := hs
                    have HJ' : Hid (eqL sameS x y = eqL sameS (x.drop (j + 1)) (y.drop (j + 1))) := HJ.out.trans (by rw [HSJ.out, hs, Bool.true_and])
                    go_wp2
                    go_quiet (fail)
                    go_wp2
                    go_roundw
                    case rel => exact ⟨j + 1, by omega, by go_num, HJ'.out, _, rfl⟩
                    case measure => simp [intOf]; omega
                  | false =>
                    have hs' : (s.toList == s'.toList) = false := hs
                    have HQ' : Hid (sameRest d e = false) := HSR.out.trans (by rw [HQ.out, HST.out, HJ.out, HSJ.out, hs]; simp)
                    go_wp2
                    go_quiet (fail)
                    go_wp2
                    go_ret
                    exact ⟨by rw [HQ'.out]; rfl, below_dn (HFW.out n2) _⟩
                · have HQ' : Hid (eqL (eqL sameS) d.names e.names = eqL (eqL sameS) (d.names.drop (k + 1)) (e.names.drop (k + 1))) := HQ.out.trans (by rw [HST.out, HJ.out, eqL_end sameS x y j hjt HLX.out, Bool.true_and])
                  go_wp2
                  go_roundw
                  case rel => exact ⟨k + 1, by omega, by go_num, HQ'.out, HNW.out n2⟩
                  case measure => simp [intOf]; omega
            · have HA3 : Hid (eqL (eqL sameS) d.names e.names = true) := HQ.out.trans (eqL_end (eqL sameS) _ _ k hlt HLnames.out)
              go_wp2_with fail
              clear hlt hk HQ p1 p2 p3 p4 o1 o2 o3 o4 za zb HDy HEy HFW HNW
              go_loopw [10] (fun i wx => ∃ k : Nat, k ≤ d.targets.length ∧ i = .int .i64 k ∧ Hid (eqL (eqL sameT) d.targets e.targets = eqL (eqL sameT) (d.targets.drop k) (e.targets.drop k)) ∧ ∃ n, wx = w7.drewN n) (fun i _ => d.targets.length - (intOf i).toNat)
              case atStart => exact ⟨0, Nat.zero_le _, rfl, rfl, nz, HWX.out⟩
              case round =>
                rename World => wr
                obtain ⟨k, hk, rfl, HQ, nz, hwx⟩ := hrel
                have HDy : Hid (RLk (· < B) wr aC (.slice oaS d.supers.length caS) (.slice oaF d.fields.length caF) (.slice oaN d.names.length caN) (.slice oaT d.targets.length caT) d) := by rw [hwx]; exact HDz.out.kept ⟨Nat.le_refl _, fun _ _ _ => rfl⟩
                have HEy : Hid (RLk (· < B) wr bC (.slice obS d.supers.length cbS) (.slice obF d.fields.length cbF) (.slice obN d.names.length cbN) (.slice obT d.targets.length cbT) e) := by rw [hwx]; exact HEz.out.kept ⟨Nat.le_refl _, fun _ _ _ => rfl⟩
                have ka : wr.heap[w.heap.size]? = some (.cells #[aC, .slice oaS d.supers.length caS, .slice oaF d.fields.length caF, .slice oaN d.names.length caN, .slice oaT d.targets.length caT] 37 (0, 0)) := by rw [hwx]; exact HKZ.out.1
                have kb : wr.heap[w.heap.size + 1]? = some (.cells #[bC, .slice obS d.supers.length cbS, .slice obF d.fields.length cbF, .slice obN d.names.length cbN, .slice obT d.targets.length cbT] 37 (0, 0)) := by rw [hwx]; exact HKZ.out.2
                have p1 := cell_of ka 1 (x := .slice oaS d.supers.length caS) rfl
                have p2 := cell_of ka 2 (x := .slice oaF d.fields.length caF) rfl
                have p3 := cell_of ka 3 (x := .slice oaN d.names.length caN) rfl
                have p4 := cell_of ka 4 (x := .slice oaT d.targets.length caT) rfl
                have o1 := cell_of kb 1 (x := .slice obS d.supers.length cbS) rfl
                have o2 := cell_of kb 2 (x := .slice obF d.fields.length cbF) rfl
                have o3 := cell_of kb 3 (x := .slice obN d.names.length cbN) rfl
                have o4 := cell_of kb 4 (x := .slice obT d.targets.length cbT) rfl
                have za := lt_of ka
                have zb := lt_of kb
                have HFW : Hid (∀ n, Below w.heap.size w (wr.drewN n)) := by rw [hwx]; exact fun n => below_dn (HFIN.out nz) n
                have HNW : Hid (∀ m, ∃ n, wr.drewN m = w7.drewN n) := by rw [hwx]; exact fun m => ⟨_, World.drewN_drewN _ _ _⟩
                have HWX := mkHid hwx
                clear hwx ka kb
                by_cases hlt : k < d.targets.length
                · have hlm : k < e.targets.length := by have := HLtargets.out; omega
                  obtain ⟨b, off, a1_, k1_, rfl, hb1, c0, su⟩ := HDy.out.T.atSl k hlt
                  obtain ⟨b2, off2, a2_, k2_, rfl, hb2, d0, sv⟩ := HEy.out.T.atSl k hlm
                  have HST := mkHid (eqL_step (eqL sameT) d.targets e.targets k hlt hlm)
                  have HSU := mkHid su
                  have HSV := mkHid sv
                  have hmx : d.targets[k].length ≤ maxLen := by
                    obtain ⟨_, _, e1, _, h, _⟩ := su
                    cases e1
                    exact h
                  unfold maxLen at hmx
                  clear su sv
                  generalize d.targets[k] = x at *
                  generalize e.targets[k] = y at *
                  have hk0 : (0 : Int) ≤ k := by omega
                  have hk1 : (k : Int) < d.targets.length := by omega
                  by_cases hxy : x.length = y.length
                  rotate_left
                  · have HQ' : Hid (sameRest d e = false) := HSR.out.trans (by rw [HQ.out, HST.out, eqL_len sameT x y hxy]; simp)
                    have hx' : ((x.length : Int) == y.length) = false := beq_eq_false_iff_ne.2 (by omega)
                    clear hxy
                    go_wp2
                    go_quiet (fail)
                    go_wp2
                    go_ret
                    exact ⟨by rw [HQ'.out]; rfl, HFW.out _⟩
                  have HLX := mkHid hxy
                  rw [← hxy] at d0 HSV
                  clear hxy
                  go_wp2
                  go_quiet (fail)
                  go_wp2
                  go_loopw [11] (fun i wx => ∃ j : Nat, j ≤ x.length ∧ i = .int .i64 j ∧ Hid (eqL sameT x y = eqL sameT (x.drop j) (y.drop j)) ∧ ∃ n, wx = wr.drewN n) (fun i _ => x.length - (intOf i).toNat)
                  case atStart => exact ⟨0, Nat.zero_le _, rfl, rfl, _, rfl⟩
                  case round =>
                    obtain ⟨j, hj, rfl, HJ, n2, rfl⟩ := hrel
                    by_cases hjt : j < x.length
                    · have hjy : j < y.length := by have := HLX.out; omega
                      obtain ⟨bx, ox, rfl, _, f0, f1⟩ := HSU.out.atT j hjt
                      obtain ⟨by_, oy, rfl, _, g0, g1⟩ := HSV.out.atT j hjy
                      have HSJ := mkHid (eqL_step sameT x y j hjt hjy)
                      have hj0 : (0 : Int) ≤ j := by omega
                      have hj1 : (j : Int) < x.length := by omega
                      have hne := targNeq x[j] y[j]
                      have hng := targNeqG
                      generalize x[j] = s at *
                      generalize y[j] = s' at *
                      cases hs : sameT s s' with
                      | true =>
                        have HJ' : Hid (eqL sameT x y = eqL sameT (x.drop (j + 1)) (y.drop (j + 1))) := HJ.out.trans (by rw [HSJ.out, hs, Bool.true_and])
                        go_wp2
                        go_quiet (fail)
                        go_wp2
                        go_roundw
                        case rel => exact ⟨j + 1, by omega, by go_num, HJ'.out, _, rfl⟩
                        case measure => simp [intOf]; omega
                      | false =>
                        have HQ' : Hid (sameRest d e = false) := HSR.out.trans (by rw [HQ.out, HST.out, HJ.out, HSJ.out, hs]; simp)
                        go_wp2
                        go_quiet (fail)
                        go_wp2
                        go_ret
                        exact ⟨by rw [HQ'.out]; rfl, below_dn (HFW.out n2) _⟩
                    · have HQ' : Hid (eqL (eqL sameT) d.targets e.targets = eqL (eqL sameT) (d.targets.drop (k + 1)) (e.targets.drop (k + 1))) := HQ.out.trans (by rw [HST.out, HJ.out, eqL_end sameT x y j hjt HLX.out, Bool.true_and])
                      go_wp2
                      go_roundw
                      case rel => exact ⟨k + 1, by omega, by go_num, HQ'.out, HNW.out n2⟩
                      case measure => simp [intOf]; omega
                · have HA4 : Hid (eqL (eqL sameT) d.targets e.targets = true) := HQ.out.trans (eqL_end (eqL sameT) _ _ k hlt HLtargets.out)
                  have HR : Hid (sameRest d e = true) := HSR.out.trans (by rw [HA1.out, HA2.out, HA3.out, HA4.out]; rfl)
                  go_wp2_with fail
                  go_ret
                  exact ⟨by rw [HR.out]; rfl, HFW.out 0⟩
end Go.Proofs.YtaekpdcnnkmahaaGreatDoor
