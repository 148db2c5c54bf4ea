/- May a method stand in for the one of its name above it: plain. -/
import Derived.Test.YtkhconnebiiboaaGreatDoorJLErrLEq
import Derived.Test.YtkhconnebiiboaaGreatDoorLNam
import Derived.Test.YtkhconnebiiboaaGreatDoorLQs
import Derived.Deep.RegionHeld3
namespace Go.Proofs.YtkhconnebiiboaaGreatDoor
open Go.RowKit

def meth0 : MethD := ⟨⟨#[]⟩, false, [], ⟨0, ⟨#[]⟩⟩, 0, 0, ⟨#[]⟩, []⟩
def methAt (l : List ClassD) (t : TargD) : MethD := ((clsAt l t.cls.toNat).meths[t.meth.toNat]?).getD meth0
/-- What stands for a name is a method. -/
def okT (l : List ClassD) (t : TargD) : Prop := ∃ c j : Nat, t = ⟨c, j⟩ ∧ c < l.length ∧ j < (clsAt l c).meths.length
def standB (l : List ClassD) (n : Nat) (m : MethD) : Bool :=
  if idxS (namesOf l n) m.name < 0 then true else
    match (targetsOf l n)[(idxS (namesOf l n) m.name).toNat]? with
    | none => true
    | some t => !m.static && !(methAt l t).static && sameK m.ret (methAt l t).ret && eqL sameK m.args (methAt l t).args
def askSame (l : List ClassD) : Bool := (List.range l.length).all fun i => decide ((clsAt l i).super = (⟨#[]⟩ : ByteArray)) || (clsAt l i).meths.all (standB l (supAt l i).toNat)

theorem tab_ok (l : List ClassD) (P : List (ByteArray × TargD)) : ∀ acc : List ByteArray × List TargD, (∀ t ∈ acc.2, okT l t) → (∀ x ∈ P, okT l x.2) → ∀ t ∈ (P.foldl tabStep acc).2, okT l t := by
  induction P with
  | nil => exact fun acc h _ => h
  | cons x P ih =>
    intro acc h hP
    refine ih (tabStep acc x) ?_ fun y hy => hP y (List.mem_cons_of_mem _ hy)
    have hx := hP x (List.mem_cons_self ..)
    unfold tabStep
    split
    · intro t ht
      rcases List.mem_or_eq_of_mem_set ht with h1 | h1
      · exact h t h1
      · rw [h1]; exact hx
    · intro t ht
      rcases List.mem_append.1 ht with h1 | h1
      · exact h t h1
      · rw [List.mem_singleton.1 h1]; exact hx
theorem targets_ok {l : List ClassD} {n : Nat} (hn : n < l.length) : ∀ t ∈ targetsOf l n, okT l t := by
  refine tab_ok l _ ([], []) (fun t h => by cases h) fun x hx => ?_
  obtain ⟨k, hk, hx⟩ := List.mem_flatMap.1 hx
  obtain ⟨p, hp, rfl⟩ := List.mem_map.1 hx
  refine ⟨k, p.2, rfl, line_lt hn k hk, ?_⟩
  have := List.mem_zipIdx hp
  omega
theorem table_len (l : List ClassD) (n : Nat) : (namesOf l n).length = (targetsOf l n).length := tab_len _ ([], []) rfl
theorem methAt_eq {l : List ClassD} {c j : Nat} (h : j < (clsAt l c).meths.length) : methAt l ⟨c, j⟩ = (clsAt l c).meths[j] := by simp [methAt, h]
theorem standB_no {l : List ClassD} {n : Nat} {m : MethD} (h : idxS (namesOf l n) m.name < 0) : standB l n m = true := if_pos h
theorem standB_at {l : List ClassD} {n k c j : Nat} {m : MethD} (h : idxS (namesOf l n) m.name = k) (hk : k < (targetsOf l n).length) (ht : (targetsOf l n)[k] = ⟨c, j⟩) (hj : j < (clsAt l c).meths.length) :
    standB l n m = (!m.static && !(clsAt l c).meths[j].static && sameK m.ret (clsAt l c).meths[j].ret && eqL sameK m.args (clsAt l c).meths[j].args) := by
  rw [standB, h, if_neg (by omega), Int.toNat_natCast, List.getElem?_eq_getElem hk, ht]
  show (!m.static && !(methAt l ⟨c, j⟩).static && sameK m.ret (methAt l ⟨c, j⟩).ret && eqL sameK m.args (methAt l ⟨c, j⟩).args) = _
  rw [methAt_eq hj]
end Go.Proofs.YtkhconnebiiboaaGreatDoor
/- The contracts of what asks whether names stand for the same. -/
namespace Go.Proofs.YtkhconnebiiboaaGreatDoor
open Go.RowKit Go.Maps

set_option maxRecDepth 100000 in
set_option maxHeartbeats 4000000 in
theorem mayStandIn_any (w : World) (B b : Nat) (l : List ClassD) (vC vS vF vN vT vL : Value) (Bm : Nat) (hw : Web B w b l vC vS vF vN vT vL Bm) (n : Nat) (hn : n < l.length) (u : Value) (m : MethD) (hu : ElM B w u m) :
    Calls Tryz.prog 127 #[.pointer (some ⟨b, 0, none⟩), .int .i64 n, u] w fun r w' => r = .returned (.bool (standB l n m)) ∧ Below w.heap.size w w' := by
  obtain ⟨ao, ca, ho, ch, rfl, ea, -, es1, -, -⟩ := hu
  have hle := hw.le
  have hlN : ((List.range l.length).map (namesOf l)).length = l.length := by simp
  have hlT : ((List.range l.length).map (targetsOf l)).length = l.length := by simp
  have c0 := hw.cell0
  have c3 := cell_of hw.blk 3 (x := vN) rfl
  have c4 := cell_of hw.blk 4 (x := vT) rfl
  have hbl := lt_of hw.blk
  have hsC := hw.sC
  obtain ⟨aC, cC, hvC, -⟩ := hw.sC
  obtain ⟨aN, cN, hvN, -⟩ := hw.sN
  obtain ⟨aT, cT, hvT, -⟩ := hw.sT
  rw [hlN] at hvN
  rw [hlT] at hvT
  subst hvC hvN hvT
  obtain ⟨bN, oN, aL, cL, rfl, hbN, e1, sL⟩ := hw.sN.atSl n (by omega)
  obtain ⟨bT, oT, aU, cU, rfl, hbT, e2, sU⟩ := hw.sT.atSl n (by omega)
  have g1 : ((List.range l.length).map (namesOf l))[n]'(by omega) = namesOf l n := by simp
  have g2 : ((List.range l.length).map (targetsOf l))[n]'(by omega) = targetsOf l n := by simp
  rw [g1] at e1 sL
  rw [g2] at e2 sU
  clear g1 g2 hlN hlT hw
  have h00 : (0 : Int) ≤ n := by omega
  have h01 : (n : Int) < l.length := by omega
  have HB0 : Hid (∀ o k, Below w.heap.size w ((w.alloc o).drewN k)) := fun o k => below_dn ((Below.refl w.heap.size w).alloc (Nat.le_refl _) o) k
  have HI : Hid (∀ o k, Calls Tryz.prog 106 #[.slice aL (namesOf l n).length cL, .string m.name] ((w.alloc o).drewN k) fun r w' => r = .returned (.int .i64 (idxS (namesOf l n) m.name)) ∧ w' = (w.alloc o).drewN k) := fun o k => indexStr_any _ (· < B) _ _ m.name (sL.keptS (Kp.below ((HB0.out o k).mono hle)))
  have hix := idxS_lt (namesOf l n) m.name
  have HTL := mkHid (table_len l n)
  by_cases hneg : idxS (namesOf l n) m.name < 0
  · have HR := mkHid (standB_no hneg)
    have hge : -1 ≤ idxS (namesOf l n) m.name := by unfold idxS; split <;> omega
    generalize idxS (namesOf l n) m.name = ix at *
    generalize (namesOf l n).length = nl at *
    clear ea sL sU e2 hix HTL
    go_enter Tryz.func127, Tryz.ntmps127
    go_wp2_with fail
    go_quiet (first | (go_at_call 106; exact Calls.quiet_of_same (HI.out _ _)))
    go_wp2_with fail
    go_ret
    exact ⟨by rw [HR.out]; rfl, HB0.out _ _⟩
  · obtain ⟨k, hk⟩ := Int.eq_ofNat_of_zero_le (by omega : 0 ≤ idxS (namesOf l n) m.name)
    have hkt : k < (targetsOf l n).length := by rw [← table_len l n]; omega
    obtain ⟨c, j, ht, hc, hj⟩ := targets_ok hn _ (List.getElem_mem hkt)
    have HR := mkHid (standB_at hk hkt ht hj)
    obtain ⟨bt, ot, rfl, hbt, t0, t1⟩ := sU.atT k hkt
    rw [ht] at t0 t1
    obtain ⟨bc, oc, vf, vm, rfl, hbc, -, -, -, d3, -, em, -, -⟩ := hsC.atC c hc
    rw [← clsAt_eq hc] at em
    have EM := mkHid em
    obtain ⟨mo, cm, rfl, -⟩ := em
    obtain ⟨by_, oy, va, vh, rfl, hby, y0, y1, y2, y3, y4, y5, y6, y7, y8, sa, sh, -, -, -⟩ := EM.out.atM j hj
    have HSA := mkHid sa
    obtain ⟨aa2, ca2, rfl, -⟩ := sa
    obtain ⟨ah2, ch2, rfl, -⟩ := sh
    have HEQ : Hid (∀ W, Below w.heap.size w W → Calls Tryz.prog 165 #[.slice ao m.args.length ca, .slice aa2 (clsAt l c).meths[j].args.length ca2] W fun r w' => r = .returned (.bool (eqL sameK m.args (clsAt l c).meths[j].args)) ∧ ∃ n, w' = W.drewN n) := fun W hW => equalK_any W (· < B) (· < B) _ _ _ _ (ea.keptK (Kp.below (hW.mono hle))) (HSA.out.keptK (Kp.below (hW.mono hle)))
    have hke := kindEql m.ret.kind (clsAt l c).meths[j].ret.kind m.ret.cls (clsAt l c).meths[j].ret.cls
    have hkg := kindGuard
    rw [sameK_eq] at hke
    have hcm : (0 : Int) ≤ j := by omega
    have hcm1 : (j : Int) < (clsAt l c).meths.length := by omega
    have hc0 : (0 : Int) ≤ c := by omega
    have hc1 : (c : Int) < l.length := by omega
    have hk0 : (0 : Int) ≤ k := by omega
    have hk1 : (k : Int) < (targetsOf l n).length := by omega
    have hkn : ¬ ((k : Int) < 0) := by omega
    have hB := mkHid (show ∀ x : Nat, w.heap.size ≤ w.heap.size + x from fun x => by omega)
    rw [hk] at HI
    clear sL sU ht ea EM HSA hsC hneg hk hix HTL hkt
    generalize (clsAt l c).meths[j] = y at *
    generalize (clsAt l c).meths.length = ml at *
    generalize (targetsOf l n).length = tl at *
    generalize (namesOf l n).length = nl at *
    generalize eqL sameK m.args y.args = ek at *
    have HKE : Hid (sameK (⟨m.ret.kind, m.ret.cls⟩ : KindD) ⟨y.ret.kind, y.ret.cls⟩ = sameK m.ret y.ret) := rfl
    rw [HKE.out] at hke
    clear HKE
    generalize sameK m.ret y.ret = er at *
    generalize m.static = sx at *
    generalize y.static = sy at *
    go_enter Tryz.func127, Tryz.ntmps127
    go_wp2_with fail
    go_quiet (first | (go_at_call 106; exact Calls.quiet_of_same (HI.out _ _)))
    go_wp2_with fail
    generalize hW5 : ((w.alloc (.cells #[.string m.name, .bool sx, .slice ao m.args.length ca, .int .i64 m.ret.kind, .string m.ret.cls, .int .i64 m.stack, .int .i64 m.locals, .string m.code, .slice ho m.hands.length ch] 72)).drewN nq).alloc (.cells #[.int .i64 c, .int .i64 j] 153) = W5
    have hB5 : Below w.heap.size w W5 := hW5 ▸ (HB0.out _ _).alloc (by show w.heap.size ≤ (w.alloc _).heap.size; simp) _
    have hX : W5.heap[w.heap.size]? = some (.cells #[.string m.name, .bool sx, .slice ao m.args.length ca, .int .i64 m.ret.kind, .string m.ret.cls, .int .i64 m.stack, .int .i64 m.locals, .string m.code, .slice ho m.hands.length ch] 72 (0, 0)) := by rw [← hW5]; exact (Below.heap_alloc _ _ _ (by show w.heap.size < (w.alloc _).heap.size; simp)).trans (heap_alloc_new w _)
    have hY : W5.heap[w.heap.size + 1]? = some (.cells #[.int .i64 c, .int .i64 j] 153 (0, 0)) := by
      have := heap_alloc_new ((w.alloc (.cells #[.string m.name, .bool sx, .slice ao m.args.length ca, .int .i64 m.ret.kind, .string m.ret.cls, .int .i64 m.stack, .int .i64 m.locals, .string m.code, .slice ho m.hands.length ch] 72)).drewN nq) (.cells #[.int .i64 c, .int .i64 j] 153)
      rw [hW5] at this
      have e : ((w.alloc (.cells #[.string m.name, .bool sx, .slice ao m.args.length ca, .int .i64 m.ret.kind, .string m.ret.cls, .int .i64 m.stack, .int .i64 m.locals, .string m.code, .slice ho m.hands.length ch] 72)).drewN nq).heap.size = w.heap.size + 1 := by show (w.alloc _).heap.size = _; simp
      rwa [e] at this
    clear hW5
    have x1 := cell_of hX 1 (x := .bool sx) rfl
    have x2 := cell_of hX 2 (x := .slice ao m.args.length ca) rfl
    have x3 := cell_of hX 3 (x := .int .i64 m.ret.kind) rfl
    have x4 := cell_of hX 4 (x := .string m.ret.cls) rfl
    have u0 := cell_of hY 0 (x := .int .i64 c) rfl
    have u1 := cell_of hY 1 (x := .int .i64 j) rfl
    have lX := lt_of hX
    have lY := lt_of hY
    have q0 := (hB5.cell (p := ⟨b, 0, none⟩) hbl).trans c0
    have q3 := (hB5.cell (p := ⟨bc, oc + c * 4 + 3, none⟩) hbc).trans d3
    have z0 := (hB5.cell (p := ⟨by_, oy + j * 9, none⟩) hby).trans y0
    have z1 := (hB5.cell (p := ⟨by_, oy + j * 9 + 1, none⟩) hby).trans y1
    have z2 := (hB5.cell (p := ⟨by_, oy + j * 9 + 2, none⟩) hby).trans y2
    have z3 := (hB5.cell (p := ⟨by_, oy + j * 9 + 3, none⟩) hby).trans y3
    have z4 := (hB5.cell (p := ⟨by_, oy + j * 9 + 4, none⟩) hby).trans y4
    have z5 := (hB5.cell (p := ⟨by_, oy + j * 9 + 5, none⟩) hby).trans y5
    have z6 := (hB5.cell (p := ⟨by_, oy + j * 9 + 6, none⟩) hby).trans y6
    have z7 := (hB5.cell (p := ⟨by_, oy + j * 9 + 7, none⟩) hby).trans y7
    have z8 := (hB5.cell (p := ⟨by_, oy + j * 9 + 8, none⟩) hby).trans y8
    have lb : b < W5.heap.size := Nat.lt_of_lt_of_le hbl hB5.size
    have lc : bc < W5.heap.size := Nat.lt_of_lt_of_le hbc hB5.size
    have ly : by_ < W5.heap.size := Nat.lt_of_lt_of_le hby hB5.size
    have HB5 := mkHid hB5
    clear hX hY hB5 y0 y1 y2 y3 y4 y5 y6 y7 y8 d3 c0 c3 c4 e1 e2 t0 t1 hbl hbN hbT hbt hbc hby HI HB0 hB
    go_region_held3 (fun W' => ∀ p : Addr, p.block < W5.heap.size → W'.cell? p = W5.cell? p) (exact fun p hp => Below.cell (B := W5.heap.size) (w := W5) (by repeat (first | exact Below.refl _ _ | refine Below.drew ?_ | refine Below.alloc ?_ (by simp <;> omega) _ | refine Below.setCell ?_ (by simp) _)) hp) (fail)
    have HB6 : Hid (∀ o q, Below w.heap.size w ((W5.alloc o).drewN q)) := fun o q => below_dn (HB5.out.alloc HB5.out.size o) q
    have HE6 : Hid (∀ o, Calls Tryz.prog 165 #[.slice ao m.args.length ca, .slice aa2 y.args.length ca2] (W5.alloc o).drew fun r w' => r = .returned (.bool ek) ∧ ∃ n, w' = (W5.alloc o).drewN n) := fun o => (HEQ.out (W5.alloc o).drew (HB6.out o 1)).mono fun _ _ ⟨h, n, e⟩ => ⟨h, 1 + n, by rw [e]; simp [World.drewN, World.drew, Nat.add_assoc]⟩
    clear HEQ HB5
    rename_i hS1
    clear hS1
    cases sx with
    | true =>
      go_wp2_with fail
      go_ret
      exact ⟨by rw [HR.out]; rfl, HB6.out _ 1⟩
    | false =>
      cases sy with
      | true =>
        go_wp2_with fail
        go_ret
        exact ⟨by rw [HR.out]; rfl, HB6.out _ 1⟩
      | false =>
        cases er with
        | false =>
          go_wp2_with fail
          go_ret
          exact ⟨by rw [HR.out]; rfl, HB6.out _ 1⟩
        | true =>
          go_wp2_with (go_at_call 165; refine (HE6.out _).mono ?_; rintro r w9 ⟨rfl, n9, rfl⟩)
          go_ret
          exact ⟨by rw [HR.out]; simp, HB6.out _ n9⟩

set_option maxRecDepth 100000 in
set_option maxHeartbeats 2000000 in
theorem standIn1_any (w : World) (B b P I : Nat) (l : List ClassD) (vC vS vF vN vT vL : Value) (Bm : Nat) (hw : Web B w b l vC vS vF vN vT vL Bm) (i n : Nat) (hi : i < l.length) (hs : supAt l i = n) (u : Value) (m : MethD) (hu : ElM B w u m)
    (hP : w.cell? ⟨P, 0, none⟩ = some (.pointer (some ⟨b, 0, none⟩))) (hI : w.cell? ⟨I, 0, none⟩ = some (.int .i64 i)) :
    Calls Tryz.prog 126 #[u, .pointer (some ⟨P, 0, none⟩), .pointer (some ⟨I, 0, none⟩)] w fun r w' => r = .returned (.bool (standB l n m)) ∧ Below w.heap.size w w' := by
  have hPl := World.block_lt_of_cell? w _ hP
  have hIl := World.block_lt_of_cell? w _ hI
  have hn : n < l.length := by have := (num_le l (clsAt l i).super).2; have e : supAt l i = num l (clsAt l i).super := rfl; omega
  have hbl := lt_of hw.blk
  have c1 := cell_of hw.blk 1 (x := vS) rfl
  have hlS : ((List.range l.length).map (supAt l)).length = l.length := by simp
  have HM : Hid (∀ W, Below w.heap.size w W → Calls Tryz.prog 127 #[.pointer (some ⟨b, 0, none⟩), .int .i64 n, u] W fun r w' => r = .returned (.bool (standB l n m)) ∧ Below W.heap.size W w') := fun W hW => mayStandIn_any W B b l vC vS vF vN vT vL Bm (hw.below (hW.mono hw.le)) n hn u m (hu.below (hW.mono hw.le))
  obtain ⟨aS, cS, hvS, -⟩ := hw.sS
  rw [hlS] at hvS
  subst hvS
  obtain ⟨bS, oS, rfl, hbS, e1⟩ := hw.sS.atI i (by omega)
  have g1 : ((List.range l.length).map (supAt l))[i]'(by omega) = supAt l i := by simp
  rw [g1, hs] at e1
  obtain ⟨ao, ca, ho, ch, rfl, -⟩ := hu
  have h00 : (0 : Int) ≤ i := by omega
  have h01 : (i : Int) < l.length := by omega
  clear hw hlS g1 hs hn
  generalize hV : standB l n m = rv at *
  clear hV
  go_enter Tryz.func126, Tryz.ntmps126
  go_wp2_with fail
  obtain ⟨W0, hW⟩ : ∃ W0, W0 = w.alloc (.cells #[.string m.name, .bool m.static, .slice ao m.args.length ca, .int .i64 m.ret.kind, .string m.ret.cls, .int .i64 m.stack, .int .i64 m.locals, .string m.code, .slice ho m.hands.length ch] 72) := ⟨_, rfl⟩
  have hB1 : Below w.heap.size w W0 := hW ▸ (Below.refl w.heap.size w).alloc (Nat.le_refl _) _
  have hX : W0.heap[w.heap.size]? = some (.cells #[.string m.name, .bool m.static, .slice ao m.args.length ca, .int .i64 m.ret.kind, .string m.ret.cls, .int .i64 m.stack, .int .i64 m.locals, .string m.code, .slice ho m.hands.length ch] 72 (0, 0)) := hW ▸ heap_alloc_new w _
  rw [← hW]
  clear hW
  have hne : Nonempty (Gr W0.heap.size W0) := ⟨⟨W0, Below.refl _ _⟩⟩
  have HCX : Hid (∀ g : Gr W0.heap.size W0, Calls Tryz.prog 127 #[.pointer (some ⟨b, 0, none⟩), .int .i64 n, .agg #[.string m.name, .bool m.static, .slice ao m.args.length ca, .int .i64 m.ret.kind, .string m.ret.cls, .int .i64 m.stack, .int .i64 m.locals, .string m.code, .slice ho m.hands.length ch]] g.w fun e w'' => e = .returned (.bool rv) ∧ ∃ g' : Gr W0.heap.size W0, w'' = g'.w) := fun g => Gr.calls g (Nat.le_refl _) (HM.out g.w (hB1.trans (g.ok.mono hB1.size)))
  have HBG : Hid (∀ g : Gr W0.heap.size W0, Below w.heap.size w g.w) := fun g => hB1.trans (g.ok.mono hB1.size)
  have k0 : ∀ g : Gr W0.heap.size W0, g.w.cell? ⟨w.heap.size, 0, none⟩ = some (.string m.name) := fun g => (g.ok.cell (p := ⟨w.heap.size, 0, none⟩) (lt_of hX)).trans (cell_of hX 0 rfl)
  have k1 : ∀ g : Gr W0.heap.size W0, g.w.cell? ⟨w.heap.size, 1, none⟩ = some (.bool m.static) := fun g => (g.ok.cell (p := ⟨w.heap.size, 1, none⟩) (lt_of hX)).trans (cell_of hX 1 rfl)
  have k2 : ∀ g : Gr W0.heap.size W0, g.w.cell? ⟨w.heap.size, 2, none⟩ = some (.slice ao m.args.length ca) := fun g => (g.ok.cell (p := ⟨w.heap.size, 2, none⟩) (lt_of hX)).trans (cell_of hX 2 rfl)
  have k3 : ∀ g : Gr W0.heap.size W0, g.w.cell? ⟨w.heap.size, 3, none⟩ = some (.int .i64 m.ret.kind) := fun g => (g.ok.cell (p := ⟨w.heap.size, 3, none⟩) (lt_of hX)).trans (cell_of hX 3 rfl)
  have k4 : ∀ g : Gr W0.heap.size W0, g.w.cell? ⟨w.heap.size, 4, none⟩ = some (.string m.ret.cls) := fun g => (g.ok.cell (p := ⟨w.heap.size, 4, none⟩) (lt_of hX)).trans (cell_of hX 4 rfl)
  have k5 : ∀ g : Gr W0.heap.size W0, g.w.cell? ⟨w.heap.size, 5, none⟩ = some (.int .i64 m.stack) := fun g => (g.ok.cell (p := ⟨w.heap.size, 5, none⟩) (lt_of hX)).trans (cell_of hX 5 rfl)
  have k6 : ∀ g : Gr W0.heap.size W0, g.w.cell? ⟨w.heap.size, 6, none⟩ = some (.int .i64 m.locals) := fun g => (g.ok.cell (p := ⟨w.heap.size, 6, none⟩) (lt_of hX)).trans (cell_of hX 6 rfl)
  have k7 : ∀ g : Gr W0.heap.size W0, g.w.cell? ⟨w.heap.size, 7, none⟩ = some (.string m.code) := fun g => (g.ok.cell (p := ⟨w.heap.size, 7, none⟩) (lt_of hX)).trans (cell_of hX 7 rfl)
  have k8 : ∀ g : Gr W0.heap.size W0, g.w.cell? ⟨w.heap.size, 8, none⟩ = some (.slice ho m.hands.length ch) := fun g => (g.ok.cell (p := ⟨w.heap.size, 8, none⟩) (lt_of hX)).trans (cell_of hX 8 rfl)
  have kP : ∀ g : Gr W0.heap.size W0, g.w.cell? ⟨P, 0, none⟩ = some (.pointer (some ⟨b, 0, none⟩)) := fun g => ((HBG.out g).cell (p := ⟨P, 0, none⟩) hPl).trans hP
  have kI : ∀ g : Gr W0.heap.size W0, g.w.cell? ⟨I, 0, none⟩ = some (.int .i64 i) := fun g => ((HBG.out g).cell (p := ⟨I, 0, none⟩) hIl).trans hI
  have kb : ∀ g : Gr W0.heap.size W0, g.w.cell? ⟨b, 1, none⟩ = some (.slice (some ⟨bS, oS, none⟩) l.length cS) := fun g => ((HBG.out g).cell (p := ⟨b, 1, none⟩) hbl).trans c1
  have kS : ∀ g : Gr W0.heap.size W0, g.w.cell? ⟨bS, oS + i, none⟩ = some (.int .i64 n) := fun g => ((HBG.out g).cell (p := ⟨bS, oS + i, none⟩) hbS).trans e1
  clear HM hX hB1 hP hI c1 e1
  refine wp_region_grow_lit W0.heap.size W0 (by kernel_rfl) (by kernel_rfl) (Below.refl _ _) ?_
  repeat (go_big_quiet_step (first | (exact HCX.out _)))
  refine wpQuiet_nil ?_
  intro _ hw'
  obtain ⟨g, rfl⟩ := hw'
  have HFIN := mkHid (HBG.out g)
  generalize g.w = w2 at *
  clear k0 k1 k2 k3 k4 k5 k6 k7 k8 kP kI kb kS hne HCX HBG
  go_wp2_with fail
  go_ret
  exact ⟨rfl, HFIN.out⟩

set_option maxRecDepth 100000 in
set_option maxHeartbeats 2000000 in
theorem namesStand_any (w : World) (B b : Nat) (l : List ClassD) (vC vS vF vN vT vL : Value) (Bm : Nat) (hw : Web B w b l vC vS vF vN vT vL Bm) (hsu : askSupers l = true) :
    Calls Tryz.prog 78 #[.pointer (some ⟨b, 0, none⟩)] w fun r w' => r = .returned (.bool (askSame l)) ∧ Below w.heap.size w w' := by
  have hmf : ∀ (fn : Fn) (first cap : Array Value) (w : World), (Instr.makeFunc fn first cap).run Tryz.prog w = .ok (.func fn first cap) w := fun _ _ _ _ => rfl
  have c0 := hw.cell0
  have hbl := lt_of hw.blk
  have hle := hw.le
  have HW := mkHid hw
  have HV := mkHid hw.sC
  have HSU := mkHid hsu
  obtain ⟨ao, cl, rfl, -, hll, -⟩ := hw.sC
  unfold maxLen at hll
  have HB0 := mkHid (fun o => (Below.refl w.heap.size w).alloc (Nat.le_refl _) o)
  clear hw hsu
  let step : Nat → Bool := fun i => decide ((clsAt l i).super = (⟨#[]⟩ : ByteArray)) || (clsAt l i).meths.all (standB l (supAt l i).toNat)
  have HST : Hid (askSame l = (List.range l.length).all step) := rfl
  go_enter Tryz.func78, Tryz.ntmps78
  go_wp2_with fail
  obtain ⟨W0, hW⟩ : ∃ W0, W0 = w.alloc (.cells #[.pointer (some ⟨b, 0, none⟩)] 52) := ⟨_, rfl⟩
  have HB1 : Hid (Below w.heap.size w W0) := hW ▸ HB0.out _
  have hP0 : W0.cell? ⟨w.heap.size, 0, none⟩ = some (.pointer (some ⟨b, 0, none⟩)) := by rw [hW]; simp [go_sem]
  have hPl : w.heap.size < W0.heap.size := World.block_lt_of_cell? W0 _ hP0
  rw [← hW]
  clear hW HB0
  go_loopw [11] (fun i wr => ∃ k : Nat, k ≤ l.length ∧ i = .int .i64 k ∧ Hid ((∀ j, j < k → step j = true) ∧ Below W0.heap.size W0 wr)) (fun i _ => l.length - (intOf i).toNat)
  case atStart => exact ⟨0, Nat.zero_le _, rfl, (fun _ h => by omega), Below.refl _ _⟩
  case round =>
    obtain ⟨k, hk, rfl, HQ⟩ := hrel
    have hsr : W0.heap.size ≤ wr.heap.size := HQ.out.2.size
    have HBw : Hid (Below w.heap.size w wr) := HB1.out.trans (HQ.out.2.mono HB1.out.size)
    by_cases hlt : k < l.length
    · obtain ⟨bc, oc, vf, vm, rfl, hbc, e0, e1, e2, e3, ef, em, es1, es2⟩ := (HV.out.keptC (Kp.below (HBw.out.mono hle))).atC k hlt
      have EM := mkHid em
      obtain ⟨fo, cf, rfl, -⟩ := ef
      obtain ⟨mo, cm, rfl, -⟩ := em
      have HSP : Hid (step k = (decide (l[k].super = (⟨#[]⟩ : ByteArray)) || l[k].meths.all (standB l (supAt l k).toNat))) := by show step k = _; simp only [step, clsAt_eq hlt]
      have h00 : (0 : Int) ≤ k := by omega
      have h01 : (k : Int) < l.length := by omega
      have HUP : Hid (step k = true → ∀ w', Below wr.heap.size wr w' → (∀ j, j < k + 1 → step j = true) ∧ Below W0.heap.size W0 w') := fun h w' hb => ⟨fun j hj => by
        by_cases hjk : j < k
        · exact HQ.out.1 j hjk
        · have : j = k := by omega
          rw [this]; exact h, HQ.out.2.trans (hb.mono hsr)⟩
      have HNO : Hid (step k = false → ∀ w', Below wr.heap.size wr w' → askSame l = false ∧ Below w.heap.size w w') := fun h w' hb => ⟨by
        rw [HST.out, List.all_eq_false]
        exact ⟨k, List.mem_range.2 hlt, by simp [h]⟩, HBw.out.trans (hb.mono (Nat.le_trans HB1.out.size hsr))⟩
      have hBr : Hid (∀ o o', Below wr.heap.size wr ((wr.alloc o).alloc o')) := fun o o' => ((Below.refl _ _).alloc (Nat.le_refl _) o).alloc (by simp) o'
      have hP0r : wr.cell? ⟨w.heap.size, 0, none⟩ = some (.pointer (some ⟨b, 0, none⟩)) := (HQ.out.2.cell (p := ⟨w.heap.size, 0, none⟩) hPl).trans hP0
      by_cases hse : l[k].super = ⟨#[]⟩
      · have hse' := nil_tl hse
        have HR := mkHid (HUP.out (by rw [HSP.out]; simp [hse]))
        clear hse HSP HUP HNO es1 es2
        go_wp2_with fail
        go_roundw
        case rel => exact ⟨k + 1, by omega, by go_num, HR.out _ (hBr.out _ _)⟩
        case measure => simp [intOf]; omega
      · have hse' : l[k].super.toList.isEmpty = false := by
          cases hq : l[k].super.toList with
          | nil => exact absurd (tl_nil hq) hse
          | cons _ _ => rfl
        obtain ⟨n, hn⟩ : ∃ n : Nat, supAt l k = n := by
          have h1 := List.all_eq_true.1 HSU.out l[k] (List.getElem_mem hlt)
          have h2 : hasC l l[k].super = true := by simpa [hse] using h1
          have h3 : 0 ≤ supAt l k := by rw [supAt, clsAt_eq hlt]; simpa [hasC] using h2
          exact ⟨(supAt l k).toNat, by omega⟩
        have HSP' : Hid (step k = l[k].meths.all (standB l n)) := by
          show step k = _
          rw [HSP.out, hn]
          simp [hse]
        have HEV : Hid (∀ o o', Calls Tryz.prog 117 #[.slice mo l[k].meths.length cm, .func (.func 126) #[] #[.pointer (some ⟨w.heap.size, 0, none⟩), .pointer (some ⟨wr.heap.size, 0, none⟩)]] ((wr.alloc (.cells #[.int .i64 k] o)).alloc o') fun r w' => r = .returned (.bool (l[k].meths.all (standB l n))) ∧ Below ((wr.alloc (.cells #[.int .i64 k] o)).alloc o').heap.size ((wr.alloc (.cells #[.int .i64 k] o)).alloc o') w') := fun o o' => by
          have hb2 := hBr.out (.cells #[.int .i64 k] o) o'
          have hbB : Below B w ((wr.alloc (.cells #[.int .i64 k] o)).alloc o') := (HBw.out.mono hle).trans (hb2.mono (Nat.le_trans hle HBw.out.size))
          refine everyM_any _ B _ l[k].meths (EM.out.keptM (Kp.below (hb2.mono (Nat.le_trans hle HBw.out.size)))) (Nat.le_trans hle hbB.size) 126 #[] _ (standB l n) (fun args w => by kernel_rfl) ?_
          intro x _ u W hW hu
          have hIc : ((wr.alloc (.cells #[.int .i64 k] o)).alloc o').cell? ⟨wr.heap.size, 0, none⟩ = some (.int .i64 k) := by
            refine (World.cell?_alloc_past _ _ _ (by simp)).trans ?_
            simp [go_sem]
          exact standIn1_any W B b w.heap.size wr.heap.size l _ vS vF vN vT vL Bm (HW.out.below (hbB.trans (hW.mono (Nat.le_trans hle hbB.size)))) k n hlt hn u x hu
            ((hW.cell (p := ⟨w.heap.size, 0, none⟩) (by simp; omega)).trans ((hb2.cell (p := ⟨w.heap.size, 0, none⟩) (Nat.lt_of_lt_of_le hPl hsr)).trans hP0r)) ((hW.cell (p := ⟨wr.heap.size, 0, none⟩) (by simp; omega)).trans hIc)
        clear hse HSP es1 es2 hn EM
        generalize l[k].meths.all (standB l n) = rv at *
        cases rv with
        | true =>
          have HR := mkHid (HUP.out HSP'.out)
          go_wp2_with (go_at_call 117; refine (HEV.out _ _).mono ?_; rintro r w9 ⟨rfl, hb9⟩)
          have HR9 := mkHid (HR.out w9 ((hBr.out _ _).trans (hb9.mono (hBr.out _ _).size)))
          clear hb9
          go_wp2_with fail
          go_roundw
          case rel => exact ⟨k + 1, by omega, by go_num, HR9.out⟩
          case measure => simp [intOf]; omega
        | false =>
          have HR := mkHid (HNO.out HSP'.out)
          go_wp2_with (go_at_call 117; refine (HEV.out _ _).mono ?_; rintro r w9 ⟨rfl, hb9⟩)
          have HR9 := mkHid (HR.out w9 ((hBr.out _ _).trans (hb9.mono (hBr.out _ _).size)))
          clear hb9
          go_wp2_with fail
          go_ret
          exact ⟨by rw [HR9.out.1]; rfl, HR9.out.2⟩
    · have HR : Hid (askSame l = true) := by
        show askSame l = true
        rw [HST.out, List.all_eq_true]
        exact fun j hj => HQ.out.1 j (by have := List.mem_range.1 hj; omega)
      go_wp2_with fail
      go_ret
      exact ⟨by rw [HR.out]; rfl, HBw.out⟩
end Go.Proofs.YtkhconnebiiboaaGreatDoor
