/- What is asked after classes that are to hang together: all but two questions. -/
import Derived.Test.YtkpklkhkhhlifabGreatJLEvLHas
import Derived.Laws.StructEq
namespace Go.Proofs.YtkpklkhkhhlifabGreat
open Go.RowKit Go.Maps

theorem below_dn {B : Nat} {w w' : World} (h : Below B w w') (n : Nat) : Below B w (w'.drewN n) := ⟨h.os, h.tape, h.output, h.size, h.block⟩
theorem Web.nums {B : Nat} {w : World} {b : Nat} {l : List ClassD} {vC vS vF vN vT vL : Value} {Bm : Nat} (h : Web B w b l vC vS vF vN vT vL Bm) : Nums w b l := ⟨Bm, cell_of h.blk 5 rfl, h.nm⟩
theorem Web.cell0 {B : Nat} {w : World} {b : Nat} {l : List ClassD} {vC vS vF vN vT vL : Value} {Bm : Nat} (h : Web B w b l vC vS vF vN vT vL Bm) : w.cell? ⟨b, 0, none⟩ = some vC := cell_of h.blk 0 rfl

set_option maxHeartbeats 1000000 in
theorem namesDiffer_any (w : World) (B b : Nat) (l : List ClassD) (vC vS vF vN vT vL : Value) (Bm : Nat) (hw : Web B w b l vC vS vF vN vT vL Bm) :
    Calls Tryz.prog 73 #[.pointer (some ⟨b, 0, none⟩)] w fun r w' => r = .returned (.bool (askNames l)) ∧ Below w.heap.size w w' := by
  have c0 := hw.cell0
  have c5 := cell_of hw.blk 5 (x := .map (some Bm)) rfl
  obtain ⟨ao, cl, rfl, -, hll, -⟩ := hw.sC
  obtain ⟨D, hown, hD⟩ := hw.nm
  have hlen : ∀ n ty, (Builtin.len_ #[70] ty #[.map (some Bm)]).run Tryz.prog (w.drewN n) = .ok (.int .i64 (Maps.size D)) (w.drewN n) := fun n ty => World.ownsMap.len (w := w.drewN n) hown Tryz.underlying70 ty
  have HR : Hid (((Maps.size D : Int) == (l.length : Int)) = askNames l) := by
    show ((Maps.size D : Int) == (l.length : Int)) = askNames l
    rw [Bool.eq_iff_iff, ← hD.eq, beq_iff_eq]
    constructor <;> intro h <;> omega
  clear hD hown hw
  unfold maxLen at hll
  go_enter Tryz.func73, Tryz.ntmps73
  go_wp2_with fail
  go_quiet (fail)
  go_wp2_with fail
  go_ret
  exact ⟨by rw [← HR.out]; rfl, below_dn (Below.refl _ _) _⟩

theorem two_S (w : World) (s s' : ByteArray) (t : Nat) (hs : s.size ≤ maxLen) (hs' : s'.size ≤ maxLen) : SL 1 RS (· < w.heap.size + 1) (w.alloc (.cells #[.string s, .string s'] t)) (.slice (some ⟨w.heap.size, 0, none⟩) 2 2) [s, s'] := by
  refine ⟨some ⟨w.heap.size, 0, none⟩, 2, rfl, Nat.le_refl _, by unfold maxLen; simp, fun k hk => ?_⟩
  have hk2 : k < 2 := by simpa using hk
  rcases (by omega : k = 0 ∨ k = 1) with rfl | rfl
  · refine ⟨w.heap.size, 0, [.string s], rfl, by simp, by simp, rfl, fun j hj => ?_, rfl, hs⟩
    have : j = 0 := by omega
    subst this
    simp [go_sem]
  · refine ⟨w.heap.size, 0, [.string s'], rfl, by simp, by simp, rfl, fun j hj => ?_, rfl, hs'⟩
    have : j = 0 := by omega
    subst this
    simp [go_sem]
set_option maxHeartbeats 1000000 in
theorem hasTopAndError_any (w : World) (B b : Nat) (l : List ClassD) (vC vS vF vN vT vL : Value) (Bm : Nat) (hw : Web B w b l vC vS vF vN vT vL Bm) :
    Calls Tryz.prog 74 #[.pointer (some ⟨b, 0, none⟩)] w fun r w' => r = .returned (.bool (askTop l)) ∧ Below w.heap.size w w' := by
  have HN := mkHid hw.nums
  have HB0 := mkHid (fun o => (Below.refl w.heap.size w).alloc (Nat.le_refl _) o)
  go_enter Tryz.func74, Tryz.ntmps74
  go_wp2_with fail
  have hB1 := HB0.out (.cells #[.string topName, .string errName] 9)
  refine (has_any _ b (w.heap.size + 1) l _ [topName, errName] (HN.out.below hB1) (two_S w topName errName _ (by decide) (by decide)) (by simp)).mono ?_
  rintro r w1 ⟨rfl, hb⟩
  have hB2 := hB1.trans (hb.mono (by simp))
  clear hb hB1
  go_wp2_with fail
  go_ret
  exact ⟨by simp [askTop], hB2⟩

theorem top_tl : topName.toList = [79, 98, 106, 101, 99, 116] := by rw [ByteArray.toList_eq]; rfl
def upperB (c : ClassD) : Bool := (decide (c.name = topName)) == (decide (c.super = (⟨#[]⟩ : ByteArray)))
set_option maxHeartbeats 1000000 in
theorem topAlone1_any (w : World) (B : Nat) (c : ClassD) (u : Value) (hu : ElC B w u c) :
    Calls Tryz.prog 102 #[u] w fun r w' => r = .returned (.bool (upperB c)) ∧ Below w.heap.size w w' := by
  obtain ⟨fo, cf, mo, cm, rfl, -, -, -, -⟩ := hu
  have HB0 := mkHid (fun o => (Below.refl w.heap.size w).alloc (Nat.le_refl _) o)
  by_cases h1 : c.name = topName
  · have t1 : c.name.toList = [79, 98, 106, 101, 99, 116] := by rw [h1]; exact top_tl
    by_cases h2 : c.super = ⟨#[]⟩
    · have t2 := nil_tl h2
      have HR : Hid (upperB c = true) := by show upperB c = true; simp [upperB, h1, h2]
      clear h1 h2
      go_enter Tryz.func102, Tryz.ntmps102
      go_wp2_with fail
      go_ret
      exact ⟨by rw [HR.out]; simp, HB0.out _⟩
    · have t2 : ¬ c.super.toList = [] := fun e => h2 (tl_nil e)
      have HR : Hid (upperB c = false) := by show upperB c = false; simp [upperB, h1, h2]
      clear h1 h2
      go_enter Tryz.func102, Tryz.ntmps102
      go_wp2_with fail
      go_ret
      exact ⟨by rw [HR.out]; simp [t2], HB0.out _⟩
  · have t1 : ¬ c.name.toList = [79, 98, 106, 101, 99, 116] := fun e => h1 (tl_inj (e.trans top_tl.symm))
    by_cases h2 : c.super = ⟨#[]⟩
    · have t2 := nil_tl h2
      have HR : Hid (upperB c = false) := by show upperB c = false; simp [upperB, h1, h2]
      clear h1 h2
      go_enter Tryz.func102, Tryz.ntmps102
      go_wp2_with fail
      go_ret
      exact ⟨by rw [HR.out]; simp [t1], HB0.out _⟩
    · have t2 : ¬ c.super.toList = [] := fun e => h2 (tl_nil e)
      have HR : Hid (upperB c = true) := by show upperB c = true; simp [upperB, h1, h2]
      clear h1 h2
      go_enter Tryz.func102, Tryz.ntmps102
      go_wp2_with fail
      go_ret
      exact ⟨by rw [HR.out]; simp; rw [beq_eq_false_iff_ne.2 t1]; (cases hh : c.super.toList with | nil => exact absurd hh t2 | cons _ _ => rfl), HB0.out _⟩
set_option maxHeartbeats 1000000 in
theorem topAlone_any (w : World) (B b : Nat) (l : List ClassD) (vC vS vF vN vT vL : Value) (Bm : Nat) (hw : Web B w b l vC vS vF vN vT vL Bm) :
    Calls Tryz.prog 75 #[.pointer (some ⟨b, 0, none⟩)] w fun r w' => r = .returned (.bool (askUpper l)) ∧ Below w.heap.size w w' := by
  have c0 := hw.cell0
  have HV := mkHid hw.sC
  have hle := hw.le
  obtain ⟨ao, cl, rfl, -⟩ := hw.sC
  clear hw
  go_enter Tryz.func75, Tryz.ntmps75
  go_wp2_with fail
  refine (everyC_any _ B _ l HV.out hle 102 #[] #[] upperB (fun args w => by kernel_rfl) ?_).mono ?_
  · intro x _ u W _ hu
    exact topAlone1_any W B x u hu
  rintro r w1 ⟨rfl, hb⟩
  go_wp2_with fail
  go_ret
  exact ⟨rfl, hb⟩

def superB (l : List ClassD) (c : ClassD) : Bool := decide (c.super = (⟨#[]⟩ : ByteArray)) || hasC l c.super
set_option maxHeartbeats 1000000 in
theorem supers1_any (w : World) (B b P : Nat) (l : List ClassD) (c : ClassD) (u : Value) (hu : ElC B w u c) (hN : Nums w b l) (hP : w.cell? ⟨P, 0, none⟩ = some (.pointer (some ⟨b, 0, none⟩))) :
    Calls Tryz.prog 103 #[u, .pointer (some ⟨P, 0, none⟩)] w fun r w' => r = .returned (.bool (superB l c)) ∧ Below w.heap.size w w' := by
  obtain ⟨fo, cf, mo, cm, rfl, -, -, -, hs⟩ := hu
  have hPl := World.block_lt_of_cell? w _ hP
  have HN := mkHid hN
  have HB0 := mkHid (fun o => (Below.refl w.heap.size w).alloc (Nat.le_refl _) o)
  clear hN
  by_cases h : c.super = ⟨#[]⟩
  · have HK : Hid (superB l c = true) := by show superB l c = true; simp [superB, h]
    have h' := nil_tl h
    clear h hs
    go_enter Tryz.func103, Tryz.ntmps103
    go_wp2_with fail
    go_ret
    exact ⟨by rw [HK.out]; rfl, HB0.out _⟩
  · have HK : Hid (superB l c = hasC l c.super) := by show superB l c = _; simp [superB, h]
    have h' : ¬ c.super.toList = [] := fun e => h (tl_nil e)
    have HS := mkHid hs
    clear h hs
    go_enter Tryz.func103, Tryz.ntmps103
    go_wp2_with fail
    have hB1 := HB0.out (.cells #[.string c.name, .string c.super, .slice fo c.fields.length cf, .slice mo c.meths.length cm] 57)
    have hB2 := hB1.alloc hB1.size (.cells #[.string c.super] 9)
    refine (has_any _ b (w.heap.size + 1 + 1) l _ [c.super] (HN.out.below hB2) (one_S _ c.super _ (w.heap.size + 1) HS.out (by simp)) (by simp)).mono ?_
    rintro r w1 ⟨rfl, hb⟩
    have hB3 := hB2.trans (hb.mono (by simp; omega))
    clear hb hB1 hB2
    go_wp2_with fail
    go_ret
    exact ⟨by rw [HK.out]; simp [h'], hB3⟩
set_option maxHeartbeats 1000000 in
theorem supersAreKnown_any (w : World) (B b : Nat) (l : List ClassD) (vC vS vF vN vT vL : Value) (Bm : Nat) (hw : Web B w b l vC vS vF vN vT vL Bm) :
    Calls Tryz.prog 76 #[.pointer (some ⟨b, 0, none⟩)] w fun r w' => r = .returned (.bool (askSupers l)) ∧ Below w.heap.size w w' := by
  have hmf : ∀ (fn : Fn) (first cap : Array Value) (w : World), (Instr.makeFunc fn first cap).run Tryz.prog w = .ok (.func fn first cap) w := fun _ _ _ _ => rfl
  have c0 := hw.cell0
  have hbl := lt_of hw.blk
  have HV := mkHid hw.sC
  have HN := mkHid hw.nums
  have hle := hw.le
  have HB0 := mkHid (fun o => (Below.refl w.heap.size w).alloc (Nat.le_refl _) o)
  obtain ⟨ao, cl, rfl, -⟩ := hw.sC
  clear hw
  go_enter Tryz.func76, Tryz.ntmps76
  go_wp2_with fail
  refine (everyC_any _ B _ l (HV.out.keptC (Kp.below ((HB0.out _).mono hle))) (by simp; omega) 103 #[] _ (superB l) (fun args w => by kernel_rfl) ?_).mono ?_
  · intro x _ u W hW hu
    exact supers1_any W B b w.heap.size l x u hu ((HN.out.below (HB0.out _)).below hW) ((hW.cell (p := ⟨w.heap.size, 0, none⟩) (by simp)).trans (by simp [go_sem]))
  rintro r w1 ⟨rfl, hb⟩
  have hb2 : Below w.heap.size w w1 := (HB0.out _).trans (hb.mono (by simp))
  clear hb
  go_wp2_with fail
  go_ret
  exact ⟨rfl, hb2⟩

set_option maxHeartbeats 1000000 in
theorem none1_any (w : World) (B b P : Nat) (l : List ClassD) (x : List Nat) (u : Value) (ao : Option Addr) (cl : Nat) (hu : ElIs B w u x) (hc0 : w.cell? ⟨b, 0, none⟩ = some (.slice ao l.length cl)) (hP : w.cell? ⟨P, 0, none⟩ = some (.pointer (some ⟨b, 0, none⟩))) :
    Calls Tryz.prog 105 #[u, .pointer (some ⟨P, 0, none⟩)] w fun r w' => r = .returned (.bool (decide (x.length ≤ l.length))) ∧ Below w.heap.size w w' := by
  obtain ⟨ai, ci, rfl, -⟩ := hu
  go_enter Tryz.func105, Tryz.ntmps105
  go_wp2_with fail
  go_ret
  exact ⟨by simp, Below.refl _ _⟩
set_option maxHeartbeats 1000000 in
theorem noneIsAboveItself_any (w : World) (B b : Nat) (l : List ClassD) (vC vS vF vN vT vL : Value) (Bm : Nat) (hw : Web B w b l vC vS vF vN vT vL Bm) :
    Calls Tryz.prog 77 #[.pointer (some ⟨b, 0, none⟩)] w fun r w' => r = .returned (.bool (askNone l)) ∧ Below w.heap.size w w' := by
  have hmf : ∀ (fn : Fn) (first cap : Array Value) (w : World), (Instr.makeFunc fn first cap).run Tryz.prog w = .ok (.func fn first cap) w := fun _ _ _ _ => rfl
  have c0 := hw.cell0
  have c6 := cell_of hw.blk 6 (x := vL) rfl
  have hbl := lt_of hw.blk
  have sL := hw.sL
  have hle := hw.le
  have HB0 := mkHid (fun o => (Below.refl w.heap.size w).alloc (Nat.le_refl _) o)
  obtain ⟨ao, cl, rfl, -⟩ := hw.sC
  have HLA : Hid (askNone l = ((List.range l.length).map (lineOf l)).all fun x => decide (x.length ≤ l.length)) := by
    show askNone l = _
    rw [askNone, List.all_map]
    rfl
  clear hw
  generalize (List.range l.length).map (lineOf l) = LL at *
  have HV := mkHid sL
  obtain ⟨al, cc, rfl, -⟩ := sL
  go_enter Tryz.func77, Tryz.ntmps77
  go_wp2_with fail
  refine (everyIs_any _ B _ _ (HV.out.keptSl (Kp.below ((HB0.out _).mono hle)) fun _ _ h => h) (by simp; omega) 105 #[] _ (fun x => decide (x.length ≤ l.length)) (fun args w => by kernel_rfl) ?_).mono ?_
  · intro x _ u W hW hu
    exact none1_any W B b w.heap.size l x u ao cl hu ((hW.cell (p := ⟨b, 0, none⟩) (by simp; omega)).trans (((HB0.out _).cell (p := ⟨b, 0, none⟩) hbl).trans c0)) ((hW.cell (p := ⟨w.heap.size, 0, none⟩) (by simp)).trans (by simp [go_sem]))
  rintro r w1 ⟨rfl, hb⟩
  have hb2 : Below w.heap.size w w1 := (HB0.out _).trans (hb.mono (by simp))
  clear hb
  go_wp2_with fail
  go_ret
  exact ⟨by rw [HLA.out]; rfl, hb2⟩

set_option maxHeartbeats 1000000 in
theorem told11_any (w : World) (B b P : Nat) (l : List ClassD) (x : FieldD) (u : Value) (hu : ElF B w u x) (hN : Nums w b l) (hP : w.cell? ⟨P, 0, none⟩ = some (.pointer (some ⟨b, 0, none⟩))) :
    Calls Tryz.prog 108 #[u, .pointer (some ⟨P, 0, none⟩)] w fun r w' => r = .returned (.bool (knowsK l x.kind)) ∧ Below w.heap.size w w' := by
  obtain ⟨rfl, -, hs⟩ := hu
  have hPl := World.block_lt_of_cell? w _ hP
  have HN := mkHid hN
  have HS := mkHid hs
  have HB0 := mkHid (fun o => (Below.refl w.heap.size w).alloc (Nat.le_refl _) o)
  clear hN hs
  go_enter Tryz.func108, Tryz.ntmps108
  go_wp2_with fail
  have hB1 := HB0.out (.cells #[.string x.name, .int .i64 x.kind.kind, .string x.kind.cls] 98)
  have hB2 := hB1.alloc hB1.size (.cells #[.int .i64 x.kind.kind, .string x.kind.cls] 60)
  refine (knows_any _ b (w.heap.size + 1 + 1) l _ [x.kind] (HN.out.below hB2) (one_K _ x.kind _ (w.heap.size + 1) HS.out (by simp)) (by simp)).mono ?_
  rintro r w1 ⟨rfl, hb⟩
  have hB3 := hB2.trans (hb.mono (by simp; omega))
  clear hb hB1 hB2
  go_wp2_with fail
  go_ret
  exact ⟨by simp, hB3⟩
set_option maxHeartbeats 1000000 in
theorem knowsTold1_any (w : World) (B b P : Nat) (l : List ClassD) (x : HandD) (u : Value) (hu : ElH B w u x) (hN : Nums w b l) (hP : w.cell? ⟨P, 0, none⟩ = some (.pointer (some ⟨b, 0, none⟩))) :
    Calls Tryz.prog 141 #[u, .pointer (some ⟨P, 0, none⟩)] w fun r w' => r = .returned (.bool (hasC l x.cls)) ∧ Below w.heap.size w w' := by
  obtain ⟨rfl, hs⟩ := hu
  have hPl := World.block_lt_of_cell? w _ hP
  have HN := mkHid hN
  have HS := mkHid hs
  have HB0 := mkHid (fun o => (Below.refl w.heap.size w).alloc (Nat.le_refl _) o)
  clear hN hs
  go_enter Tryz.func141, Tryz.ntmps141
  go_wp2_with fail
  have hB1 := HB0.out (.cells #[.int .i64 x.frm, .int .i64 x.upto, .int .i64 x.loc, .string x.cls] 107)
  have hB2 := hB1.alloc hB1.size (.cells #[.string x.cls] 9)
  refine (has_any _ b (w.heap.size + 1 + 1) l _ [x.cls] (HN.out.below hB2) (one_S _ x.cls _ (w.heap.size + 1) HS.out (by simp)) (by simp)).mono ?_
  rintro r w1 ⟨rfl, hb⟩
  have hB3 := hB2.trans (hb.mono (by simp; omega))
  clear hb hB1 hB2
  go_wp2_with fail
  go_ret
  exact ⟨by simp, hB3⟩

set_option maxHeartbeats 2000000 in
theorem knowsTold_any (w : World) (B b : Nat) (l : List ClassD) (x : MethD) (u : Value) (hu : ElM B w u x) (hN : Nums w b l) (hB : B ≤ w.heap.size) :
    Calls Tryz.prog 111 #[.pointer (some ⟨b, 0, none⟩), u] w fun r w' => r = .returned (.bool (knowsM l x)) ∧ Below w.heap.size w w' := by
  have hmf : ∀ (fn : Fn) (first cap : Array Value) (w : World), (Instr.makeFunc fn first cap).run Tryz.prog w = .ok (.func fn first cap) w := fun _ _ _ _ => rfl
  obtain ⟨ao, ca, ho, ch, rfl, ea, eh, -, hs, -⟩ := hu
  have HN := mkHid hN
  have HS := mkHid hs
  have EA := mkHid ea
  have EH := mkHid eh
  have HB0 := mkHid (fun o => (Below.refl w.heap.size w).alloc (Nat.le_refl _) o)
  clear hN hs ea eh
  have hB1 := HB0.out (.cells #[.pointer (some ⟨b, 0, none⟩)] 66)
  have hB2 := hB1.alloc hB1.size (.cells #[.string x.name, .bool x.static, .slice ao x.args.length ca, .int .i64 x.ret.kind, .string x.ret.cls, .int .i64 x.stack, .int .i64 x.locals, .string x.code, .slice ho x.hands.length ch] 63)
  go_enter Tryz.func111, Tryz.ntmps111
  go_wp2_with fail
  refine (knows_any _ b B l _ x.args (HN.out.below hB2) (EA.out.keptK (Kp.below (hB2.mono hB))) (by simp; omega)).mono ?_
  rintro r w1 ⟨rfl, hb⟩
  have d0 : w1.cell? ⟨w.heap.size, 0, none⟩ = some (.pointer (some ⟨b, 0, none⟩)) := (hb.cell (p := ⟨w.heap.size, 0, none⟩) (by simp; omega)).trans (by simp [go_sem])
  have d3 : w1.cell? ⟨w.heap.size + 1, 3, none⟩ = some (.int .i64 x.ret.kind) := (hb.cell (p := ⟨w.heap.size + 1, 3, none⟩) (by simp)).trans (by simp [go_sem])
  have d4 : w1.cell? ⟨w.heap.size + 1, 4, none⟩ = some (.string x.ret.cls) := (hb.cell (p := ⟨w.heap.size + 1, 4, none⟩) (by simp)).trans (by simp [go_sem])
  have d8 : w1.cell? ⟨w.heap.size + 1, 8, none⟩ = some (.slice ho x.hands.length ch) := (hb.cell (p := ⟨w.heap.size + 1, 8, none⟩) (by simp)).trans (by simp [go_sem])
  have hB3 := hB2.trans (hb.mono (by simp; omega))
  have hz1 : w.heap.size + 1 < w1.heap.size := World.block_lt_of_cell? w1 _ d3
  have HM : Hid (knowsM l x = (x.args.all (knowsK l) && knowsK l x.ret && x.hands.all (fun h => hasC l h.cls))) := rfl
  clear hb hB1 hB2
  cases ha : x.args.all (knowsK l)
  · have HR : Hid (knowsM l x = false) := by rw [HM.out, ha]; rfl
    clear ha
    go_wp2_with fail
    go_ret
    exact ⟨by rw [HR.out]; rfl, hB3⟩
  have HA := mkHid ha
  clear ha
  go_wp2_with fail
  have hB4 := hB3.alloc hB3.size (.cells #[.int .i64 x.ret.kind, .string x.ret.cls] 60)
  refine (knows_any _ b (w1.heap.size + 1) l _ [x.ret] (HN.out.below hB4) (one_K w1 x.ret _ w1.heap.size HS.out rfl) (by simp)).mono ?_
  rintro r w2 ⟨rfl, hb⟩
  have hB5 := hB4.trans (hb.mono (by have := hB3.size; simp; omega))
  have f0 : w2.cell? ⟨w.heap.size, 0, none⟩ = some (.pointer (some ⟨b, 0, none⟩)) := (hb.cell (p := ⟨w.heap.size, 0, none⟩) (by simp; omega)).trans (by rw [World.cell?_alloc_past _ _ _ (by omega)]; exact d0)
  have f8 : w2.cell? ⟨w.heap.size + 1, 8, none⟩ = some (.slice ho x.hands.length ch) := (hb.cell (p := ⟨w.heap.size + 1, 8, none⟩) (by simp; omega)).trans (by rw [World.cell?_alloc_past _ _ _ (by omega)]; exact d8)
  clear hb hB3 hB4 d0 d3 d4 d8
  cases hr : knowsK l x.ret
  · have HR : Hid (knowsM l x = false) := by rw [HM.out, HA.out, hr]; rfl
    have hr' : ([x.ret].all (knowsK l)) = false := by simp [hr]
    rw [hr']
    clear hr hr'
    go_wp2_with fail
    go_ret
    exact ⟨by rw [HR.out]; rfl, hB5⟩
  have HR : Hid (knowsM l x = x.hands.all (fun h => hasC l h.cls)) := by rw [HM.out, HA.out, hr]; rfl
  have hr' : ([x.ret].all (knowsK l)) = true := by simp [hr]
  rw [hr']
  clear hr hr'
  go_wp2_with fail
  refine (everyH_any _ B _ x.hands (EH.out.keptH (Kp.below (hB5.mono hB))) (by have := hB5.size; omega) 141 #[] _ (fun h => hasC l h.cls) (fun args w => by kernel_rfl) ?_).mono ?_
  · intro y _ u W hW hu
    exact knowsTold1_any W B b w.heap.size l y u hu ((HN.out.below hB5).below hW) ((hW.cell (p := ⟨w.heap.size, 0, none⟩) (World.block_lt_of_cell? w2 _ f0)).trans f0)
  rintro r w3 ⟨rfl, hb⟩
  have hB6 := hB5.trans (hb.mono hB5.size)
  clear hb hB5 f0 f8
  go_wp2_with fail
  go_ret
  exact ⟨by rw [HR.out]; rfl, hB6⟩

def toldB (l : List ClassD) (c : ClassD) : Bool := (c.fields.all fun f => knowsK l f.kind) && c.meths.all (knowsM l)
set_option maxHeartbeats 2000000 in
theorem told1_any (w : World) (B b P : Nat) (l : List ClassD) (c : ClassD) (u : Value) (hu : ElC B w u c) (hN : Nums w b l) (hP : w.cell? ⟨P, 0, none⟩ = some (.pointer (some ⟨b, 0, none⟩))) (hB : B ≤ w.heap.size) :
    Calls Tryz.prog 106 #[u, .pointer (some ⟨P, 0, none⟩)] w fun r w' => r = .returned (.bool (toldB l c)) ∧ Below w.heap.size w w' := by
  have hmf : ∀ (fn : Fn) (first cap : Array Value) (w : World), (Instr.makeFunc fn first cap).run Tryz.prog w = .ok (.func fn first cap) w := fun _ _ _ _ => rfl
  obtain ⟨fo, cf, mo, cm, rfl, ef, em, -, -⟩ := hu
  have hPl := World.block_lt_of_cell? w _ hP
  have HN := mkHid hN
  have EF := mkHid ef
  have EM := mkHid em
  have HB0 := mkHid (fun o => (Below.refl w.heap.size w).alloc (Nat.le_refl _) o)
  clear hN ef em
  have hB1 := HB0.out (.cells #[.string c.name, .string c.super, .slice fo c.fields.length cf, .slice mo c.meths.length cm] 57)
  go_enter Tryz.func106, Tryz.ntmps106
  go_wp2_with fail
  refine (everyF_any _ B _ c.fields (EF.out.keptF (Kp.below (hB1.mono hB))) (by simp; omega) 108 #[] _ (fun f => knowsK l f.kind) (fun args w => by kernel_rfl) ?_).mono ?_
  · intro y _ u W hW hu
    exact told11_any W B b P l y u hu ((HN.out.below hB1).below hW) ((hW.cell (p := ⟨P, 0, none⟩) (by simp; omega)).trans ((hB1.cell (p := ⟨P, 0, none⟩) hPl).trans hP))
  rintro r w1 ⟨rfl, hb⟩
  have d3 : w1.cell? ⟨w.heap.size, 3, none⟩ = some (.slice mo c.meths.length cm) := (hb.cell (p := ⟨w.heap.size, 3, none⟩) (by simp)).trans (by simp [go_sem])
  have hB2 := hB1.trans (hb.mono (by simp))
  have hz1 : w.heap.size < w1.heap.size := World.block_lt_of_cell? w1 _ d3
  have hP1 : w1.cell? ⟨P, 0, none⟩ = some (.pointer (some ⟨b, 0, none⟩)) := (hB2.cell (p := ⟨P, 0, none⟩) hPl).trans hP
  have HM : Hid (toldB l c = ((c.fields.all fun f => knowsK l f.kind) && c.meths.all (knowsM l))) := rfl
  clear hb hB1 hP
  cases ha : c.fields.all fun f => knowsK l f.kind
  · have HR : Hid (toldB l c = false) := by rw [HM.out, ha]; rfl
    clear ha
    go_wp2_with fail
    go_ret
    exact ⟨by rw [HR.out]; rfl, hB2⟩
  have HR : Hid (toldB l c = c.meths.all (knowsM l)) := by rw [HM.out, ha]; rfl
  clear ha
  go_wp2_with fail
  refine (everyM_any _ B _ c.meths (EM.out.keptM (Kp.below (hB2.mono hB))) (by omega) 111 _ #[] (knowsM l) (fun args w => by kernel_rfl) ?_).mono ?_
  · intro y _ u W hW hu
    exact knowsTold_any W B b l y u hu ((HN.out.below hB2).below hW) (by have := hW.size; omega)
  rintro r w2 ⟨rfl, hb⟩
  have hB3 := hB2.trans (hb.mono hB2.size)
  clear hb hB2
  go_wp2_with fail
  go_ret
  exact ⟨by rw [HR.out]; rfl, hB3⟩
set_option maxHeartbeats 1000000 in
theorem allToldIsKnown_any (w : World) (B b : Nat) (l : List ClassD) (vC vS vF vN vT vL : Value) (Bm : Nat) (hw : Web B w b l vC vS vF vN vT vL Bm) :
    Calls Tryz.prog 79 #[.pointer (some ⟨b, 0, none⟩)] w fun r w' => r = .returned (.bool (askTold l)) ∧ Below w.heap.size w w' := by
  have hmf : ∀ (fn : Fn) (first cap : Array Value) (w : World), (Instr.makeFunc fn first cap).run Tryz.prog w = .ok (.func fn first cap) w := fun _ _ _ _ => rfl
  have c0 := hw.cell0
  have hbl := lt_of hw.blk
  have HV := mkHid hw.sC
  have HN := mkHid hw.nums
  have hle := hw.le
  have HB0 := mkHid (fun o => (Below.refl w.heap.size w).alloc (Nat.le_refl _) o)
  obtain ⟨ao, cl, rfl, -⟩ := hw.sC
  clear hw
  go_enter Tryz.func79, Tryz.ntmps79
  go_wp2_with fail
  refine (everyC_any _ B _ l (HV.out.keptC (Kp.below ((HB0.out _).mono hle))) (by simp; omega) 106 #[] _ (toldB l) (fun args w => by kernel_rfl) ?_).mono ?_
  · intro x _ u W hW hu
    exact told1_any W B b w.heap.size l x u hu ((HN.out.below (HB0.out _)).below hW) ((hW.cell (p := ⟨w.heap.size, 0, none⟩) (by simp)).trans (by simp [go_sem])) (by have := hW.size; simp at this; omega)
  rintro r w1 ⟨rfl, hb⟩
  have hb2 : Below w.heap.size w w1 := (HB0.out _).trans (hb.mono (by simp))
  clear hb
  go_wp2_with fail
  go_ret
  exact ⟨rfl, hb2⟩

set_option maxHeartbeats 1000000 in
theorem few1_any (w : World) (B : Nat) (x : List FieldD) (u : Value) (hu : ElFs B w u x) : Calls Tryz.prog 121 #[u] w fun r w' => r = .returned (.bool (decide (x.length ≤ 12))) ∧ Below w.heap.size w w' := by
  obtain ⟨ai, ci, rfl, -⟩ := hu
  go_enter Tryz.func121, Tryz.ntmps121
  go_wp2_with fail
  go_ret
  exact ⟨by simp; omega, Below.refl _ _⟩
set_option maxHeartbeats 1000000 in
theorem few2_any (w : World) (B : Nat) (x : List ByteArray) (u : Value) (hu : ElSs B w u x) : Calls Tryz.prog 123 #[u] w fun r w' => r = .returned (.bool (decide (x.length ≤ 16))) ∧ Below w.heap.size w w' := by
  obtain ⟨ai, ci, rfl, -⟩ := hu
  go_enter Tryz.func123, Tryz.ntmps123
  go_wp2_with fail
  go_ret
  exact ⟨by simp; omega, Below.refl _ _⟩
set_option maxHeartbeats 1000000 in
theorem areFew_any (w : World) (B b : Nat) (l : List ClassD) (vC vS vF vN vT vL : Value) (Bm : Nat) (hw : Web B w b l vC vS vF vN vT vL Bm) :
    Calls Tryz.prog 82 #[.pointer (some ⟨b, 0, none⟩)] w fun r w' => r = .returned (.bool (askFew l)) ∧ Below w.heap.size w w' := by
  have c2 := cell_of hw.blk 2 (x := vF) rfl
  have c3 := cell_of hw.blk 3 (x := vN) rfl
  have hbl := lt_of hw.blk
  have sF := hw.sF
  have sN := hw.sN
  have hle := hw.le
  have HM : Hid (askFew l = ((((List.range l.length).map (fieldsOf l)).all fun x => decide (x.length ≤ 12)) && (((List.range l.length).map (namesOf l)).all fun x => decide (x.length ≤ 16)))) := by
    show askFew l = _
    rw [askFew, List.all_map, List.all_map]
    rfl
  clear hw
  generalize (List.range l.length).map (fieldsOf l) = LF at *
  generalize (List.range l.length).map (namesOf l) = LN at *
  have HF := mkHid sF
  have HN := mkHid sN
  obtain ⟨af, cf, rfl, -⟩ := sF
  obtain ⟨an, cn, rfl, -⟩ := sN
  go_enter Tryz.func82, Tryz.ntmps82
  go_wp2_with fail
  refine (everyFs_any _ B _ _ HF.out hle 121 #[] #[] (fun x => decide (x.length ≤ 12)) (fun args w => by kernel_rfl) ?_).mono ?_
  · intro x _ u W _ hu
    exact few1_any W B x u hu
  rintro r w1 ⟨rfl, hb⟩
  have d3 : w1.cell? ⟨b, 3, none⟩ = some (.slice an _ cn) := (hb.cell (p := ⟨b, 3, none⟩) hbl).trans c3
  cases ha : LF.all fun x => decide (x.length ≤ 12)
  · have HR : Hid (askFew l = false) := by rw [HM.out, ha]; rfl
    clear ha
    go_wp2_with fail
    go_ret
    exact ⟨by rw [HR.out]; rfl, hb⟩
  have HR : Hid (askFew l = (LN.all fun x => decide (x.length ≤ 16))) := by rw [HM.out, ha]; rfl
  clear ha
  go_wp2_with fail
  refine (everySs_any _ B _ _ (HN.out.keptSl (Kp.below (hb.mono hle)) fun _ _ h => h) (by have := hb.size; omega) 123 #[] #[] (fun x => decide (x.length ≤ 16)) (fun args w => by kernel_rfl) ?_).mono ?_
  · intro x _ u W _ hu
    exact few2_any W B x u hu
  rintro r w2 ⟨rfl, hb2⟩
  have hb3 := hb.trans (hb2.mono hb.size)
  clear hb hb2
  go_wp2_with fail
  go_ret
  exact ⟨by rw [HR.out]; rfl, hb3⟩

end Go.Proofs.YtkpklkhkhhlifabGreat

/- The contract of what asks after the class Error. -/
namespace Go.Proofs.YtkpklkhkhhlifabGreat
open Go.RowKit Go.Maps

theorem kindEql (k k' : Int) (c c' : ByteArray) (w : World) : (binOp BinOp.eql 60 (.agg #[.int .i64 k, .string c]) (.agg #[.int .i64 k', .string c'])).run Tryz.prog w = .ok (.bool ((k == k') && (c.toList == c'.toList))) w := by
  have u3 := Tryz.underlying3
  have a3 := Tryz.isAgg3
  have z3 := Tryz.sizeOf3
  have u9 := Tryz.underlying9
  have a9 := Tryz.isAgg9
  have z9 := Tryz.sizeOf9
  have hS : Tryz.prog.underlying 60 = some (.struct (Tryz.prog.fieldsOf 60)) := by kernel_rfl
  have hp : Tryz.prog.stoodInHeld 60 = false := by kernel_rfl
  rw [run_eql_struct, show (10000 : Nat) = 9999 + 1 from rfl, run_equalIn_agg w 9999 60 _ _ hS hp]
  simp only [Program.fieldsOf, Tryz.underlying60]
  go_simp
  by_cases h1 : k = k' <;> by_cases h2 : c.toList = c'.toList <;> simp [h1, h2]
theorem kindGuard : Tryz.prog.eqGuardType Tryz.prog.depth 60 = false := by kernel_rfl

set_option maxHeartbeats 2000000 in
theorem errorIsRight_any (w : World) (B b : Nat) (l : List ClassD) (vC vS vF vN vT vL : Value) (Bm : Nat) (hw : Web B w b l vC vS vF vN vT vL Bm) (he : 0 ≤ num l errName) :
    Calls Tryz.prog 78 #[.pointer (some ⟨b, 0, none⟩)] w fun r w' => r = .returned (.bool (askError l)) ∧ Below w.heap.size w w' := by
  have hnm : ∀ n, NumMap (w.drewN n) Bm l := fun n => hw.nm.below (below_dn (Below.refl w.heap.size w) n) hw.nm.lt
  have c5 := cell_of hw.blk 5 (x := .map (some Bm)) rfl
  have c1 := cell_of hw.blk 1 (x := vS) rfl
  have c2 := cell_of hw.blk 2 (x := vF) rfl
  have HN : Hid (∀ s, s.size ≤ maxLen → ∀ n, Calls Tryz.prog 61 #[.pointer (some ⟨b, 0, none⟩), .string s] (w.drewN n) fun r w' => r = .returned (.int .i64 (num l s)) ∧ w' = w.drewN n) := fun s hs n => number_any _ b Bm l s c5 (hnm n) hs
  obtain ⟨n, hn⟩ := Int.eq_ofNat_of_zero_le he
  have hnl : n < l.length := by have := (num_le l errName).2; omega
  obtain ⟨t, ht⟩ : ∃ t, num l topName = t := ⟨_, rfl⟩
  have htb := num_le l topName
  have hsb := num_le l (clsAt l n).super
  rw [ht] at htb
  have HA : Hid (askError l = (decide (supAt l n = t) && (match fieldsOf l n with | [] => false | f :: _ => sameK f.kind ⟨1, ⟨#[]⟩⟩))) := by
    show askError l = _
    unfold askError
    rw [ht, hn]
    rfl
  have hlS : ((List.range l.length).map (supAt l)).length = l.length := by simp
  have hlF : ((List.range l.length).map (fieldsOf l)).length = l.length := by simp
  obtain ⟨aS, cS, hvS, -⟩ := hw.sS
  obtain ⟨aF, cF, hvF, -⟩ := hw.sF
  rw [hlS] at hvS
  rw [hlF] at hvF
  subst hvS hvF
  obtain ⟨bS, oS, rfl, hbS, e1⟩ := hw.sS.atI n (by omega)
  obtain ⟨bF, oF, aL, cL, rfl, hbF, e2, sL⟩ := hw.sF.atSl n (by omega)
  have g1 : ((List.range l.length).map (supAt l))[n]'(by omega) = supAt l n := by simp
  have g2 : ((List.range l.length).map (fieldsOf l))[n]'(by omega) = fieldsOf l n := by simp
  rw [g1] at e1
  rw [g2] at e2 sL
  have hsx : supAt l n = num l (clsAt l n).super := rfl
  rw [← hsx] at hsb
  clear g1 g2 hlS hlF hsx hw c5 hnm
  generalize supAt l n = s at *
  generalize fieldsOf l n = fs at *
  have HE : Hid (num l errName = n) := hn
  have HT : Hid (num l topName = t) := ht
  have ht1 := htb.1
  have ht2 := htb.2
  have hs1 := hsb.1
  have hs2 := hsb.2
  have h00 : (0 : Int) ≤ n := by omega
  have h01 : (n : Int) < l.length := by omega
  clear hn ht he htb hsb
  by_cases hst : s = t
  · subst hst
    cases fs with
    | nil =>
      have e2' : w.cell? ⟨bF, oF + n, none⟩ = some (.slice aL 0 cL) := e2
      clear e2 sL
      go_enter Tryz.func78, Tryz.ntmps78
      go_wp2_with (go_at_call 61; refine (HN.out errName (by decide) 0).mono ?_; rintro r w1 ⟨h1, rfl⟩; rw [HE.out] at h1; subst h1)
      go_quiet (first | (go_at_call 61; exact Calls.quiet_of_same ((HN.out topName (by decide) _).mono fun _ _ h => ⟨h.1.trans (by rw [HT.out]), h.2⟩)))
      go_wp2_with fail
      go_ret
      exact ⟨by rw [HA.out]; simp, below_dn (below_dn (Below.refl _ _) _) _⟩
    | cons f fs =>
      obtain ⟨bf, of, rfl, hbf, y0, y1, y2, z1, z2⟩ := sL.atF 0 (by simp)
      have e2' : w.cell? ⟨bF, oF + n, none⟩ = some (.slice (some ⟨bf, of, none⟩) (fs.length + 1) cL) := e2
      have y1' : w.cell? ⟨bf, of + 1, none⟩ = some (.int .i64 f.kind.kind) := by simpa using y1
      have y2' : w.cell? ⟨bf, of + 2, none⟩ = some (.string f.kind.cls) := by simpa using y2
      have hz2 : f.kind.cls.size ≤ maxLen := z2
      have hfl : (0 : Int) < ((fs.length + 1 : Nat) : Int) := by omega
      clear e2 sL y0 y1 y2 z1 z2
      have hke := kindEql f.kind.kind 1 f.kind.cls ⟨#[]⟩
      have hkg := kindGuard
      go_enter Tryz.func78, Tryz.ntmps78
      go_wp2_with (go_at_call 61; refine (HN.out errName (by decide) 0).mono ?_; rintro r w1 ⟨h1, rfl⟩; rw [HE.out] at h1; subst h1)
      go_quiet (first | (go_at_call 61; exact Calls.quiet_of_same ((HN.out topName (by decide) _).mono fun _ _ h => ⟨h.1.trans (by rw [HT.out]), h.2⟩)))
      go_wp2_with fail
      go_ret
      have hval : (f.kind.kind == 1 && f.kind.cls.toList.isEmpty) = askError l := by
        rw [HA.out, sameK]
        by_cases h2 : f.kind.cls = ⟨#[]⟩
        · rw [nil_tl h2, Bool.eq_iff_iff]
          simp [h2]
        · have : f.kind.cls.toList.isEmpty = false := by
            cases hq : f.kind.cls.toList with
            | nil => exact absurd (tl_nil hq) h2
            | cons _ _ => rfl
          rw [this]
          simp [h2]
      exact ⟨by rw [← hval]; rfl, below_dn (below_dn (Below.refl _ _) _) _⟩
  · have hd : (s == t) = false := by simpa using hst
    have hd2 : decide (s = t) = false := by simpa using hst
    clear sL
    go_enter Tryz.func78, Tryz.ntmps78
    go_wp2_with (go_at_call 61; refine (HN.out errName (by decide) 0).mono ?_; rintro r w1 ⟨h1, rfl⟩; rw [HE.out] at h1; subst h1)
    go_quiet (first | (go_at_call 61; exact Calls.quiet_of_same ((HN.out topName (by decide) _).mono fun _ _ h => ⟨h.1.trans (by rw [HT.out]), h.2⟩)))
    go_wp2_with fail
    go_ret
    exact ⟨by rw [HA.out, hd2]; rfl, below_dn (below_dn (Below.refl _ _) _) _⟩
end Go.Proofs.YtkpklkhkhhlifabGreat

/- slices.Equal, slices.EqualFunc at what linked classes hold. -/
namespace Go.Proofs.YtkpklkhkhhlifabGreat
open Go.RowKit Go.Maps

def eqL {α : Type} (p : α → α → Bool) : List α → List α → Bool
  | [], [] => true
  | x :: l, y :: m => p x y && eqL p l m
  | _, _ => false
theorem eqL_len {α : Type} (p : α → α → Bool) : ∀ (l m : List α), l.length ≠ m.length → eqL p l m = false
  | [], [], h => absurd rfl h
  | x :: l, y :: m, h => by rw [eqL, eqL_len p l m (fun e => h (by simp [e]))]; simp
  | [], _ :: _, _ => rfl
  | _ :: _, [], _ => rfl
theorem eqL_step {α : Type} (p : α → α → Bool) (l m : List α) (k : Nat) (hk : k < l.length) (hm : k < m.length) : eqL p (l.drop k) (m.drop k) = (p l[k] m[k] && eqL p (l.drop (k + 1)) (m.drop (k + 1))) := by
  rw [List.drop_eq_getElem_cons hk, List.drop_eq_getElem_cons hm, eqL]
theorem eqL_end {α : Type} (p : α → α → Bool) (l m : List α) (k : Nat) (hk : ¬ k < l.length) (h : l.length = m.length) : eqL p (l.drop k) (m.drop k) = true := by
  rw [List.drop_of_length_le (by omega), List.drop_of_length_le (by omega), eqL]
theorem tl_beq (a b : ByteArray) : (a.toList == b.toList) = decide (a = b) := by
  rw [Bool.eq_iff_iff, beq_iff_eq, decide_eq_true_iff]
  exact ⟨tl_inj, fun h => by rw [h]⟩
def sameI (a b : Int) : Bool := a == b
def sameS (a b : ByteArray) : Bool := a.toList == b.toList
def sameF (a b : FieldD) : Bool := decide (a.name = b.name) && sameK a.kind b.kind
def sameT (a b : TargD) : Bool := (a.cls == b.cls) && (a.meth == b.meth)
theorem sameK_eq (k k' : Int) (c c' : ByteArray) : ((k == k') && (c.toList == c'.toList)) = sameK ⟨k, c⟩ ⟨k', c'⟩ := by
  rw [tl_beq, sameK, Bool.eq_iff_iff]
  simp

theorem kindNeq (x y : KindD) (w : World) : (binOp BinOp.neq 60 (.agg #[.int .i64 x.kind, .string x.cls]) (.agg #[.int .i64 y.kind, .string y.cls])).run Tryz.prog w = .ok (.bool (!sameK x y)) w := by
  have u3 := Tryz.underlying3
  have a3 := Tryz.isAgg3
  have z3 := Tryz.sizeOf3
  have u9 := Tryz.underlying9
  have a9 := Tryz.isAgg9
  have z9 := Tryz.sizeOf9
  have hS : Tryz.prog.underlying 60 = some (.struct (Tryz.prog.fieldsOf 60)) := by kernel_rfl
  have hp : Tryz.prog.stoodInHeld 60 = false := by kernel_rfl
  rw [run_neq_struct, show (10000 : Nat) = 9999 + 1 from rfl, run_equalIn_agg w 9999 60 _ _ hS hp]
  simp only [Program.fieldsOf, Tryz.underlying60]
  go_simp
  rw [← sameK_eq x.kind y.kind x.cls y.cls]
  by_cases h1 : x.kind = y.kind <;> by_cases h2 : x.cls.toList = y.cls.toList <;> simp [h1, h2]
theorem kindNeqG : Tryz.prog.eqGuardType Tryz.prog.depth 60 = false := by kernel_rfl
theorem targNeq (x y : TargD) (w : World) : (binOp BinOp.neq 40 (.agg #[.int .i64 x.cls, .int .i64 x.meth]) (.agg #[.int .i64 y.cls, .int .i64 y.meth])).run Tryz.prog w = .ok (.bool (!sameT x y)) w := by
  have u3 := Tryz.underlying3
  have a3 := Tryz.isAgg3
  have z3 := Tryz.sizeOf3
  have u9 := Tryz.underlying9
  have a9 := Tryz.isAgg9
  have z9 := Tryz.sizeOf9
  have hS : Tryz.prog.underlying 40 = some (.struct (Tryz.prog.fieldsOf 40)) := by kernel_rfl
  have hp : Tryz.prog.stoodInHeld 40 = false := by kernel_rfl
  rw [run_neq_struct, show (10000 : Nat) = 9999 + 1 from rfl, run_equalIn_agg w 9999 40 _ _ hS hp]
  simp only [Program.fieldsOf, Tryz.underlying40]
  go_simp
  rw [sameT]
  by_cases h1 : x.cls = y.cls <;> by_cases h2 : x.meth = y.meth <;> simp [h1, h2]
theorem targNeqG : Tryz.prog.eqGuardType Tryz.prog.depth 40 = false := by kernel_rfl
theorem fieldNeq (x y : FieldD) (w : World) : (binOp BinOp.neq 98 (.agg #[.string x.name, .int .i64 x.kind.kind, .string x.kind.cls]) (.agg #[.string y.name, .int .i64 y.kind.kind, .string y.kind.cls])).run Tryz.prog w = .ok (.bool (!sameF x y)) w := by
  have u3 := Tryz.underlying3
  have a3 := Tryz.isAgg3
  have z3 := Tryz.sizeOf3
  have u9 := Tryz.underlying9
  have a9 := Tryz.isAgg9
  have z9 := Tryz.sizeOf9
  have uk := Tryz.underlying60
  have ak := Tryz.isAgg60
  have zk := Tryz.sizeOf60
  have hSk : Tryz.prog.underlying 60 = some (.struct (Tryz.prog.fieldsOf 60)) := by kernel_rfl
  have hpk : Tryz.prog.stoodInHeld 60 = false := by kernel_rfl
  have hS : Tryz.prog.underlying 98 = some (.struct (Tryz.prog.fieldsOf 98)) := by kernel_rfl
  have hp : Tryz.prog.stoodInHeld 98 = false := by kernel_rfl
  rw [run_neq_struct, show (10000 : Nat) = 9999 + 1 from rfl, run_equalIn_agg w 9999 98 _ _ hS hp]
  simp only [Program.fieldsOf, Tryz.underlying98]
  go_simp
  rw [sameF, ← tl_beq, ← sameK_eq x.kind.kind y.kind.kind x.kind.cls y.kind.cls]
  by_cases h0 : x.name.toList = y.name.toList <;> by_cases h1 : x.kind.kind = y.kind.kind <;> by_cases h2 : x.kind.cls.toList = y.kind.cls.toList <;> simp [h0, h1, h2]
theorem fieldNeqG : Tryz.prog.eqGuardType Tryz.prog.depth 98 = false := by kernel_rfl
set_option maxHeartbeats 1000000 in
theorem equalI_any (w : World) (M M' : Nat → Prop) (u v : Value) (l m : List Int) (hu : SL 1 RI M w u l) (hv : SL 1 RI M' w v m) :
    Calls Tryz.prog 90 #[u, v] w fun r w' => r = .returned (.bool (eqL sameI l m)) ∧ ∃ n, w' = w.drewN n := by
  have HU := mkHid hu
  have HV := mkHid hv
  obtain ⟨au, cu, rfl, _, hl, -⟩ := hu
  obtain ⟨av, cv, rfl, _, hm, -⟩ := hv
  unfold maxLen at hl hm
  by_cases hlen : l.length = m.length
  rotate_left
  · have h0 : ¬ (l.length : Int) = m.length := by omega
    have HR := mkHid (eqL_len sameI l m hlen)
    clear hlen
    go_enter Tryz.func90, Tryz.ntmps90
    go_wp2
    go_ret
    exact ⟨by rw [HR.out]; rfl, 0, rfl⟩
  rw [← hlen] at HV ⊢
  have HLEN := mkHid hlen
  clear hm hlen
  go_enter Tryz.func90, Tryz.ntmps90
  go_wp2
  go_loopw [13] (fun i wr => ∃ k : Nat, k ≤ l.length ∧ i = .int .i64 k ∧ Hid (eqL sameI l m = eqL sameI (l.drop k) (m.drop k)) ∧ ∃ n, wr = w.drewN n) (fun i _ => l.length - (intOf i).toNat)
  case atStart => exact ⟨0, Nat.zero_le _, rfl, rfl, 0, rfl⟩
  case round =>
    obtain ⟨k, hk, rfl, HQ, n, rfl⟩ := hrel
    by_cases hlt : k < l.length
    · have hlm : k < m.length := by have := HLEN.out; omega
      obtain ⟨b, off, rfl, _, c0⟩ := HU.out.atI k hlt
      obtain ⟨b2, off2, rfl, _, d0⟩ := HV.out.atI k hlm
      have HST := mkHid (eqL_step sameI l m k hlt hlm)

      generalize l[k] = x at *
      generalize m[k] = y at *
      cases hs : sameI x y with
      | true =>
        have hs' : x = y := by simpa [sameI] using hs
        have HQ' : Hid (eqL sameI l m = eqL sameI (l.drop (k + 1)) (m.drop (k + 1))) := HQ.out.trans (by rw [HST.out, hs, Bool.true_and])
        go_wp2
        go_quiet (fail)
        go_wp2
        go_roundw
        case rel => exact ⟨k + 1, by omega, by go_num, HQ'.out, _, rfl⟩
        case measure => simp [intOf]; omega
      | false =>
        have hs' : ¬ x = y := by simpa [sameI] using hs
        have HQ' : Hid (eqL sameI l m = false) := HQ.out.trans (by rw [HST.out, hs, Bool.false_and])
        go_wp2
        go_quiet (fail)
        go_wp2
        go_ret
        exact ⟨by rw [HQ'.out]; rfl, _, World.drewN_drewN _ _ _⟩
    · have HQ' : Hid (eqL sameI l m = true) := HQ.out.trans (eqL_end sameI l m k hlt HLEN.out)
      go_wp2
      go_ret
      exact ⟨by rw [HQ'.out]; rfl, n, rfl⟩

set_option maxHeartbeats 1000000 in
theorem equalK_any (w : World) (M M' : Nat → Prop) (u v : Value) (l m : List KindD) (hu : SL 2 RK M w u l) (hv : SL 2 RK M' w v m) :
    Calls Tryz.prog 146 #[u, v] w fun r w' => r = .returned (.bool (eqL sameK l m)) ∧ ∃ n, w' = w.drewN n := by
  have HU := mkHid hu
  have HV := mkHid hv
  obtain ⟨au, cu, rfl, _, hl, -⟩ := hu
  obtain ⟨av, cv, rfl, _, hm, -⟩ := hv
  unfold maxLen at hl hm
  by_cases hlen : l.length = m.length
  rotate_left
  · have h0 : ¬ (l.length : Int) = m.length := by omega
    have HR := mkHid (eqL_len sameK l m hlen)
    clear hlen
    go_enter Tryz.func146, Tryz.ntmps146
    go_wp2
    go_ret
    exact ⟨by rw [HR.out]; rfl, 0, rfl⟩
  rw [← hlen] at HV ⊢
  have HLEN := mkHid hlen
  clear hm hlen
  go_enter Tryz.func146, Tryz.ntmps146
  go_wp2
  go_loopw [13] (fun i wr => ∃ k : Nat, k ≤ l.length ∧ i = .int .i64 k ∧ Hid (eqL sameK l m = eqL sameK (l.drop k) (m.drop k)) ∧ ∃ n, wr = w.drewN n) (fun i _ => l.length - (intOf i).toNat)
  case atStart => exact ⟨0, Nat.zero_le _, rfl, rfl, 0, rfl⟩
  case round =>
    obtain ⟨k, hk, rfl, HQ, n, rfl⟩ := hrel
    by_cases hlt : k < l.length
    · have hlm : k < m.length := by have := HLEN.out; omega
      obtain ⟨b, off, rfl, _, c0, c1, _⟩ := HU.out.atK k hlt
      obtain ⟨b2, off2, rfl, _, d0, d1, _⟩ := HV.out.atK k hlm
      have HST := mkHid (eqL_step sameK l m k hlt hlm)

      have hne := kindNeq l[k] m[k]
      have hng := kindNeqG
      generalize l[k] = x at *
      generalize m[k] = y at *
      cases hs : sameK x y with
      | true =>
        have HQ' : Hid (eqL sameK l m = eqL sameK (l.drop (k + 1)) (m.drop (k + 1))) := HQ.out.trans (by rw [HST.out, hs, Bool.true_and])
        go_wp2
        go_quiet (fail)
        go_wp2
        go_roundw
        case rel => exact ⟨k + 1, by omega, by go_num, HQ'.out, _, rfl⟩
        case measure => simp [intOf]; omega
      | false =>
        have HQ' : Hid (eqL sameK l m = false) := HQ.out.trans (by rw [HST.out, hs, Bool.false_and])
        go_wp2
        go_quiet (fail)
        go_wp2
        go_ret
        exact ⟨by rw [HQ'.out]; rfl, _, World.drewN_drewN _ _ _⟩
    · have HQ' : Hid (eqL sameK l m = true) := HQ.out.trans (eqL_end sameK l m k hlt HLEN.out)
      go_wp2
      go_ret
      exact ⟨by rw [HQ'.out]; rfl, n, rfl⟩

set_option maxHeartbeats 1000000 in
theorem equalF_any (w : World) (M M' : Nat → Prop) (u v : Value) (l m : List FieldD) (hu : SL 3 RF M w u l) (hv : SL 3 RF M' w v m) :
    Calls Tryz.prog 92 #[u, v] w fun r w' => r = .returned (.bool (eqL sameF l m)) ∧ ∃ n, w' = w.drewN n := by
  have HU := mkHid hu
  have HV := mkHid hv
  obtain ⟨au, cu, rfl, _, hl, -⟩ := hu
  obtain ⟨av, cv, rfl, _, hm, -⟩ := hv
  unfold maxLen at hl hm
  by_cases hlen : l.length = m.length
  rotate_left
  · have h0 : ¬ (l.length : Int) = m.length := by omega
    have HR := mkHid (eqL_len sameF l m hlen)
    clear hlen
    go_enter Tryz.func92, Tryz.ntmps92
    go_wp2
    go_ret
    exact ⟨by rw [HR.out]; rfl, 0, rfl⟩
  rw [← hlen] at HV ⊢
  have HLEN := mkHid hlen
  clear hm hlen
  go_enter Tryz.func92, Tryz.ntmps92
  go_wp2
  go_loopw [13] (fun i wr => ∃ k : Nat, k ≤ l.length ∧ i = .int .i64 k ∧ Hid (eqL sameF l m = eqL sameF (l.drop k) (m.drop k)) ∧ ∃ n, wr = w.drewN n) (fun i _ => l.length - (intOf i).toNat)
  case atStart => exact ⟨0, Nat.zero_le _, rfl, rfl, 0, rfl⟩
  case round =>
    obtain ⟨k, hk, rfl, HQ, n, rfl⟩ := hrel
    by_cases hlt : k < l.length
    · have hlm : k < m.length := by have := HLEN.out; omega
      obtain ⟨b, off, rfl, _, c0, c1, c2, _⟩ := HU.out.atF k hlt
      obtain ⟨b2, off2, rfl, _, d0, d1, d2, _⟩ := HV.out.atF k hlm
      have HST := mkHid (eqL_step sameF l m k hlt hlm)

      have hne := fieldNeq l[k] m[k]
      have hng := fieldNeqG
      generalize l[k] = x at *
      generalize m[k] = y at *
      cases hs : sameF x y with
      | true =>
        have HQ' : Hid (eqL sameF l m = eqL sameF (l.drop (k + 1)) (m.drop (k + 1))) := HQ.out.trans (by rw [HST.out, hs, Bool.true_and])
        go_wp2
        go_quiet (fail)
        go_wp2
        go_roundw
        case rel => exact ⟨k + 1, by omega, by go_num, HQ'.out, _, rfl⟩
        case measure => simp [intOf]; omega
      | false =>
        have HQ' : Hid (eqL sameF l m = false) := HQ.out.trans (by rw [HST.out, hs, Bool.false_and])
        go_wp2
        go_quiet (fail)
        go_wp2
        go_ret
        exact ⟨by rw [HQ'.out]; rfl, _, World.drewN_drewN _ _ _⟩
    · have HQ' : Hid (eqL sameF l m = true) := HQ.out.trans (eqL_end sameF l m k hlt HLEN.out)
      go_wp2
      go_ret
      exact ⟨by rw [HQ'.out]; rfl, n, rfl⟩

set_option maxHeartbeats 1000000 in
theorem equalS_any (w : World) (M M' : Nat → Prop) (u v : Value) (l m : List ByteArray) (hu : SL 1 RS M w u l) (hv : SL 1 RS M' w v m) :
    Calls Tryz.prog 94 #[u, v] w fun r w' => r = .returned (.bool (eqL sameS l m)) ∧ ∃ n, w' = w.drewN n := by
  have HU := mkHid hu
  have HV := mkHid hv
  obtain ⟨au, cu, rfl, _, hl, -⟩ := hu
  obtain ⟨av, cv, rfl, _, hm, -⟩ := hv
  unfold maxLen at hl hm
  by_cases hlen : l.length = m.length
  rotate_left
  · have h0 : ¬ (l.length : Int) = m.length := by omega
    have HR := mkHid (eqL_len sameS l m hlen)
    clear hlen
    go_enter Tryz.func94, Tryz.ntmps94
    go_wp2
    go_ret
    exact ⟨by rw [HR.out]; rfl, 0, rfl⟩
  rw [← hlen] at HV ⊢
  have HLEN := mkHid hlen
  clear hm hlen
  go_enter Tryz.func94, Tryz.ntmps94
  go_wp2
  go_loopw [13] (fun i wr => ∃ k : Nat, k ≤ l.length ∧ i = .int .i64 k ∧ Hid (eqL sameS l m = eqL sameS (l.drop k) (m.drop k)) ∧ ∃ n, wr = w.drewN n) (fun i _ => l.length - (intOf i).toNat)
  case atStart => exact ⟨0, Nat.zero_le _, rfl, rfl, 0, rfl⟩
  case round =>
    obtain ⟨k, hk, rfl, HQ, n, rfl⟩ := hrel
    by_cases hlt : k < l.length
    · have hlm : k < m.length := by have := HLEN.out; omega
      obtain ⟨b, off, rfl, _, c0, _⟩ := HU.out.atS k hlt
      obtain ⟨b2, off2, rfl, _, d0, _⟩ := HV.out.atS k hlm
      have HST := mkHid (eqL_step sameS l m k hlt hlm)

      generalize l[k] = x at *
      generalize m[k] = y at *
      cases hs : sameS x y with
      | true =>
        have hs' : (x.toList == y.toList) = true := hs
        have HQ' : Hid (eqL sameS l m = eqL sameS (l.drop (k + 1)) (m.drop (k + 1))) := HQ.out.trans (by rw [HST.out, hs, Bool.true_and])
        go_wp2
        go_quiet (fail)
        go_wp2
        go_roundw
        case rel => exact ⟨k + 1, by omega, by go_num, HQ'.out, _, rfl⟩
        case measure => simp [intOf]; omega
      | false =>
        have hs' : (x.toList == y.toList) = false := hs
        have HQ' : Hid (eqL sameS l m = false) := HQ.out.trans (by rw [HST.out, hs, Bool.false_and])
        go_wp2
        go_quiet (fail)
        go_wp2
        go_ret
        exact ⟨by rw [HQ'.out]; rfl, _, World.drewN_drewN _ _ _⟩
    · have HQ' : Hid (eqL sameS l m = true) := HQ.out.trans (eqL_end sameS l m k hlt HLEN.out)
      go_wp2
      go_ret
      exact ⟨by rw [HQ'.out]; rfl, n, rfl⟩

set_option maxHeartbeats 1000000 in
theorem equalT_any (w : World) (M M' : Nat → Prop) (u v : Value) (l m : List TargD) (hu : SL 2 RT M w u l) (hv : SL 2 RT M' w v m) :
    Calls Tryz.prog 96 #[u, v] w fun r w' => r = .returned (.bool (eqL sameT l m)) ∧ ∃ n, w' = w.drewN n := by
  have HU := mkHid hu
  have HV := mkHid hv
  obtain ⟨au, cu, rfl, _, hl, -⟩ := hu
  obtain ⟨av, cv, rfl, _, hm, -⟩ := hv
  unfold maxLen at hl hm
  by_cases hlen : l.length = m.length
  rotate_left
  · have h0 : ¬ (l.length : Int) = m.length := by omega
    have HR := mkHid (eqL_len sameT l m hlen)
    clear hlen
    go_enter Tryz.func96, Tryz.ntmps96
    go_wp2
    go_ret
    exact ⟨by rw [HR.out]; rfl, 0, rfl⟩
  rw [← hlen] at HV ⊢
  have HLEN := mkHid hlen
  clear hm hlen
  go_enter Tryz.func96, Tryz.ntmps96
  go_wp2
  go_loopw [13] (fun i wr => ∃ k : Nat, k ≤ l.length ∧ i = .int .i64 k ∧ Hid (eqL sameT l m = eqL sameT (l.drop k) (m.drop k)) ∧ ∃ n, wr = w.drewN n) (fun i _ => l.length - (intOf i).toNat)
  case atStart => exact ⟨0, Nat.zero_le _, rfl, rfl, 0, rfl⟩
  case round =>
    obtain ⟨k, hk, rfl, HQ, n, rfl⟩ := hrel
    by_cases hlt : k < l.length
    · have hlm : k < m.length := by have := HLEN.out; omega
      obtain ⟨b, off, rfl, _, c0, c1⟩ := HU.out.atT k hlt
      obtain ⟨b2, off2, rfl, _, d0, d1⟩ := HV.out.atT k hlm
      have HST := mkHid (eqL_step sameT l m k hlt hlm)

      have hne := targNeq l[k] m[k]
      have hng := targNeqG
      generalize l[k] = x at *
      generalize m[k] = y at *
      cases hs : sameT x y with
      | true =>
        have HQ' : Hid (eqL sameT l m = eqL sameT (l.drop (k + 1)) (m.drop (k + 1))) := HQ.out.trans (by rw [HST.out, hs, Bool.true_and])
        go_wp2
        go_quiet (fail)
        go_wp2
        go_roundw
        case rel => exact ⟨k + 1, by omega, by go_num, HQ'.out, _, rfl⟩
        case measure => simp [intOf]; omega
      | false =>
        have HQ' : Hid (eqL sameT l m = false) := HQ.out.trans (by rw [HST.out, hs, Bool.false_and])
        go_wp2
        go_quiet (fail)
        go_wp2
        go_ret
        exact ⟨by rw [HQ'.out]; rfl, _, World.drewN_drewN _ _ _⟩
    · have HQ' : Hid (eqL sameT l m = true) := HQ.out.trans (eqL_end sameT l m k hlt HLEN.out)
      go_wp2
      go_ret
      exact ⟨by rw [HQ'.out]; rfl, n, rfl⟩

set_option maxHeartbeats 1000000 in
theorem equalFs_any (w : World) (M M' : Nat → Prop) (u v : Value) (l m : List (List FieldD)) (hu : SL 1 (RSl 3 RF) M w u l) (hv : SL 1 (RSl 3 RF) M' w v m) :
    Calls Tryz.prog 91 #[u, v, .func (.func 92) #[] #[]] w fun r w' => r = .returned (.bool (eqL (eqL sameF) l m)) ∧ ∃ n, w' = w.drewN n := by
  have HU := mkHid hu
  have HV := mkHid hv
  obtain ⟨au, cu, rfl, _, hl, -⟩ := hu
  obtain ⟨av, cv, rfl, _, hm, -⟩ := hv
  unfold maxLen at hl hm
  by_cases hlen : l.length = m.length
  rotate_left
  · have h0 : ¬ (l.length : Int) = m.length := by omega
    have HR := mkHid (eqL_len (eqL sameF) l m hlen)
    clear hlen
    go_enter Tryz.func91, Tryz.ntmps91
    go_wp2
    go_ret
    exact ⟨by rw [HR.out]; rfl, 0, rfl⟩
  rw [← hlen] at HV ⊢
  have HLEN := mkHid hlen
  clear hm hlen
  go_enter Tryz.func91, Tryz.ntmps91
  go_wp2
  go_loopw [17] (fun i wr => ∃ k : Nat, k ≤ l.length ∧ i = .int .i64 k ∧ Hid (eqL (eqL sameF) l m = eqL (eqL sameF) (l.drop k) (m.drop k)) ∧ ∃ n, wr = w.drewN n) (fun i _ => l.length - (intOf i).toNat)
  case atStart => exact ⟨0, Nat.zero_le _, rfl, rfl, 0, rfl⟩
  case round =>
    obtain ⟨k, hk, rfl, HQ, n, rfl⟩ := hrel
    by_cases hlt : k < l.length
    · have hlm : k < m.length := by have := HLEN.out; omega
      obtain ⟨b, off, a1, k1, rfl, _, c0, su⟩ := HU.out.atSl k hlt
      obtain ⟨b2, off2, a2, k2, rfl, _, d0, sv⟩ := HV.out.atSl k hlm
      have HST := mkHid (eqL_step (eqL sameF) l m k hlt hlm)
      generalize l[k] = x at *
      generalize m[k] = y at *
      have HC := mkHid (equalF_any (w.drewN n) M M' _ _ x y (su.kept ⟨Nat.le_refl _, fun _ _ _ => rfl⟩ fun _ _ h => h) (sv.kept ⟨Nat.le_refl _, fun _ _ _ => rfl⟩ fun _ _ h => h))
      clear su sv
      cases hs : eqL sameF x y with
      | true =>
        rw [hs] at HC
        have HQ' : Hid (eqL (eqL sameF) l m = eqL (eqL sameF) (l.drop (k + 1)) (m.drop (k + 1))) := HQ.out.trans (by rw [HST.out, hs, Bool.true_and])
        clear hs
        go_wp2_with (first | (go_at_call 92; refine HC.out.mono ?_; rintro r w7 ⟨rfl, n7, rfl⟩))
        go_roundw
        case rel => exact ⟨k + 1, by omega, by go_num, HQ'.out, _, rfl⟩
        case measure => simp [intOf]; omega
      | false =>
        rw [hs] at HC
        have HQ' : Hid (eqL (eqL sameF) l m = false) := HQ.out.trans (by rw [HST.out, hs, Bool.false_and])
        clear hs
        go_wp2_with (first | (go_at_call 92; refine HC.out.mono ?_; rintro r w7 ⟨rfl, n7, rfl⟩))
        go_ret
        exact ⟨by rw [HQ'.out]; rfl, _, rfl⟩
    · have HQ' : Hid (eqL (eqL sameF) l m = true) := HQ.out.trans (eqL_end (eqL sameF) l m k hlt HLEN.out)
      go_wp2
      go_ret
      exact ⟨by rw [HQ'.out]; rfl, n, rfl⟩

set_option maxHeartbeats 1000000 in
theorem equalSs_any (w : World) (M M' : Nat → Prop) (u v : Value) (l m : List (List ByteArray)) (hu : SL 1 (RSl 1 RS) M w u l) (hv : SL 1 (RSl 1 RS) M' w v m) :
    Calls Tryz.prog 93 #[u, v, .func (.func 94) #[] #[]] w fun r w' => r = .returned (.bool (eqL (eqL sameS) l m)) ∧ ∃ n, w' = w.drewN n := by
  have HU := mkHid hu
  have HV := mkHid hv
  obtain ⟨au, cu, rfl, _, hl, -⟩ := hu
  obtain ⟨av, cv, rfl, _, hm, -⟩ := hv
  unfold maxLen at hl hm
  by_cases hlen : l.length = m.length
  rotate_left
  · have h0 : ¬ (l.length : Int) = m.length := by omega
    have HR := mkHid (eqL_len (eqL sameS) l m hlen)
    clear hlen
    go_enter Tryz.func93, Tryz.ntmps93
    go_wp2
    go_ret
    exact ⟨by rw [HR.out]; rfl, 0, rfl⟩
  rw [← hlen] at HV ⊢
  have HLEN := mkHid hlen
  clear hm hlen
  go_enter Tryz.func93, Tryz.ntmps93
  go_wp2
  go_loopw [17] (fun i wr => ∃ k : Nat, k ≤ l.length ∧ i = .int .i64 k ∧ Hid (eqL (eqL sameS) l m = eqL (eqL sameS) (l.drop k) (m.drop k)) ∧ ∃ n, wr = w.drewN n) (fun i _ => l.length - (intOf i).toNat)
  case atStart => exact ⟨0, Nat.zero_le _, rfl, rfl, 0, rfl⟩
  case round =>
    obtain ⟨k, hk, rfl, HQ, n, rfl⟩ := hrel
    by_cases hlt : k < l.length
    · have hlm : k < m.length := by have := HLEN.out; omega
      obtain ⟨b, off, a1, k1, rfl, _, c0, su⟩ := HU.out.atSl k hlt
      obtain ⟨b2, off2, a2, k2, rfl, _, d0, sv⟩ := HV.out.atSl k hlm
      have HST := mkHid (eqL_step (eqL sameS) l m k hlt hlm)
      generalize l[k] = x at *
      generalize m[k] = y at *
      have HC := mkHid (equalS_any (w.drewN n) M M' _ _ x y (su.kept ⟨Nat.le_refl _, fun _ _ _ => rfl⟩ fun _ _ h => h) (sv.kept ⟨Nat.le_refl _, fun _ _ _ => rfl⟩ fun _ _ h => h))
      clear su sv
      cases hs : eqL sameS x y with
      | true =>
        rw [hs] at HC
        have HQ' : Hid (eqL (eqL sameS) l m = eqL (eqL sameS) (l.drop (k + 1)) (m.drop (k + 1))) := HQ.out.trans (by rw [HST.out, hs, Bool.true_and])
        clear hs
        go_wp2_with (first | (go_at_call 94; refine HC.out.mono ?_; rintro r w7 ⟨rfl, n7, rfl⟩))
        go_roundw
        case rel => exact ⟨k + 1, by omega, by go_num, HQ'.out, _, rfl⟩
        case measure => simp [intOf]; omega
      | false =>
        rw [hs] at HC
        have HQ' : Hid (eqL (eqL sameS) l m = false) := HQ.out.trans (by rw [HST.out, hs, Bool.false_and])
        clear hs
        go_wp2_with (first | (go_at_call 94; refine HC.out.mono ?_; rintro r w7 ⟨rfl, n7, rfl⟩))
        go_ret
        exact ⟨by rw [HQ'.out]; rfl, _, rfl⟩
    · have HQ' : Hid (eqL (eqL sameS) l m = true) := HQ.out.trans (eqL_end (eqL sameS) l m k hlt HLEN.out)
      go_wp2
      go_ret
      exact ⟨by rw [HQ'.out]; rfl, n, rfl⟩

set_option maxHeartbeats 1000000 in
theorem equalTs_any (w : World) (M M' : Nat → Prop) (u v : Value) (l m : List (List TargD)) (hu : SL 1 (RSl 2 RT) M w u l) (hv : SL 1 (RSl 2 RT) M' w v m) :
    Calls Tryz.prog 95 #[u, v, .func (.func 96) #[] #[]] w fun r w' => r = .returned (.bool (eqL (eqL sameT) l m)) ∧ ∃ n, w' = w.drewN n := by
  have HU := mkHid hu
  have HV := mkHid hv
  obtain ⟨au, cu, rfl, _, hl, -⟩ := hu
  obtain ⟨av, cv, rfl, _, hm, -⟩ := hv
  unfold maxLen at hl hm
  by_cases hlen : l.length = m.length
  rotate_left
  · have h0 : ¬ (l.length : Int) = m.length := by omega
    have HR := mkHid (eqL_len (eqL sameT) l m hlen)
    clear hlen
    go_enter Tryz.func95, Tryz.ntmps95
    go_wp2
    go_ret
    exact ⟨by rw [HR.out]; rfl, 0, rfl⟩
  rw [← hlen] at HV ⊢
  have HLEN := mkHid hlen
  clear hm hlen
  go_enter Tryz.func95, Tryz.ntmps95
  go_wp2
  go_loopw [17] (fun i wr => ∃ k : Nat, k ≤ l.length ∧ i = .int .i64 k ∧ Hid (eqL (eqL sameT) l m = eqL (eqL sameT) (l.drop k) (m.drop k)) ∧ ∃ n, wr = w.drewN n) (fun i _ => l.length - (intOf i).toNat)
  case atStart => exact ⟨0, Nat.zero_le _, rfl, rfl, 0, rfl⟩
  case round =>
    obtain ⟨k, hk, rfl, HQ, n, rfl⟩ := hrel
    by_cases hlt : k < l.length
    · have hlm : k < m.length := by have := HLEN.out; omega
      obtain ⟨b, off, a1, k1, rfl, _, c0, su⟩ := HU.out.atSl k hlt
      obtain ⟨b2, off2, a2, k2, rfl, _, d0, sv⟩ := HV.out.atSl k hlm
      have HST := mkHid (eqL_step (eqL sameT) l m k hlt hlm)
      generalize l[k] = x at *
      generalize m[k] = y at *
      have HC := mkHid (equalT_any (w.drewN n) M M' _ _ x y (su.kept ⟨Nat.le_refl _, fun _ _ _ => rfl⟩ fun _ _ h => h) (sv.kept ⟨Nat.le_refl _, fun _ _ _ => rfl⟩ fun _ _ h => h))
      clear su sv
      cases hs : eqL sameT x y with
      | true =>
        rw [hs] at HC
        have HQ' : Hid (eqL (eqL sameT) l m = eqL (eqL sameT) (l.drop (k + 1)) (m.drop (k + 1))) := HQ.out.trans (by rw [HST.out, hs, Bool.true_and])
        clear hs
        go_wp2_with (first | (go_at_call 96; refine HC.out.mono ?_; rintro r w7 ⟨rfl, n7, rfl⟩))
        go_roundw
        case rel => exact ⟨k + 1, by omega, by go_num, HQ'.out, _, rfl⟩
        case measure => simp [intOf]; omega
      | false =>
        rw [hs] at HC
        have HQ' : Hid (eqL (eqL sameT) l m = false) := HQ.out.trans (by rw [HST.out, hs, Bool.false_and])
        clear hs
        go_wp2_with (first | (go_at_call 96; refine HC.out.mono ?_; rintro r w7 ⟨rfl, n7, rfl⟩))
        go_ret
        exact ⟨by rw [HQ'.out]; rfl, _, rfl⟩
    · have HQ' : Hid (eqL (eqL sameT) l m = true) := HQ.out.trans (eqL_end (eqL sameT) l m k hlt HLEN.out)
      go_wp2
      go_ret
      exact ⟨by rw [HQ'.out]; rfl, n, rfl⟩

end Go.Proofs.YtkpklkhkhhlifabGreat
