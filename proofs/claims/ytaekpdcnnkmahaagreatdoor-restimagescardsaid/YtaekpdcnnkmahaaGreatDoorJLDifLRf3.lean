/- No two of a list have one name. -/
import Derived.Test.YtaekpdcnnkmahaaGreatDoorJCatchLAsk
import Derived.Test.YtaekpdcnnkmahaaGreatDoorGrow
import Derived.Deep.RegionWith
import Derived.Test.YtaekpdcnnkmahaaGreatDoorLSet
import Derived.Sort.WalkB12
import Derived.Lib.SlicesMore
import Derived.BigRegion
import Derived.Deep.AppendLies
import Derived.Deep.AppendSrc
import Derived.Test.YtaekpdcnnkmahaaGreatDoorFine
import Derived.Deep.DeepCutAuto
namespace Go.Proofs.YtaekpdcnnkmahaaGreatDoor
open Go.RowKit

theorem SL.take {α : Type} {n : Nat} {R : (Nat → Prop) → World → List Value → α → Prop} {M : Nat → Prop} {w : World} {ao : Option Addr} {len cap : Nat} {l : List α} (h : SL n R M w (.slice ao len cap) l) (k : Nat) (hk : k ≤ l.length) : SL n R M w (.slice ao k cap) (l.take k) := by
  obtain ⟨ao', cap', e, h1, h2, h3⟩ := h
  cases e
  have hl : (l.take k).length = k := by simp; omega
  refine ⟨ao, cap, by rw [hl], by omega, by omega, fun j hj => ?_⟩
  obtain ⟨b, off, cs, e, hM, hb, hn, hc, hr⟩ := h3 j (by omega)
  exact ⟨b, off, cs, e, hM, hb, hn, hc, by rw [List.getElem_take]; exact hr⟩
theorem differ_pre (l m : List ByteArray) (h : differB (l ++ m) = true) : differB l = true := by
  induction m using snoc_ind with
  | h0 => simpa using h
  | h1 m x ih =>
    rw [← List.append_assoc, differB_snoc] at h
    simp only [Bool.and_eq_true] at h
    exact ih h.1
theorem differ_stop {α : Type} {f : α → ByteArray} {l : List α} {k : Nat} (hk : k < l.length) (h : (l.take k).any (fun y => decide (f l[k] = f y)) = true) : differB (l.map f) = false := by
  cases hd : differB (l.map f)
  · rfl
  · have e : l = l.take (k + 1) ++ l.drop (k + 1) := (List.take_append_drop _ _).symm
    rw [e, List.map_append] at hd
    have h1 := differ_pre _ _ hd
    rw [List.take_succ_eq_append_getElem hk, List.map_append, List.map_cons, List.map_nil, differB_snoc] at h1
    simp only [Bool.and_eq_true, List.all_map] at h1
    rw [List.any_eq_true] at h
    obtain ⟨y, hy, hy2⟩ := h
    have := List.all_eq_true.1 h1.2 y hy
    simp at this hy2
    exact absurd hy2 this
theorem differ_go {α : Type} {f : α → ByteArray} {l : List α} {k : Nat} (hk : k < l.length) (hd : differB ((l.take k).map f) = true) (h : (l.take k).any (fun y => decide (f l[k] = f y)) = false) : differB ((l.take (k + 1)).map f) = true := by
  rw [List.take_succ_eq_append_getElem hk, List.map_append, List.map_cons, List.map_nil, differB_snoc, hd, Bool.true_and, List.all_map, List.all_eq_true]
  intro y hy
  rw [List.any_eq_false] at h
  have := h y hy
  simpa using this

set_option maxHeartbeats 1000000 in
theorem nameF_any (w : World) (B : Nat) (y : FieldD) (u : Value) (hu : ElF B w u y) : Calls Tryz.prog 176 #[u] w fun r w' => r = .returned (.string y.name) ∧ Below w.heap.size w w' := by
  obtain ⟨rfl, -, -⟩ := hu
  go_enter Tryz.func176, Tryz.ntmps176
  go_wp2_with fail
  go_ret
  exact ⟨rfl, (Below.refl _ _).alloc (Nat.le_refl _) _⟩
set_option maxHeartbeats 2000000 in
theorem differF1_any (w : World) (B Pn Px : Nat) (x y : FieldD) (u : Value) (hu : ElF B w u y) (hX : ElF B w (.agg #[.string x.name, .int .i64 x.kind.kind, .string x.kind.cls]) x) (hBw : B ≤ w.heap.size)
    (hn : w.cell? ⟨Pn, 0, none⟩ = some (.func (.func 176) #[] #[])) (hx0 : w.cell? ⟨Px, 0, none⟩ = some (.string x.name)) (hx1 : w.cell? ⟨Px, 1, none⟩ = some (.int .i64 x.kind.kind)) (hx2 : w.cell? ⟨Px, 2, none⟩ = some (.string x.kind.cls)) :
    Calls Tryz.prog 209 #[u, .pointer (some ⟨Pn, 0, none⟩), .pointer (some ⟨Px, 0, none⟩)] w fun r w' => r = .returned (.bool (decide (x.name = y.name))) ∧ Below w.heap.size w w' := by
  have hU := hu
  obtain ⟨rfl, -, -⟩ := hu
  have hPn : Pn < w.heap.size := World.block_lt_of_cell? w _ hn
  have hPx : Px < w.heap.size := World.block_lt_of_cell? w _ hx0
  have hB1 := (Below.refl w.heap.size w).alloc (Nat.le_refl _) (.cells #[.string y.name, .int .i64 y.kind.kind, .string y.kind.cls] 53)
  have hU1 := hU.below (hB1.mono hBw)
  have hX1 := hX.below (hB1.mono hBw)
  obtain ⟨W0, hW⟩ : ∃ W0, W0 = w.alloc (.cells #[.string y.name, .int .i64 y.kind.kind, .string y.kind.cls] 53) := ⟨_, rfl⟩
  have hz : w.heap.size + 1 ≤ W0.heap.size := by rw [hW]; simp
  rw [← hW] at hB1 hU1 hX1
  have hne : Nonempty (Gr (w.heap.size + 1) W0) := ⟨⟨W0, Below.refl _ _⟩⟩
  have kn : ∀ g : Gr (w.heap.size + 1) W0, g.w.cell? ⟨Pn, 0, none⟩ = some (.func (.func 176) #[] #[]) := fun g => (g.ok.cell (p := ⟨Pn, 0, none⟩) (by simp; omega)).trans ((hB1.cell (p := ⟨Pn, 0, none⟩) hPn).trans hn)
  have kx0 : ∀ g : Gr (w.heap.size + 1) W0, g.w.cell? ⟨Px, 0, none⟩ = some (.string x.name) := fun g => (g.ok.cell (p := ⟨Px, 0, none⟩) (by simp; omega)).trans ((hB1.cell (p := ⟨Px, 0, none⟩) hPx).trans hx0)
  have kx1 : ∀ g : Gr (w.heap.size + 1) W0, g.w.cell? ⟨Px, 1, none⟩ = some (.int .i64 x.kind.kind) := fun g => (g.ok.cell (p := ⟨Px, 1, none⟩) (by simp; omega)).trans ((hB1.cell (p := ⟨Px, 1, none⟩) hPx).trans hx1)
  have kx2 : ∀ g : Gr (w.heap.size + 1) W0, g.w.cell? ⟨Px, 2, none⟩ = some (.string x.kind.cls) := fun g => (g.ok.cell (p := ⟨Px, 2, none⟩) (by simp; omega)).trans ((hB1.cell (p := ⟨Px, 2, none⟩) hPx).trans hx2)
  have ky0 : ∀ g : Gr (w.heap.size + 1) W0, g.w.cell? ⟨w.heap.size, 0, none⟩ = some (.string y.name) := fun g => (g.ok.cell (p := ⟨w.heap.size, 0, none⟩) (by simp)).trans (by rw [hW]; simp [go_sem])
  have ky1 : ∀ g : Gr (w.heap.size + 1) W0, g.w.cell? ⟨w.heap.size, 1, none⟩ = some (.int .i64 y.kind.kind) := fun g => (g.ok.cell (p := ⟨w.heap.size, 1, none⟩) (by simp)).trans (by rw [hW]; simp [go_sem])
  have ky2 : ∀ g : Gr (w.heap.size + 1) W0, g.w.cell? ⟨w.heap.size, 2, none⟩ = some (.string y.kind.cls) := fun g => (g.ok.cell (p := ⟨w.heap.size, 2, none⟩) (by simp)).trans (by rw [hW]; simp [go_sem])
  have HCX : Hid (∀ g : Gr (w.heap.size + 1) W0, Calls Tryz.prog 176 #[.agg #[.string x.name, .int .i64 x.kind.kind, .string x.kind.cls]] g.w fun e w'' => e = .returned (.string x.name) ∧ ∃ g' : Gr (w.heap.size + 1) W0, w'' = g'.w) := fun g => Gr.calls g hz (nameF_any g.w B x _ (hX1.below (g.ok.mono (by omega))))
  have HCY : Hid (∀ g : Gr (w.heap.size + 1) W0, Calls Tryz.prog 176 #[.agg #[.string y.name, .int .i64 y.kind.kind, .string y.kind.cls]] g.w fun e w'' => e = .returned (.string y.name) ∧ ∃ g' : Gr (w.heap.size + 1) W0, w'' = g'.w) := fun g => Gr.calls g hz (nameF_any g.w B y _ (hU1.below (g.ok.mono (by omega))))
  have HB1 := mkHid hB1
  clear hU hX hU1 hX1 hB1 hn hx0 hx1 hx2
  go_enter Tryz.func209, Tryz.ntmps209
  go_wp2_with fail
  rw [← hW]
  clear hW
  refine wp_region_grow_lit (w.heap.size + 1) W0 (by kernel_rfl) (by kernel_rfl) (Below.refl _ _) ?_
  repeat (go_big_quiet_step (first | (go_at_call_of 176 x; exact HCX.out _) | (go_at_call_of 176 y; exact HCY.out _)))
  refine wpQuiet_nil ?_
  intro _ hw'
  obtain ⟨g, rfl⟩ := hw'
  have hg := HB1.out.trans (g.ok.mono (by omega))
  generalize g.w = w2 at *
  clear kn kx0 ky0 kx1 ky1 kx2 ky2 hne
  by_cases h : x.name = y.name
  · have t := congrArg ByteArray.toList h
    have HD : Hid (decide (x.name = y.name) = true) := by show decide (x.name = y.name) = true; simp [h]
    clear h
    go_wp2_with fail
    go_ret
    exact ⟨by rw [HD.out]; simp [t], hg⟩
  · have t : ¬ x.name.toList = y.name.toList := fun e => h (tl_inj e)
    have HD : Hid (decide (x.name = y.name) = false) := by show decide (x.name = y.name) = false; simp [h]
    clear h
    go_wp2_with fail
    go_ret
    exact ⟨by rw [HD.out]; simp [t], hg⟩

set_option maxHeartbeats 2000000 in
theorem differF_any (w : World) (B : Nat) (v : Value) (l : List FieldD) (hv : SL 3 RF (· < B) w v l) (hB : B ≤ w.heap.size) :
    Calls Tryz.prog 175 #[v, .func (.func 176) #[] #[]] w fun r w' => r = .returned (.bool (differB (l.map (·.name)))) ∧ Below w.heap.size w w' := by
  have hmf : ∀ (fn : Fn) (first cap : Array Value) (w : World), (Instr.makeFunc fn first cap).run Tryz.prog w = .ok (.func fn first cap) w := fun _ _ _ _ => rfl
  have HV := mkHid hv
  obtain ⟨ao0, cl, rfl, hcl, hll, -⟩ := hv
  unfold maxLen at hll
  have hB0 := (Below.refl w.heap.size w).alloc (Nat.le_refl _) (.cells #[.func (.func 176) #[] #[]] 215)
  have HB0 := mkHid hB0
  clear hB0
  go_enter Tryz.func175, Tryz.ntmps175
  go_wp2_with fail
  go_loopw [9] (fun i wr => ∃ k : Nat, k ≤ l.length ∧ i = .int .i64 k ∧ Hid (differB ((l.take k).map (·.name)) = true) ∧ Hid (Below (w.heap.size + 1) (w.alloc (.cells #[.func (.func 176) #[] #[]] 215)) wr)) (fun i _ => l.length - (intOf i).toNat)
  case atStart => exact ⟨0, Nat.zero_le _, rfl, rfl, Below.refl _ _⟩
  case round =>
    obtain ⟨k, hk, rfl, HP, HBB⟩ := hrel
    have hBr : Below w.heap.size w wr := HB0.out.trans (HBB.out.mono (by omega))
    have hzr : w.heap.size + 1 ≤ wr.heap.size := by have := HBB.out.size; simpa using this
    have HBR := mkHid hBr
    by_cases hlt : k < l.length
    · obtain ⟨b, off, rfl, hb, e0, e1, e2, es1, es2⟩ := (HV.out.keptF (Kp.below (hBr.mono hB))).atF k hlt
      have hkc : (k : Int) ≤ cl := by omega
      have hk0 : (0 : Int) ≤ k := by omega
      have hB1 := hBr.alloc hBr.size (.cells #[.string l[k].name, .int .i64 l[k].kind.kind, .string l[k].kind.cls] 53)
      have HEL : Hid (ElF B (wr.alloc (.cells #[.string l[k].name, .int .i64 l[k].kind.kind, .string l[k].kind.cls] 53)) (.agg #[.string l[k].name, .int .i64 l[k].kind.kind, .string l[k].kind.cls]) l[k]) := ⟨rfl, es1, es2⟩
      have HB1 := mkHid hB1
      clear hB1
      go_wp2_with fail
      refine (containsF_any _ B _ (l.take k) ((HV.out.keptF (Kp.below (HB1.out.mono hB))).take k hk) (by simp; omega) 209 _ (fun y => decide (l[k].name = y.name)) (fun args w => by kernel_rfl) ?_).mono ?_
      · intro y _ u W hW hu
        refine differF1_any W B w.heap.size wr.heap.size l[k] y u hu (HEL.out.below (hW.mono (by simp; omega))) (by have := hW.size; simp at this; omega) ?_ ?_ ?_ ?_
        · exact (hW.cell (p := ⟨w.heap.size, 0, none⟩) (by simp; omega)).trans (by rw [World.cell?_alloc_past _ _ _ (by omega)]; exact (HBB.out.cell (p := ⟨w.heap.size, 0, none⟩) (by simp)).trans (by simp [go_sem]))
        · exact (hW.cell (p := ⟨wr.heap.size, 0, none⟩) (by simp)).trans (by simp [go_sem])
        · exact (hW.cell (p := ⟨wr.heap.size, 1, none⟩) (by simp)).trans (by simp [go_sem])
        · exact (hW.cell (p := ⟨wr.heap.size, 2, none⟩) (by simp)).trans (by simp [go_sem])
      rintro r w2 ⟨rfl, hb2⟩
      have HB2 : Hid (Below (w.heap.size + 1) (w.alloc (.cells #[.func (.func 176) #[] #[]] 215)) w2) := (HBB.out.alloc (by omega) _).trans (hb2.mono (by simp; omega))
      have HBW := mkHid (HB1.out.trans (hb2.mono (by have := hBr.size; simp; omega)))
      clear hb2 e0 e1 e2
      cases hp : (l.take k).any (fun y => decide (l[k].name = y.name))
      · have HX := mkHid (differ_go (f := (·.name)) hlt HP.out hp)
        clear hp
        go_wp2_with fail
        go_roundw
        case rel => exact ⟨k + 1, by omega, by go_num, HX.out, HB2.out⟩
        case measure => simp [intOf]; omega
      · have HX := mkHid (differ_stop (f := (·.name)) hlt hp)
        clear hp
        go_wp2_with fail
        go_ret
        exact ⟨by rw [HX.out]; rfl, HBW.out⟩
    · have HX : Hid (differB (l.map (·.name)) = true) := by have := HP.out; rwa [List.take_of_length_le (by omega)] at this
      go_wp2_with fail
      go_ret
      exact ⟨by rw [HX.out]; rfl, HBR.out⟩

set_option maxHeartbeats 1000000 in
theorem nameM_any (w : World) (B : Nat) (y : MethD) (u : Value) (hu : ElM B w u y) : Calls Tryz.prog 179 #[u] w fun r w' => r = .returned (.string y.name) ∧ Below w.heap.size w w' := by
  obtain ⟨ao2, ca2, ho2, ch2, rfl, -, -, -, -, -⟩ := hu
  go_enter Tryz.func179, Tryz.ntmps179
  go_wp2_with fail
  go_ret
  exact ⟨rfl, (Below.refl _ _).alloc (Nat.le_refl _) _⟩
set_option maxHeartbeats 2000000 in
theorem differM1_any (w : World) (B Pn Px : Nat) (x y : MethD) (ao : Option Addr) (ca : Nat) (ho : Option Addr) (ch : Nat) (u : Value) (hu : ElM B w u y) (hX : ElM B w (.agg #[.string x.name, .bool x.static, .slice ao x.args.length ca, .int .i64 x.ret.kind, .string x.ret.cls, .int .i64 x.stack, .int .i64 x.locals, .string x.code, .slice ho x.hands.length ch]) x) (hBw : B ≤ w.heap.size)
    (hn : w.cell? ⟨Pn, 0, none⟩ = some (.func (.func 179) #[] #[])) (hx0 : w.cell? ⟨Px, 0, none⟩ = some (.string x.name)) (hx1 : w.cell? ⟨Px, 1, none⟩ = some (.bool x.static)) (hx2 : w.cell? ⟨Px, 2, none⟩ = some (.slice ao x.args.length ca)) (hx3 : w.cell? ⟨Px, 3, none⟩ = some (.int .i64 x.ret.kind)) (hx4 : w.cell? ⟨Px, 4, none⟩ = some (.string x.ret.cls)) (hx5 : w.cell? ⟨Px, 5, none⟩ = some (.int .i64 x.stack)) (hx6 : w.cell? ⟨Px, 6, none⟩ = some (.int .i64 x.locals)) (hx7 : w.cell? ⟨Px, 7, none⟩ = some (.string x.code)) (hx8 : w.cell? ⟨Px, 8, none⟩ = some (.slice ho x.hands.length ch)) :
    Calls Tryz.prog 210 #[u, .pointer (some ⟨Pn, 0, none⟩), .pointer (some ⟨Px, 0, none⟩)] w fun r w' => r = .returned (.bool (decide (x.name = y.name))) ∧ Below w.heap.size w w' := by
  have hU := hu
  obtain ⟨ao2, ca2, ho2, ch2, rfl, -, -, -, -, -⟩ := hu
  have hPn : Pn < w.heap.size := World.block_lt_of_cell? w _ hn
  have hPx : Px < w.heap.size := World.block_lt_of_cell? w _ hx0
  have hB1 := (Below.refl w.heap.size w).alloc (Nat.le_refl _) (.cells #[.string y.name, .bool y.static, .slice ao2 y.args.length ca2, .int .i64 y.ret.kind, .string y.ret.cls, .int .i64 y.stack, .int .i64 y.locals, .string y.code, .slice ho2 y.hands.length ch2] 76)
  have hU1 := hU.below (hB1.mono hBw)
  have hX1 := hX.below (hB1.mono hBw)
  obtain ⟨W0, hW⟩ : ∃ W0, W0 = w.alloc (.cells #[.string y.name, .bool y.static, .slice ao2 y.args.length ca2, .int .i64 y.ret.kind, .string y.ret.cls, .int .i64 y.stack, .int .i64 y.locals, .string y.code, .slice ho2 y.hands.length ch2] 76) := ⟨_, rfl⟩
  have hz : w.heap.size + 1 ≤ W0.heap.size := by rw [hW]; simp
  rw [← hW] at hB1 hU1 hX1
  have hne : Nonempty (Gr (w.heap.size + 1) W0) := ⟨⟨W0, Below.refl _ _⟩⟩
  have kn : ∀ g : Gr (w.heap.size + 1) W0, g.w.cell? ⟨Pn, 0, none⟩ = some (.func (.func 179) #[] #[]) := fun g => (g.ok.cell (p := ⟨Pn, 0, none⟩) (by simp; omega)).trans ((hB1.cell (p := ⟨Pn, 0, none⟩) hPn).trans hn)
  have kx0 : ∀ g : Gr (w.heap.size + 1) W0, g.w.cell? ⟨Px, 0, none⟩ = some (.string x.name) := fun g => (g.ok.cell (p := ⟨Px, 0, none⟩) (by simp; omega)).trans ((hB1.cell (p := ⟨Px, 0, none⟩) hPx).trans hx0)
  have kx1 : ∀ g : Gr (w.heap.size + 1) W0, g.w.cell? ⟨Px, 1, none⟩ = some (.bool x.static) := fun g => (g.ok.cell (p := ⟨Px, 1, none⟩) (by simp; omega)).trans ((hB1.cell (p := ⟨Px, 1, none⟩) hPx).trans hx1)
  have kx2 : ∀ g : Gr (w.heap.size + 1) W0, g.w.cell? ⟨Px, 2, none⟩ = some (.slice ao x.args.length ca) := fun g => (g.ok.cell (p := ⟨Px, 2, none⟩) (by simp; omega)).trans ((hB1.cell (p := ⟨Px, 2, none⟩) hPx).trans hx2)
  have kx3 : ∀ g : Gr (w.heap.size + 1) W0, g.w.cell? ⟨Px, 3, none⟩ = some (.int .i64 x.ret.kind) := fun g => (g.ok.cell (p := ⟨Px, 3, none⟩) (by simp; omega)).trans ((hB1.cell (p := ⟨Px, 3, none⟩) hPx).trans hx3)
  have kx4 : ∀ g : Gr (w.heap.size + 1) W0, g.w.cell? ⟨Px, 4, none⟩ = some (.string x.ret.cls) := fun g => (g.ok.cell (p := ⟨Px, 4, none⟩) (by simp; omega)).trans ((hB1.cell (p := ⟨Px, 4, none⟩) hPx).trans hx4)
  have kx5 : ∀ g : Gr (w.heap.size + 1) W0, g.w.cell? ⟨Px, 5, none⟩ = some (.int .i64 x.stack) := fun g => (g.ok.cell (p := ⟨Px, 5, none⟩) (by simp; omega)).trans ((hB1.cell (p := ⟨Px, 5, none⟩) hPx).trans hx5)
  have kx6 : ∀ g : Gr (w.heap.size + 1) W0, g.w.cell? ⟨Px, 6, none⟩ = some (.int .i64 x.locals) := fun g => (g.ok.cell (p := ⟨Px, 6, none⟩) (by simp; omega)).trans ((hB1.cell (p := ⟨Px, 6, none⟩) hPx).trans hx6)
  have kx7 : ∀ g : Gr (w.heap.size + 1) W0, g.w.cell? ⟨Px, 7, none⟩ = some (.string x.code) := fun g => (g.ok.cell (p := ⟨Px, 7, none⟩) (by simp; omega)).trans ((hB1.cell (p := ⟨Px, 7, none⟩) hPx).trans hx7)
  have kx8 : ∀ g : Gr (w.heap.size + 1) W0, g.w.cell? ⟨Px, 8, none⟩ = some (.slice ho x.hands.length ch) := fun g => (g.ok.cell (p := ⟨Px, 8, none⟩) (by simp; omega)).trans ((hB1.cell (p := ⟨Px, 8, none⟩) hPx).trans hx8)
  have ky0 : ∀ g : Gr (w.heap.size + 1) W0, g.w.cell? ⟨w.heap.size, 0, none⟩ = some (.string y.name) := fun g => (g.ok.cell (p := ⟨w.heap.size, 0, none⟩) (by simp)).trans (by rw [hW]; simp [go_sem])
  have ky1 : ∀ g : Gr (w.heap.size + 1) W0, g.w.cell? ⟨w.heap.size, 1, none⟩ = some (.bool y.static) := fun g => (g.ok.cell (p := ⟨w.heap.size, 1, none⟩) (by simp)).trans (by rw [hW]; simp [go_sem])
  have ky2 : ∀ g : Gr (w.heap.size + 1) W0, g.w.cell? ⟨w.heap.size, 2, none⟩ = some (.slice ao2 y.args.length ca2) := fun g => (g.ok.cell (p := ⟨w.heap.size, 2, none⟩) (by simp)).trans (by rw [hW]; simp [go_sem])
  have ky3 : ∀ g : Gr (w.heap.size + 1) W0, g.w.cell? ⟨w.heap.size, 3, none⟩ = some (.int .i64 y.ret.kind) := fun g => (g.ok.cell (p := ⟨w.heap.size, 3, none⟩) (by simp)).trans (by rw [hW]; simp [go_sem])
  have ky4 : ∀ g : Gr (w.heap.size + 1) W0, g.w.cell? ⟨w.heap.size, 4, none⟩ = some (.string y.ret.cls) := fun g => (g.ok.cell (p := ⟨w.heap.size, 4, none⟩) (by simp)).trans (by rw [hW]; simp [go_sem])
  have ky5 : ∀ g : Gr (w.heap.size + 1) W0, g.w.cell? ⟨w.heap.size, 5, none⟩ = some (.int .i64 y.stack) := fun g => (g.ok.cell (p := ⟨w.heap.size, 5, none⟩) (by simp)).trans (by rw [hW]; simp [go_sem])
  have ky6 : ∀ g : Gr (w.heap.size + 1) W0, g.w.cell? ⟨w.heap.size, 6, none⟩ = some (.int .i64 y.locals) := fun g => (g.ok.cell (p := ⟨w.heap.size, 6, none⟩) (by simp)).trans (by rw [hW]; simp [go_sem])
  have ky7 : ∀ g : Gr (w.heap.size + 1) W0, g.w.cell? ⟨w.heap.size, 7, none⟩ = some (.string y.code) := fun g => (g.ok.cell (p := ⟨w.heap.size, 7, none⟩) (by simp)).trans (by rw [hW]; simp [go_sem])
  have ky8 : ∀ g : Gr (w.heap.size + 1) W0, g.w.cell? ⟨w.heap.size, 8, none⟩ = some (.slice ho2 y.hands.length ch2) := fun g => (g.ok.cell (p := ⟨w.heap.size, 8, none⟩) (by simp)).trans (by rw [hW]; simp [go_sem])
  have HCX : Hid (∀ g : Gr (w.heap.size + 1) W0, Calls Tryz.prog 179 #[.agg #[.string x.name, .bool x.static, .slice ao x.args.length ca, .int .i64 x.ret.kind, .string x.ret.cls, .int .i64 x.stack, .int .i64 x.locals, .string x.code, .slice ho x.hands.length ch]] g.w fun e w'' => e = .returned (.string x.name) ∧ ∃ g' : Gr (w.heap.size + 1) W0, w'' = g'.w) := fun g => Gr.calls g hz (nameM_any g.w B x _ (hX1.below (g.ok.mono (by omega))))
  have HCY : Hid (∀ g : Gr (w.heap.size + 1) W0, Calls Tryz.prog 179 #[.agg #[.string y.name, .bool y.static, .slice ao2 y.args.length ca2, .int .i64 y.ret.kind, .string y.ret.cls, .int .i64 y.stack, .int .i64 y.locals, .string y.code, .slice ho2 y.hands.length ch2]] g.w fun e w'' => e = .returned (.string y.name) ∧ ∃ g' : Gr (w.heap.size + 1) W0, w'' = g'.w) := fun g => Gr.calls g hz (nameM_any g.w B y _ (hU1.below (g.ok.mono (by omega))))
  have HB1 := mkHid hB1
  clear hU hX hU1 hX1 hB1 hn hx0 hx1 hx2 hx3 hx4 hx5 hx6 hx7 hx8
  go_enter Tryz.func210, Tryz.ntmps210
  go_wp2_with fail
  rw [← hW]
  clear hW
  refine wp_region_grow_lit (w.heap.size + 1) W0 (by kernel_rfl) (by kernel_rfl) (Below.refl _ _) ?_
  repeat (go_big_quiet_step (first | (go_at_call_of 179 x; exact HCX.out _) | (go_at_call_of 179 y; exact HCY.out _)))
  refine wpQuiet_nil ?_
  intro _ hw'
  obtain ⟨g, rfl⟩ := hw'
  have hg := HB1.out.trans (g.ok.mono (by omega))
  generalize g.w = w2 at *
  clear kn kx0 ky0 kx1 ky1 kx2 ky2 kx3 ky3 kx4 ky4 kx5 ky5 kx6 ky6 kx7 ky7 kx8 ky8 hne
  by_cases h : x.name = y.name
  · have t := congrArg ByteArray.toList h
    have HD : Hid (decide (x.name = y.name) = true) := by show decide (x.name = y.name) = true; simp [h]
    clear h
    go_wp2_with fail
    go_ret
    exact ⟨by rw [HD.out]; simp [t], hg⟩
  · have t : ¬ x.name.toList = y.name.toList := fun e => h (tl_inj e)
    have HD : Hid (decide (x.name = y.name) = false) := by show decide (x.name = y.name) = false; simp [h]
    clear h
    go_wp2_with fail
    go_ret
    exact ⟨by rw [HD.out]; simp [t], hg⟩

set_option maxHeartbeats 2000000 in
theorem differM_any (w : World) (B : Nat) (v : Value) (l : List MethD) (hv : SL 9 RM (· < B) w v l) (hB : B ≤ w.heap.size) :
    Calls Tryz.prog 178 #[v, .func (.func 179) #[] #[]] w fun r w' => r = .returned (.bool (differB (l.map (·.name)))) ∧ Below w.heap.size w w' := by
  have hmf : ∀ (fn : Fn) (first cap : Array Value) (w : World), (Instr.makeFunc fn first cap).run Tryz.prog w = .ok (.func fn first cap) w := fun _ _ _ _ => rfl
  have HV := mkHid hv
  obtain ⟨ao0, cl, rfl, hcl, hll, -⟩ := hv
  unfold maxLen at hll
  have hB0 := (Below.refl w.heap.size w).alloc (Nat.le_refl _) (.cells #[.func (.func 179) #[] #[]] 218)
  have HB0 := mkHid hB0
  clear hB0
  go_enter Tryz.func178, Tryz.ntmps178
  go_wp2_with fail
  go_loopw [9] (fun i wr => ∃ k : Nat, k ≤ l.length ∧ i = .int .i64 k ∧ Hid (differB ((l.take k).map (·.name)) = true) ∧ Hid (Below (w.heap.size + 1) (w.alloc (.cells #[.func (.func 179) #[] #[]] 218)) wr)) (fun i _ => l.length - (intOf i).toNat)
  case atStart => exact ⟨0, Nat.zero_le _, rfl, rfl, Below.refl _ _⟩
  case round =>
    obtain ⟨k, hk, rfl, HP, HBB⟩ := hrel
    have hBr : Below w.heap.size w wr := HB0.out.trans (HBB.out.mono (by omega))
    have hzr : w.heap.size + 1 ≤ wr.heap.size := by have := HBB.out.size; simpa using this
    have HBR := mkHid hBr
    by_cases hlt : k < l.length
    · obtain ⟨b, off, va, vh, rfl, hb, e0, e1, e2, e3, e4, e5, e6, e7, e8, ea, eh, es1, es2, es3⟩ := (HV.out.keptM (Kp.below (hBr.mono hB))).atM k hlt
      have EA := mkHid ea
      have EH := mkHid eh
      obtain ⟨ao, ca, rfl, -⟩ := ea
      obtain ⟨ho, ch, rfl, -⟩ := eh
      have hkc : (k : Int) ≤ cl := by omega
      have hk0 : (0 : Int) ≤ k := by omega
      have hB1 := hBr.alloc hBr.size (.cells #[.string l[k].name, .bool l[k].static, .slice ao l[k].args.length ca, .int .i64 l[k].ret.kind, .string l[k].ret.cls, .int .i64 l[k].stack, .int .i64 l[k].locals, .string l[k].code, .slice ho l[k].hands.length ch] 76)
      have HEL : Hid (ElM B (wr.alloc (.cells #[.string l[k].name, .bool l[k].static, .slice ao l[k].args.length ca, .int .i64 l[k].ret.kind, .string l[k].ret.cls, .int .i64 l[k].stack, .int .i64 l[k].locals, .string l[k].code, .slice ho l[k].hands.length ch] 76)) (.agg #[.string l[k].name, .bool l[k].static, .slice ao l[k].args.length ca, .int .i64 l[k].ret.kind, .string l[k].ret.cls, .int .i64 l[k].stack, .int .i64 l[k].locals, .string l[k].code, .slice ho l[k].hands.length ch]) l[k]) := ⟨ao, ca, ho, ch, rfl, EA.out.keptK (Kp.below ((Below.refl _ _).alloc (by have := hBr.size; omega) _)), EH.out.keptH (Kp.below ((Below.refl _ _).alloc (by have := hBr.size; omega) _)), es1, es2, es3⟩
      have HB1 := mkHid hB1
      clear hB1
      go_wp2_with fail
      refine (containsM_any _ B _ (l.take k) ((HV.out.keptM (Kp.below (HB1.out.mono hB))).take k hk) (by simp; omega) 210 _ (fun y => decide (l[k].name = y.name)) (fun args w => by kernel_rfl) ?_).mono ?_
      · intro y _ u W hW hu
        refine differM1_any W B w.heap.size wr.heap.size l[k] y ao ca ho ch u hu (HEL.out.below (hW.mono (by simp; omega))) (by have := hW.size; simp at this; omega) ?_ ?_ ?_ ?_ ?_ ?_ ?_ ?_ ?_ ?_
        · exact (hW.cell (p := ⟨w.heap.size, 0, none⟩) (by simp; omega)).trans (by rw [World.cell?_alloc_past _ _ _ (by omega)]; exact (HBB.out.cell (p := ⟨w.heap.size, 0, none⟩) (by simp)).trans (by simp [go_sem]))
        · exact (hW.cell (p := ⟨wr.heap.size, 0, none⟩) (by simp)).trans (by simp [go_sem])
        · exact (hW.cell (p := ⟨wr.heap.size, 1, none⟩) (by simp)).trans (by simp [go_sem])
        · exact (hW.cell (p := ⟨wr.heap.size, 2, none⟩) (by simp)).trans (by simp [go_sem])
        · exact (hW.cell (p := ⟨wr.heap.size, 3, none⟩) (by simp)).trans (by simp [go_sem])
        · exact (hW.cell (p := ⟨wr.heap.size, 4, none⟩) (by simp)).trans (by simp [go_sem])
        · exact (hW.cell (p := ⟨wr.heap.size, 5, none⟩) (by simp)).trans (by simp [go_sem])
        · exact (hW.cell (p := ⟨wr.heap.size, 6, none⟩) (by simp)).trans (by simp [go_sem])
        · exact (hW.cell (p := ⟨wr.heap.size, 7, none⟩) (by simp)).trans (by simp [go_sem])
        · exact (hW.cell (p := ⟨wr.heap.size, 8, none⟩) (by simp)).trans (by simp [go_sem])
      rintro r w2 ⟨rfl, hb2⟩
      have HB2 : Hid (Below (w.heap.size + 1) (w.alloc (.cells #[.func (.func 179) #[] #[]] 218)) w2) := (HBB.out.alloc (by omega) _).trans (hb2.mono (by simp; omega))
      have HBW := mkHid (HB1.out.trans (hb2.mono (by have := hBr.size; simp; omega)))
      clear hb2 e0 e1 e2 e3 e4 e5 e6 e7 e8
      cases hp : (l.take k).any (fun y => decide (l[k].name = y.name))
      · have HX := mkHid (differ_go (f := (·.name)) hlt HP.out hp)
        clear hp
        go_wp2_with fail
        go_roundw
        case rel => exact ⟨k + 1, by omega, by go_num, HX.out, HB2.out⟩
        case measure => simp [intOf]; omega
      · have HX := mkHid (differ_stop (f := (·.name)) hlt hp)
        clear hp
        go_wp2_with fail
        go_ret
        exact ⟨by rw [HX.out]; rfl, HBW.out⟩
    · have HX : Hid (differB (l.map (·.name)) = true) := by have := HP.out; rwa [List.take_of_length_le (by omega)] at this
      go_wp2_with fail
      go_ret
      exact ⟨by rw [HX.out]; rfl, HBR.out⟩

set_option maxHeartbeats 1000000 in
theorem parts1_any (w : World) (B : Nat) (x : List FieldD) (u : Value) (hu : ElFs B w u x) (hB : B ≤ w.heap.size) : Calls Tryz.prog 174 #[u] w fun r w' => r = .returned (.bool (differB (x.map (·.name)))) ∧ Below w.heap.size w w' := by
  obtain ⟨ai, ci, rfl, ea⟩ := hu
  have EA := mkHid ea
  clear ea
  go_enter Tryz.func174, Tryz.ntmps174
  go_wp2_with fail
  refine (differF_any _ B _ x EA.out hB).mono ?_
  rintro r w1 ⟨rfl, hb⟩
  go_wp2_with fail
  go_ret
  exact ⟨rfl, hb⟩
set_option maxHeartbeats 1000000 in
theorem parts2_any (w : World) (B : Nat) (x : ClassD) (u : Value) (hu : ElC B w u x) (hB : B ≤ w.heap.size) : Calls Tryz.prog 177 #[u] w fun r w' => r = .returned (.bool (differB (x.meths.map (·.name)))) ∧ Below w.heap.size w w' := by
  obtain ⟨fo, cf, mo, cm, rfl, -, em, -, -⟩ := hu
  have EM := mkHid em
  have HB0 := mkHid (fun o => (Below.refl w.heap.size w).alloc (Nat.le_refl _) o)
  clear em
  go_enter Tryz.func177, Tryz.ntmps177
  go_wp2_with fail
  refine (differM_any _ B _ x.meths (EM.out.keptM (Kp.below ((HB0.out _).mono hB))) (by simp; omega)).mono ?_
  rintro r w1 ⟨rfl, hb⟩
  have hb2 : Below w.heap.size w w1 := (HB0.out _).trans (hb.mono (by simp))
  clear hb
  go_wp2_with fail
  go_ret
  exact ⟨rfl, hb2⟩
set_option maxHeartbeats 1000000 in
theorem partsDiffer_any (w : World) (B b : Nat) (l : List ClassD) (vC vS vF vN vT vL : Value) (Bm : Nat) (hw : Web B w b l vC vS vF vN vT vL Bm) :
    Calls Tryz.prog 126 #[.pointer (some ⟨b, 0, none⟩)] w fun r w' => r = .returned (.bool (askParts l)) ∧ Below w.heap.size w w' := by
  have c2 := cell_of hw.blk 2 (x := vF) rfl
  have c0 := hw.cell0
  have hbl := lt_of hw.blk
  have sF := hw.sF
  have HC := mkHid hw.sC
  have hle := hw.le
  obtain ⟨ac, cc, rfl, -⟩ := hw.sC
  have HM : Hid (askParts l = ((((List.range l.length).map (fieldsOf l)).all fun x => differB (x.map (·.name))) && (l.all fun c => differB (c.meths.map (·.name))))) := by
    show askParts l = _
    rw [askParts, List.all_map]
    rfl
  clear hw
  generalize (List.range l.length).map (fieldsOf l) = LF at *
  have HF := mkHid sF
  obtain ⟨af, cf, rfl, -⟩ := sF
  go_enter Tryz.func126, Tryz.ntmps126
  go_wp2_with fail
  refine (everyFs_any _ B _ _ HF.out hle 174 #[] #[] (fun x => differB (x.map (·.name))) (fun args w => by kernel_rfl) ?_).mono ?_
  · intro x _ u W hW hu
    exact parts1_any W B x u hu (by have := hW.size; omega)
  rintro r w1 ⟨rfl, hb⟩
  have d0 : w1.cell? ⟨b, 0, none⟩ = some (.slice ac l.length cc) := (hb.cell (p := ⟨b, 0, none⟩) hbl).trans c0
  cases ha : LF.all fun x => differB (x.map (·.name))
  · have HR : Hid (askParts l = false) := by rw [HM.out, ha]; rfl
    clear ha
    go_wp2_with fail
    go_ret
    exact ⟨by rw [HR.out]; rfl, hb⟩
  have HR : Hid (askParts l = (l.all fun c => differB (c.meths.map (·.name)))) := by rw [HM.out, ha]; rfl
  clear ha
  go_wp2_with fail
  refine (everyC_any _ B _ _ (HC.out.keptC (Kp.below (hb.mono hle))) (by have := hb.size; omega) 177 #[] #[] (fun c => differB (c.meths.map (·.name))) (fun args w => by kernel_rfl) ?_).mono ?_
  · intro x _ u W hW hu
    exact parts2_any W B x u hu (by have := hW.size; have := hb.size; omega)
  rintro r w2 ⟨rfl, hb2⟩
  have hb3 := hb.trans (hb2.mono hb.size)
  clear hb hb2
  go_wp2_with fail
  go_ret
  exact ⟨by rw [HR.out]; rfl, hb3⟩

end Go.Proofs.YtaekpdcnnkmahaaGreatDoor
/- The line of a class: it, and those above it. -/
namespace Go.Proofs.YtaekpdcnnkmahaaGreatDoor
open Go.RowKit Go.Sort

theorem idxS_eq (l : List ByteArray) (s : ByteArray) : idxS l s = idx (fun x => decide (x = s)) l := rfl
def idxO (l : List Nat) (n : Int) : Int := idx (fun x : Nat => decide ((x : Int) = n)) l

set_option maxHeartbeats 1000000 in
theorem indexStr_any (w : World) (M : Nat → Prop) (v : Value) (l : List ByteArray) (s : ByteArray) (hv : SL 1 RS M w v l) :
    Calls Tryz.prog 160 #[v, .string s] w fun r w' => r = .returned (.int .i64 (idxS l s)) ∧ w' = w := by
  have HV := mkHid hv
  obtain ⟨ao0, cl, rfl, -, hll, -⟩ := hv
  unfold maxLen at hll
  go_enter Tryz.func160, Tryz.ntmps160
  go_wp2_with fail
  go_loop [8] (fun i => ∃ k : Nat, k ≤ l.length ∧ i = .int .i64 k ∧ Hid (∀ x ∈ l.take k, decide (x = s) = false)) (fun i => l.length - (intOf i).toNat)
  case atStart => exact ⟨0, Nat.zero_le _, rfl, (fun x hx => by cases hx)⟩
  case round =>
    obtain ⟨k, hk, rfl, HP⟩ := hrel
    by_cases hlt : k < l.length
    · obtain ⟨b, off, rfl, hb, e0, es1⟩ := HV.out.atS k hlt
      by_cases h : l[k] = s
      · have HX : Hid (idxS l s = k) := idx_hit hlt HP.out (by simp [h])
        have t : (s.toList == l[k].toList) = true := by rw [h]; simp
        clear h
        go_wp2_with fail
        go_ret
        exact ⟨by rw [HX.out]; rfl, rfl⟩
      · have HX := mkHid (take_more hlt HP.out (by simp [h]))
        have t : (s.toList == l[k].toList) = false := by rw [beq_eq_false_iff_ne]; exact fun e => h (tl_inj e).symm
        clear h
        go_wp2_with fail
        go_round
        case rel => exact ⟨k + 1, by omega, by go_num, HX.out⟩
        case measure => simp [intOf]; omega
    · have HX : Hid (idxS l s = -1) := idx_none (by have := HP.out; rwa [List.take_of_length_le (by omega)] at this)
      go_wp2_with fail
      go_ret
      exact ⟨by rw [HX.out]; rfl, rfl⟩

set_option maxHeartbeats 1000000 in
theorem indexInt_any (w : World) (M : Nat → Prop) (v : Value) (l : List Nat) (n : Int) (hv : SL 1 RO M w v l) :
    Calls Tryz.prog 151 #[v, .int .i64 n] w fun r w' => r = .returned (.int .i64 (idxO l n)) ∧ w' = w := by
  have HV := mkHid hv
  obtain ⟨ao0, cl, rfl, -, hll, -⟩ := hv
  unfold maxLen at hll
  go_enter Tryz.func151, Tryz.ntmps151
  go_wp2_with fail
  go_loop [8] (fun i => ∃ k : Nat, k ≤ l.length ∧ i = .int .i64 k ∧ Hid (∀ x ∈ l.take k, decide ((x : Int) = n) = false)) (fun i => l.length - (intOf i).toNat)
  case atStart => exact ⟨0, Nat.zero_le _, rfl, (fun x hx => by cases hx)⟩
  case round =>
    obtain ⟨k, hk, rfl, HP⟩ := hrel
    by_cases hlt : k < l.length
    · obtain ⟨b, off, rfl, hb, e0⟩ := HV.out.atO k hlt
      by_cases h : (l[k] : Int) = n
      · have HX : Hid (idxO l n = k) := idx_hit hlt HP.out (by simp [h])
        have t : (n == (l[k] : Int)) = true := by rw [h]; simp
        clear h
        go_wp2_with fail
        go_ret
        exact ⟨by rw [HX.out]; rfl, rfl⟩
      · have HX := mkHid (take_more hlt HP.out (by simp [h]))
        have t : (n == (l[k] : Int)) = false := by rw [beq_eq_false_iff_ne]; exact fun e => h e.symm
        clear h
        go_wp2_with fail
        go_round
        case rel => exact ⟨k + 1, by omega, by go_num, HX.out⟩
        case measure => simp [intOf]; omega
    · have HX : Hid (idxO l n = -1) := idx_none (by have := HP.out; rwa [List.take_of_length_le (by omega)] at this)
      go_wp2_with fail
      go_ret
      exact ⟨by rw [HX.out]; rfl, rfl⟩
theorem containsInt_any (w : World) (M : Nat → Prop) (v : Value) (l : List Nat) (n : Int) (hv : SL 1 RO M w v l) :
    Calls Tryz.prog 103 #[v, .int .i64 n] w fun r w' => r = .returned (.bool (l.any fun x : Nat => decide ((x : Int) = n))) ∧ w' = w := by
  have hcc := indexInt_any w M v l n hv
  have HC := mkHid hcc
  clear hcc
  have HI := mkHid (idx_any (fun x : Nat => decide ((x : Int) = n)) l)
  obtain ⟨ao0, cl, rfl, -⟩ := hv
  go_enter Tryz.func103, Tryz.ntmps103
  go_wp2_with fail
  refine HC.out.mono ?_
  rintro r w1 ⟨rfl, rfl⟩
  go_wp2_with fail
  go_ret
  exact ⟨by rw [← HI.out]; rfl, rfl⟩

set_option maxHeartbeats 1600000 in
set_option maxRecDepth 1000000 in
theorem reverse_arr (blk off cap : Nat) (d : Array Int) (w : World) (hH : Holds encI w blk off d) (hsz : d.size ≤ 9223372036854775807) :
    Calls Tryz.prog 159 #[.slice (some ⟨blk, off, none⟩) d.size cap] w fun e w' => e = .returned (.tuple #[]) ∧ ∃ n, w' = putRow encI (Sort.ahead w n) blk off d.reverse := by
  go_enter Tryz.func159, Tryz.ntmps159
  go_wp2
  go_loopg [2, 3] d.size (fun k s2 s3 wr => ∃ (i jn : Nat) (jz : Int) (dk : Array Int) (n : Nat), s2 = .int .i64 i ∧ s3 = .int .i64 jz ∧ ((i : Int) < jz → jz = jn ∧ jn < d.size) ∧ (¬ (i : Int) < jz → ¬ i < jn) ∧ jn - i ≤ k ∧
    dk.size = d.size ∧ Aside (wr = putRow encI (Sort.ahead w n) blk off dk) ∧ reverseLoop i jn dk = reverseLoop 0 (d.size - 1) d)
  case atStart => exact ⟨0, d.size - 1, (d.size : Int) - 1, d, 0, rfl, rfl, fun h => ⟨by omega, by omega⟩, fun h => by omega, by omega, rfl, (putRow_self encI w blk off d hH).symm, rfl⟩
  case round =>
    obtain ⟨i, jn, jz, dk, n, rfl, rfl, h1, h2, hk, hds, A, heq⟩ := hrel
    have HQ := mkHid heq
    clear heq
    by_cases hlt : (i : Int) < jz
    · obtain ⟨rfl, hjn⟩ := h1 hlt
      have hij : i < jn := by omega
      have hHk : Holds encI wr blk off dk := by rw [A.out]; exact holds_putRow encI _ blk off d dk (holds_ahead encI w n blk off d hH) hds
      obtain ⟨ci, fi⟩ := hHk i (by omega)
      obtain ⟨cj, fj⟩ := hHk jn (by omega)
      have HDS := mkHid hds
      clear hHk h1 h2 hds
      have hjn0 : (0 : Int) ≤ jn := by omega
      have hjl : (jn : Int) < d.size := by omega
      have hi0 : (0 : Int) ≤ i := by omega
      have hil : (i : Int) < d.size := by omega
      go_wp2_with fail
      go_region
      all_goals
        go_wp2
        go_roundg (jn - 1 - (i + 1))
        case measure => omega
        case rel =>
          have heq := HQ.out
          have hds := HDS.out
          rw [reverseLoop, if_pos hij] at heq
          exact ⟨i + 1, jn - 1, (jn : Int) - 1, swp dk i jn, n + 1, by simp, rfl, fun h => ⟨by omega, by omega⟩, fun h => by omega, Nat.le_refl _, by rw [size_swp]; exact hds,
            swap_world encI (by omega) (by omega) A.out (by first | rfl | simp [encI, getElem!_pos, show jn < dk.size by omega]) (by first | rfl | simp [encI, getElem!_pos, show i < dk.size by omega]), heq⟩
    · have hnot := h2 hlt
      go_wp2
      go_end0
      refine ⟨rfl, n, ?_⟩
      have heq := HQ.out
      rw [reverseLoop, if_neg hnot] at heq
      rw [← Lib.reverseLoop_reverse, ← heq]
      exact A.out
end Go.Proofs.YtaekpdcnnkmahaaGreatDoor
/- The contract of a web's method that makes a class's line. -/
namespace Go.Proofs.YtaekpdcnnkmahaaGreatDoor
open Go.RowKit Go.Sort

theorem Tryz.infoInt : (Tryz.prog.info? 3).map (fun i => (i.zero, i.size, i.bytes)) = some (some (.int .i64 0), 1, 8) := by kernel_rfl
theorem own_shape {w : World} {B e n len : Nat} {v : Value} {xs : List Value} (h : w.ownsRow B e n v len xs) : ∃ a c, v = .slice a len c := by
  rcases h.2 with ⟨rfl, rfl⟩ | ⟨g, cap, cur, rfl, _⟩
  · exact ⟨_, _, rfl⟩
  · exact ⟨_, _, rfl⟩
def ints (ns : List Nat) : List Value := ns.map fun x : Nat => Value.int .i64 (x : Int)
theorem heap_putRow (w : World) (g n : Nat) (d : Array Int) (k : Nat) (hk : k ≠ g) : (putRow encI (Sort.ahead w n) g 0 d).heap[k]? = w.heap[k]? := by
  show (w.heap.modify g _)[k]? = _
  rw [Array.getElem?_modify, if_neg (fun e => hk e.symm)]
theorem heap_putRow_own (w : World) (g n t : Nat) (d : Array Int) (cur : Array Value) (fr : Nat × Nat) (h : w.heap[g]? = some (.cells cur t fr)) : ∃ cur', (putRow encI (Sort.ahead w n) g 0 d).heap[g]? = some (.cells cur' t fr) := by
  show ∃ cur', (w.heap.modify g _)[g]? = _
  rw [Array.getElem?_modify, if_pos rfl, h]
  exact ⟨_, rfl⟩
theorem reverse_any (w : World) (B g cap : Nat) (ns : List Nat) (hl : ns.length ≤ 100) (hown : w.ownsRow B 3 1 (.slice (some ⟨g, 0, none⟩) ns.length cap) ns.length (ints ns)) :
    Calls Tryz.prog 159 #[.slice (some ⟨g, 0, none⟩) ns.length cap] w fun e w' => e = .returned (.tuple #[]) ∧ w.grownBy w' (some g) ∧ SL 1 RO (MT B [3] w') w' (.slice (some ⟨g, 0, none⟩) ns.length cap) ns.reverse := by
  have hsz : (ns.map fun x : Nat => (x : Int)).toArray.size = ns.length := by simp
  obtain ⟨cur, hb, hBg, hcap⟩ : ∃ cur, w.heap[g]? = some (.cells cur 3 (0, 0)) ∧ B ≤ g ∧ ns.length ≤ cap := by
    rcases hown.2 with ⟨e, _⟩ | ⟨g', cap', cur, e, hBg, hb, hc, _⟩
    · cases e
    · cases e
      exact ⟨cur, hb, hBg, hc⟩
  have hlt : g < w.heap.size := (Array.getElem?_eq_some_iff.1 hb).1
  have hH : Holds encI w g 0 (ns.map fun x : Nat => (x : Int)).toArray := by
    intro j hj
    rw [hsz] at hj
    refine ⟨?_, by simp [World.frozen?, hb]⟩
    rw [Nat.zero_add, hown.cellAt j (by omega)]
    simp [ints, encI, getElem!_pos, hj]
  have h := reverse_arr g 0 cap (ns.map fun x : Nat => (x : Int)).toArray w hH (by rw [hsz]; omega)
  rw [hsz] at h
  refine h.mono ?_
  rintro e w' ⟨rfl, n, rfl⟩
  obtain ⟨cur', hb'⟩ := heap_putRow_own w g n 3 (ns.map fun x : Nat => (x : Int)).toArray.reverse cur (0, 0) hb
  refine ⟨rfl, ⟨rfl, rfl, rfl, by simp [putRow, mapBlock, Sort.ahead], fun k _ hk => heap_putRow w g n _ k (fun e => hk (by rw [e]))⟩, ?_⟩
  have hH' := holds_putRow encI (Sort.ahead w n) g 0 _ (ns.map fun x : Nat => (x : Int)).toArray.reverse (holds_ahead encI w n g 0 _ hH) (by simp)
  refine ⟨some ⟨g, 0, none⟩, cap, by simp, by simpa using hcap, by unfold maxLen; simp; omega, fun k hk => ?_⟩
  have hk' : k < ns.length := by simpa using hk
  refine ⟨g, 0, [.int .i64 (ns.reverse[k] : Nat)], rfl, ⟨hBg, cur', _, _, hb', by simp⟩, (Array.getElem?_eq_some_iff.1 hb').1, rfl, fun j hj => ?_, rfl⟩
  have hj0 : j = 0 := by omega
  subst hj0
  have := (hH' k (by simp; omega)).1
  simp only [Nat.zero_add, Nat.mul_one, Nat.add_zero] at this ⊢
  rw [this]
  simp [encI, getElem!_pos, hk']

theorem sup_bd (l : List ClassD) (n : Nat) : -1 ≤ supAt l n ∧ supAt l n < l.length := num_le _ _
theorem climb_end {l : List ClassD} {m : Int} (hm : ¬ 0 ≤ m) : ∀ f, climb l f m = []
  | 0 => rfl
  | f + 1 => by rw [climb, if_neg hm]
theorem climb_go {l : List ClassD} {m : Int} (f : Nat) (hm : 0 ≤ m) : climb l (f + 1) m = m.toNat :: climb l f (supAt l m.toNat) := by rw [climb, if_pos hm]

set_option maxHeartbeats 4000000 in
theorem line_any (w : World) (B b : Nat) (l : List ClassD) (n : Nat) (hn : n < l.length) (ao : Option Addr) (cl : Nat) (vS : Value) (c0 : w.cell? ⟨b, 0, none⟩ = some (.slice ao l.length cl)) (c1 : w.cell? ⟨b, 1, none⟩ = some vS)
    (sS : SL 1 RI (· < B) w vS ((List.range l.length).map (supAt l))) (hB : B ≤ w.heap.size) (hN : l.length ≤ 10) :
    Calls Tryz.prog 115 #[.pointer (some ⟨b, 0, none⟩), .int .i64 n] w fun r w' => Below w.heap.size w w' ∧ ∃ v, r = .returned v ∧ SL 1 RO (MT w.heap.size [3] w') w' v (lineOf l n) := by
  obtain ⟨iI, hiI, hzI0, hzI1, hzI2⟩ := info_parts Tryz.infoInt
  have hbl : b < w.heap.size := World.block_lt_of_cell? w _ c0
  have HLS : Hid (∀ k, k < l.length → ∀ (h : k < ((List.range l.length).map (supAt l)).length), ((List.range l.length).map (supAt l))[k] = supAt l k) := fun k _ h => by simp
  have hlen : ((List.range l.length).map (supAt l)).length = l.length := by simp
  have HLEN := mkHid hlen
  clear hlen
  generalize (List.range l.length).map (supAt l) = LS at *
  have HS := mkHid sS
  obtain ⟨aS, cS, rfl, -⟩ := sS
  rw [HLEN.out] at c1
  have HCL : Hid (lineOf l n = (climb l (l.length + 1) n).reverse) := rfl
  go_enter Tryz.func115, Tryz.ntmps115
  go_wp2_with fail
  go_loopg [5, 6] (l.length + 1) (fun f v i wr => ∃ (acc : List Nat) (m : Int), i = .int .i64 m ∧ -1 ≤ m ∧ m < l.length ∧ acc.length + f = l.length + 1 ∧ Hid (climb l (l.length + 1) n = acc ++ climb l f m) ∧ Hid (acc = [] → m = n) ∧ wr.ownsRow w.heap.size 3 1 v acc.length (ints acc) ∧ Below w.heap.size w wr)
  case atStart => exact ⟨[], n, rfl, by omega, by omega, by simp, rfl, fun _ => rfl, World.ownsRow_nil _ _ _ _, Below.refl _ _⟩
  case round =>
    rename Nat => f
    obtain ⟨acc, m, rfl, hm1, hm2, hf, HP, HE, hown, hBr⟩ := hrel
    obtain ⟨a5, c5, rfl⟩ := own_shape hown
    have d0 : wr.cell? ⟨b, 0, none⟩ = some (.slice ao l.length cl) := (hBr.cell (p := ⟨b, 0, none⟩) hbl).trans c0
    have hsr := hBr.size
    by_cases h0 : 0 ≤ m ∧ 0 < f
    · obtain ⟨h0, hf0⟩ := h0
      obtain ⟨f', rfl⟩ : ∃ f', f = f' + 1 := ⟨f - 1, by omega⟩
      have hal : (acc.length : Int) ≤ l.length := by omega
      have HOW := mkHid hown
      have HBB : Hid (acc.length + 1 ≤ maxLen ∧ (acc.length + 1) * 8 ≤ 140737488355328 ∧ w.heap.size ≤ (wr.alloc (.cells #[.int .i64 m] 3)).heap.size) := ⟨by unfold maxLen; omega, by omega, by simp; omega⟩
      go_wp2_with (at_builtin; refine wpList_append_lies _ rfl _ _ 32 rfl w.heap.size 3 iI (.int .i64 0) 1 8 Tryz.underlying32 hiI hzI0 hzI1 hzI2 rfl (by decide) (.slice a5 acc.length c5) acc.length (ints acc) rfl (HOW.out.alloc _) ⟨wr.heap.size, 0, none⟩ 1 1 [.int .i64 m] rfl rfl (World.news_of_block (heap_alloc_new wr _)) (by intro u hu; simp at hu; subst hu; rfl) (by omega) HBB.out.1 HBB.out.2.1 HBB.out.2.2 _ rfl ?_)
      intro g cap w1 hown1 hgr1 hat1 hlt1
      have hrb : ∀ k, (Value.slice a5 acc.length c5).ownBlock = some k → w.heap.size ≤ k := fun k e => (HOW.out.lt k e).1
      have hB1 : Below w.heap.size w w1 := (hBr.alloc hsr _).grown hgr1 (by simp; omega) (fun k e => hrb k e)
      have f1 : w1.cell? ⟨b, 1, none⟩ = some (.slice aS l.length cS) := (hB1.cell (p := ⟨b, 1, none⟩) hbl).trans c1
      obtain ⟨mn, rfl⟩ := Int.eq_ofNat_of_zero_le h0
      have hmn : mn < l.length := by omega
      have hmL : mn < LS.length := by rw [HLEN.out]; exact hmn
      obtain ⟨bs, os, rfl, hbs, es⟩ := (HS.out.keptI (Kp.below (hB1.mono hB))).atI mn hmL
      rw [HLS.out mn hmn hmL] at es
      have HX := mkHid (And.intro hown1 hB1)
      have hi0 : (0 : Int) ≤ mn := by omega
      have hi1 : (mn : Int) < l.length := by omega
      clear hown1 hgr1 hat1 hrb hown d0 hBr hB1
      go_wp2_with fail
      go_roundg f'
      case measure => omega
      case rel =>
        obtain ⟨hown1, hB1⟩ := HX.out
        have hsb := sup_bd l mn
        refine ⟨acc ++ [mn], supAt l mn, rfl, hsb.1, hsb.2, by simp; omega, ?_, ?_, ?_, hB1⟩
        · show _ = _
          rw [HP.out, climb_go f' (by omega)]
          simp
        · exact fun e => by simp at e
        · rw [List.length_append]
          have : ints (acc ++ [mn]) = ints acc ++ [.int .i64 (mn : Int)] := by simp [ints]
          rw [this]
          exact hown1
    · have hne : acc ≠ [] := fun e => by
        have := HE.out e
        subst e
        simp at hf
        omega
      have HA : Hid (climb l (l.length + 1) n = acc) := by
        show _ = _
        rw [HP.out]
        by_cases hm : 0 ≤ m
        · have : f = 0 := by omega
          subst this
          simp [climb]
        · rw [climb_end hm]
          simp
      have hg : a5 = none → False := by
        intro e
        subst e
        rcases hown.2 with ⟨e, h⟩ | ⟨g, _, _, e, _⟩
        · exact hne (List.eq_nil_of_length_eq_zero h)
        · cases e
      obtain ⟨g, hg5, hgw⟩ : ∃ g, a5 = some ⟨g, 0, none⟩ ∧ w.heap.size ≤ g := by
        rcases hown.2 with ⟨e, h⟩ | ⟨g, _, _, e, h, _⟩
        · exact (hg (Value.slice.inj e).1).elim
        · exact ⟨g, (Value.slice.inj e).1, h⟩
      subst hg5
      have HOW := mkHid hown
      have HBr := mkHid hBr
      have hl100 : acc.length ≤ 100 := by omega
      clear hown hg hne hBr
      by_cases hm : 0 ≤ m
      · have hal : ¬ (acc.length : Int) ≤ l.length := by omega
        clear h0
        go_wp2_with fail
        refine (reverse_any _ w.heap.size g c5 acc hl100 HOW.out).mono ?_
        rintro r w2 ⟨rfl, hg2, sv⟩
        have HB2 := mkHid (HBr.out.grown hg2 HBr.out.size (fun k e => by cases e; exact hgw))
        have SV := mkHid sv
        clear hg2 sv
        go_wp2_with fail
        go_ret
        exact ⟨HB2.out, _, rfl, by rw [HCL.out, HA.out]; exact SV.out⟩
      · clear h0
        go_wp2_with fail
        refine (reverse_any _ w.heap.size g c5 acc hl100 HOW.out).mono ?_
        rintro r w2 ⟨rfl, hg2, sv⟩
        have HB2 := mkHid (HBr.out.grown hg2 HBr.out.size (fun k e => by cases e; exact hgw))
        have SV := mkHid sv
        clear hg2 sv
        go_wp2_with fail
        go_ret
        exact ⟨HB2.out, _, rfl, by rw [HCL.out, HA.out]; exact SV.out⟩
end Go.Proofs.YtaekpdcnnkmahaaGreatDoor
/- 'append' of nothing. -/
namespace Go.Proofs.YtaekpdcnnkmahaaGreatDoor
open Go Go.RowKit

theorem run_append_none {P : Program} (w : World) (t ty e : TypeId) (i : TypeInfo) (ht : P.underlying t = some (.slice e)) (hi : P.info? e = some i) (a : Option Addr) (n c : Nat) (hn : n ≤ c) (ha : a = none ∨ ∃ g, a = some ⟨g, 0, none⟩) (x : Option Addr) (cx : Nat) :
    (Builtin.append_ #[t, t] ty #[.slice a n c, .slice x 0 cx]).run P w = .ok (.slice a n c) w := by
  have hs : Src P i.size t (.slice x 0 cx) 0 [] w := by
    cases x with
    | none => exact Src.ofNil w ht cx
    | some ad => exact Src.ofSlice w ht ad 0 cx [] (by simp) (fun j u h => by simp at h) (fun u h => by cases h)
  rcases ha with rfl | ⟨g, rfl⟩
  · simp [Builtin.append_, run_underlying ht, sizeOf, typeInfo, hi, hs.len, hn, hs.cells]
  · have := run_append_room_src w t t ty e i ht hi g 0 n c (.slice x 0 cx) 0 [] hs (by omega) (fun j h => by cases h) (fun j h => by cases h)
    rw [this]
    rfl
theorem wpList_append_none {P : Program} (w : World) {ops : Array Oper} {rest : List Oper} {o : Oper} {a : Act} {Q : Exit → Act → World → Prop} (hgd : o.guard = none) (s x : Operand) (t : TypeId)
    (ho : o.op = .call { callee := .builtin .append, args := #[s, x], argTypes := #[t, t] }) (e : TypeId) (i : TypeInfo) (ht : P.underlying t = some (.slice e)) (hi : P.info? e = some i)
    (ad : Option Addr) (n c : Nat) (hs : a.eval s = .slice ad n c) (hn : n ≤ c) (ha : ad = none ∨ ∃ g, ad = some ⟨g, 0, none⟩) (xa : Option Addr) (cx : Nat) (hx : a.eval x = .slice xa 0 cx)
    (h : wpList P ops Q rest (a.put o.dst (.slice ad n c)) w) : wpList P ops Q (o :: rest) a w := by
  refine wpList_plain hgd fun K hK => ?_
  have hr := run_append_none (P := P) w t o.type e i ht hi ad n c hn ha xa cx
  unfold Oper.wp execOp
  simp only [ho, resolve, invoke, builtin, Sem.run_bind, Sem.run_pure, Result.andThen_ok, List.map_toArray, List.map_cons, List.map_nil, hs, hx, hr]
  exact hK _ _ h
theorem own_app {w : World} {B e n len : Nat} {a : Option Addr} {c : Nat} {xs : List Value} (h : w.ownsRow B e n (.slice a len c) len xs) : len ≤ c ∧ (a = none ∨ ∃ g, a = some ⟨g, 0, none⟩) := by
  rcases h.2 with ⟨e, h0⟩ | ⟨g, cap, cur, e, _, _, hc, _⟩
  · exact ⟨by omega, Or.inl (Value.slice.inj e).1⟩
  · obtain ⟨e1, _, e3⟩ := Value.slice.inj e
    exact ⟨by omega, Or.inr ⟨g, e1⟩⟩
end Go.Proofs.YtaekpdcnnkmahaaGreatDoor
/- The contract of a web's method that makes all fields of a class. -/
namespace Go.Proofs.YtaekpdcnnkmahaaGreatDoor
open Go.RowKit Go.Sort

theorem Tryz.infoFieldL : (Tryz.prog.info? 53).map (fun i => (i.zero, i.size, i.bytes)) = some (some (.agg #[.string ⟨#[]⟩, .int .i64 0, .string ⟨#[]⟩]), 3, 40) := by kernel_rfl
theorem climb_lt (l : List ClassD) : ∀ (f : Nat) (m : Int), m < l.length → ∀ k ∈ climb l f m, k < l.length
  | 0, _, _, k, hk => by cases hk
  | f + 1, m, hm, k, hk => by
    unfold climb at hk
    split at hk
    · rcases List.mem_cons.1 hk with rfl | hk
      · omega
      · exact climb_lt l f _ (sup_bd l _).2 k hk
    · cases hk
theorem climb_len (l : List ClassD) : ∀ (f : Nat) (m : Int), (climb l f m).length ≤ f
  | 0, _ => by simp [climb]
  | f + 1, m => by
    unfold climb
    split
    · have := climb_len l f (supAt l m.toNat)
      simp
      omega
    · simp
theorem line_lt {l : List ClassD} {n : Nat} (hn : n < l.length) : ∀ k ∈ lineOf l n, k < l.length := fun k hk => climb_lt l _ n (by omega) k (by simpa [lineOf] using hk)
theorem line_len (l : List ClassD) (n : Nat) : (lineOf l n).length ≤ l.length + 1 := by
  rw [lineOf, List.length_reverse]
  exact climb_len l _ _
def fcells (f : FieldD) : List Value := [.string f.name, .int .i64 f.kind.kind, .string f.kind.cls]
theorem RF_fcells {M : Nat → Prop} {w : World} {cs : List Value} {f : FieldD} (h : RF M w cs f) : cs = fcells f := h.1
theorem addr_add (b off j : Nat) : (⟨b, off, none⟩ : Addr).add j = ⟨b, off + j, none⟩ := by unfold Addr.add; split <;> simp_all
theorem news_of {α : Type} {n : Nat} {R : (Nat → Prop) → World → List Value → α → Prop} {M : Nat → Prop} {w : World} {b off len cap : Nat} {l : List α} (f : α → List Value) (hn : 0 < n) (hf : ∀ x ∈ l, (f x).length = n) (hR : ∀ cs x, R M w cs x → cs = f x)
    (h : SL n R M w (.slice (some ⟨b, off, none⟩) len cap) l) : ∀ j u, (l.flatMap f)[j]? = some u → w.cell? ((⟨b, off, none⟩ : Addr).add j) = some u := by
  intro j u hu
  have hlen : (l.flatMap f).length = l.length * n := by
    clear h hR hu
    induction l with
    | nil => simp
    | cons x l ih =>
      rw [List.flatMap_cons, List.length_append, ih (fun y hy => hf y (by simp [hy])), hf x (by simp), List.length_cons, Nat.add_mul]
      omega
  have hj : j < l.length * n := by rw [← hlen]; exact (List.getElem?_eq_some_iff.1 hu).1
  have hq : j / n < l.length := Nat.div_lt_of_lt_mul (by rw [Nat.mul_comm]; exact hj)
  have hr : j % n < n := Nat.mod_lt _ hn
  have hjd : j / n * n + j % n = j := by rw [Nat.mul_comm]; exact Nat.div_add_mod j n
  obtain ⟨b', off', cs, e, _, _, _, hc, hr'⟩ := h.at (j / n) hq
  cases e
  have hcs := hR _ _ hr'
  rw [← hjd, flat_get f l (j / n) (j % n) hf hq hr] at hu
  have := hc (j % n) hr
  rw [hcs, hu] at this
  rw [addr_add, ← hjd, ← Nat.add_assoc]
  exact this
theorem flat_lenL {l : List FieldD} : (l.flatMap fcells).length = l.length * 3 := by
  induction l with
  | nil => rfl
  | cons x l ih => rw [List.flatMap_cons, List.length_append, ih, List.length_cons]; simp [fcells]; omega
theorem one_fcells (l : List FieldD) : ∀ u ∈ l.flatMap fcells, u.oneCell' = true := by
  intro u hu
  obtain ⟨f, _, hu⟩ := List.mem_flatMap.1 hu
  simp [fcells] at hu
  rcases hu with rfl | rfl | rfl <;> rfl

set_option maxHeartbeats 4000000 in
theorem fieldsOf_any (w : World) (B b : Nat) (l : List ClassD) (n : Nat) (hn : n < l.length) (ao : Option Addr) (cl : Nat) (c0 : w.cell? ⟨b, 0, none⟩ = some (.slice ao l.length cl)) (sC : SL 4 RC (· < B) w (.slice ao l.length cl) l)
    (vL : Value) (LL : List (List Nat)) (c6 : w.cell? ⟨b, 6, none⟩ = some vL) (sL : SL 1 (RSl 1 RO) (MT B [3, 32] w) w vL LL) (hnL : n < LL.length) (hLL : LL[n] = lineOf l n) (hB : B ≤ w.heap.size) (hN : l.length ≤ 10) (hF : ∀ c ∈ l, c.fields.length ≤ 6) :
    Calls Tryz.prog 116 #[.pointer (some ⟨b, 0, none⟩), .int .i64 n] w fun r w' => Below w.heap.size w w' ∧ ∃ v, r = .returned v ∧ SL 3 RF (MT w.heap.size [53] w') w' v (fieldsOf l n) := by
  obtain ⟨iF, hiF, hzF0, hzF1, hzF2⟩ := info_parts Tryz.infoFieldL
  have hbl : b < w.heap.size := World.block_lt_of_cell? w _ c0
  have HLL := mkHid hLL
  have HC := mkHid sC
  have sL' := sL
  obtain ⟨aL, cL, rfl, -⟩ := sL'
  obtain ⟨bL, oL, aI, cI, rfl, hbL, eL, sI⟩ := sL.atSl n hnL
  rw [HLL.out] at eL sI
  have hkL := line_lt hn
  have hlL := line_len l n
  have HFO : Hid (fieldsOf l n = (lineOf l n).flatMap fun k => (clsAt l k).fields) := rfl
  generalize lineOf l n = ln at *
  have HI := mkHid sI
  have HK := mkHid hkL
  have HFF := mkHid hF
  have hn0 : (0 : Int) ≤ n := by omega
  have hn1 : (n : Int) < LL.length := by omega
  clear sC sL sI hLL hkL hF
  go_enter Tryz.func116, Tryz.ntmps116
  go_wp2_with fail
  go_loopw [5, 16] (fun v i wr => ∃ (k : Nat) (fs : List FieldD), k ≤ ln.length ∧ i = .int .i64 k ∧ Hid (fs = (ln.take k).flatMap fun k => (clsAt l k).fields) ∧ fs.length ≤ 6 * k ∧ Hid (∀ f ∈ fs, f.name.size ≤ maxLen ∧ f.kind.cls.size ≤ maxLen) ∧ wr.ownsRow w.heap.size 53 3 v fs.length (fs.flatMap fcells) ∧ Below w.heap.size w wr) (fun _ i _ => ln.length - (intOf i).toNat)
  case atStart => exact ⟨0, [], Nat.zero_le _, rfl, rfl, by simp, (fun f hf => by cases hf), World.ownsRow_nil _ _ _ _, Below.refl _ _⟩
  case round =>
    obtain ⟨k, fs, hk, rfl, HP, hfl, HSZ, hown, hBr⟩ := hrel
    obtain ⟨a5, c5, rfl⟩ := own_shape hown
    have hsr := hBr.size
    by_cases hlt : k < ln.length
    · obtain ⟨bi, oi, rfl, hbi, ei⟩ := HI.out.atO k hlt
      have ei' := (hBr.cell (p := ⟨bi, oi + k, none⟩) hbi).trans ei
      have hmk := HK.out ln[k] (List.getElem_mem hlt)
      have d0 : wr.cell? ⟨b, 0, none⟩ = some (.slice ao l.length cl) := (hBr.cell (p := ⟨b, 0, none⟩) hbl).trans c0
      obtain ⟨bc, oc, vf, vm, rfl, hbc, e0, e1, e2, e3, ef, em, es1, es2⟩ := (HC.out.keptC (Kp.below (hBr.mono hB))).atC ln[k] hmk
      have hcf := HFF.out l[ln[k]] (List.getElem_mem hmk)
      have HCA : Hid (clsAt l ln[k] = l[ln[k]]) := clsAt_eq hmk
      obtain ⟨m, hm⟩ : ∃ m, m = ln[k] := ⟨_, rfl⟩
      have HM := mkHid hm
      generalize hcc : l[ln[k]] = cc at *
      clear hcc
      rw [← hm] at ei' e0 e1 e2 e3 hmk
      have hm0 : (0 : Int) ≤ m := by omega
      have hm1 : (m : Int) < l.length := by omega
      have EF := mkHid ef
      obtain ⟨fo, cf, rfl, -⟩ := ef
      have HOW := mkHid hown
      have hszF : ∀ f ∈ cc.fields, f.name.size ≤ maxLen ∧ f.kind.cls.size ≤ maxLen := by
        intro f hf
        obtain ⟨q, hq, rfl⟩ := List.getElem_of_mem hf
        obtain ⟨_, _, _, _, _, _, _, h1, h2⟩ := EF.out.atF q hq
        exact ⟨h1, h2⟩
      have HSF := mkHid hszF
      have HNX : Hid ((ln.take (k + 1)).flatMap (fun k => (clsAt l k).fields) = fs ++ cc.fields) := by
        show _ = _
        rw [List.take_succ_eq_append_getElem hlt, List.flatMap_append, ← HP.out]
        simp [HCA.out]
      clear hm ei hszF
      by_cases h0 : cc.fields = []
      · have HNE := mkHid h0
        rw [h0] at e2
        clear h0
        obtain ⟨hc5, ha5⟩ := own_app hown
        go_wp2_with (at_builtin; refine wpList_append_none _ rfl _ _ 49 rfl 53 iF Tryz.underlying49 hiF a5 fs.length c5 rfl hc5 ha5 fo cf rfl ?_)
        clear ha5 hc5
        go_wp2_with fail
        go_roundw
        case rel => exact ⟨k + 1, fs, by omega, by go_num, by show _ = _; have := HNX.out; rw [HNE.out, List.append_nil] at this; exact this.symm, by omega, HSZ.out, HOW.out, hBr⟩
        case measure => simp [intOf]; omega
      · have hpos : 0 < cc.fields.length := List.length_pos_iff.2 h0
        obtain ⟨bf, of, hfo⟩ : ∃ bf of, fo = some ⟨bf, of, none⟩ := by
          obtain ⟨bf, of, e, _⟩ := EF.out.atF 0 hpos
          exact ⟨bf, of, e⟩
        subst hfo
        have HNEWS : Hid (∀ j u, (cc.fields.flatMap fcells)[j]? = some u → wr.cell? ((⟨bf, of, none⟩ : Addr).add j) = some u) := news_of fcells (by decide) (fun x _ => rfl) (fun _ _ h => h.1) EF.out
        have HBB : Hid (fs.length + cc.fields.length ≤ maxLen ∧ (fs.length + cc.fields.length) * 40 ≤ 140737488355328) := ⟨by unfold maxLen; omega, by omega⟩
        clear h0
        go_wp2_with (at_builtin; refine wpList_append_lies _ rfl _ _ 49 rfl w.heap.size 53 iF (.agg #[.string ⟨#[]⟩, .int .i64 0, .string ⟨#[]⟩]) 3 40 Tryz.underlying49 hiF hzF0 hzF1 hzF2 rfl (by decide) (.slice a5 fs.length c5) fs.length (fs.flatMap fcells) rfl HOW.out ⟨bf, of, none⟩ cc.fields.length cf (cc.fields.flatMap fcells) rfl flat_lenL HNEWS.out (one_fcells _) hpos HBB.out.1 HBB.out.2 hsr _ rfl ?_)
        intro g cap w1 hown1 hgr1 hat1 hlt1
        have HX := mkHid (And.intro hown1 (hBr.grown hgr1 hsr (fun k e => (HOW.out.lt k e).1)))
        clear hown1 hgr1 hat1 hown hBr
        go_wp2_with fail
        go_roundw
        case rel =>
          obtain ⟨hown1, hB1⟩ := HX.out
          refine ⟨k + 1, fs ++ cc.fields, by omega, by go_num, HNX.out.symm, by simp; omega, ?_, ?_, hB1⟩
          · show ∀ f ∈ _, _
            intro f hf
            rcases List.mem_append.1 hf with hf | hf
            · exact HSZ.out f hf
            · exact HSF.out f hf
          · rw [List.length_append, List.flatMap_append]
            exact hown1
        case measure => simp [intOf]; omega
    · have HX : Hid (fieldsOf l n = fs) := by
        show _ = _
        rw [HFO.out, HP.out, List.take_of_length_le (by omega)]
      have hzs : (fs.map fun f => (fcells f, f)).length = fs.length := by simp
      have hzf : (fs.map fun f => (fcells f, f)).flatMap (·.1) = fs.flatMap fcells := by rw [List.flatMap_map]
      have SV := mkHid (own_SL (n := 3) (R := RF) (T := [53]) (zs := fs.map fun f => (fcells f, f)) (by rw [hzs, hzf]; exact hown) (fun z hz => by
        obtain ⟨f, hf, rfl⟩ := List.mem_map.1 hz
        exact ⟨rfl, rfl, HSZ.out f hf⟩) (by simp) (by rw [hzs]; unfold maxLen; omega))
      clear hzs hzf hown
      go_wp2_with fail
      go_ret
      exact ⟨hBr, _, rfl, by rw [HX.out]; have := SV.out; rwa [List.map_map, show ((·.2) ∘ fun f : FieldD => (fcells f, f)) = id from rfl, List.map_id] at this⟩
end Go.Proofs.YtaekpdcnnkmahaaGreatDoor
/- The contract of a web's method that makes a class's names, and what stands for them. -/
namespace Go.Proofs.YtaekpdcnnkmahaaGreatDoor
open Go.RowKit Go.Sort

theorem Tryz.infoStr : (Tryz.prog.info? 9).map (fun i => (i.zero, i.size, i.bytes)) = some (some (.string ⟨#[]⟩), 1, 16) := by kernel_rfl
theorem Tryz.infoTarg : (Tryz.prog.info? 110).map (fun i => (i.zero, i.size, i.bytes)) = some (some (.agg #[.int .i64 0, .int .i64 0]), 2, 16) := by kernel_rfl
theorem heap_set {W : World} {k j t : Nat} {cs : Array Value} {fr : Nat × Nat} (h : W.heap[k]? = some (.cells cs t fr)) (v : Value) : (W.setCell ⟨k, j, none⟩ v).heap[k]? = some (.cells (cs.setIfInBounds j v) t fr) := by
  simp [World.setCell, Array.getElem?_modify, h]
theorem own_set {w : World} {B e size g cap n : Nat} {xs : List Value} (h : w.ownsRow B e size (.slice (some ⟨g, 0, none⟩) n cap) n xs) (j : Nat) (v : Value) : (w.setCell ⟨g, j, none⟩ v).ownsRow B e size (.slice (some ⟨g, 0, none⟩) n cap) n (xs.set j v) := by
  refine ⟨by rw [List.length_set]; exact h.1, ?_⟩
  rcases h.2 with ⟨e, _⟩ | ⟨g', cap', cur, e, hB, hb, hc, hm, hs, ht⟩
  · cases e
  · cases e
    refine Or.inr ⟨g, cap, cur.setIfInBounds j v, rfl, hB, heap_set hb v, hc, hm, by simpa using hs, ?_⟩
    rw [← ht]
    simp [List.take_set]
theorem own_types {w : World} {B B' e e' n n' k k' : Nat} {v v' : Value} {xs xs' : List Value} (h : w.ownsRow B e n v k xs) (h' : w.ownsRow B' e' n' v' k' xs') (hne : e ≠ e') : v.ownBlock = none ∨ v.ownBlock ≠ v'.ownBlock := by
  rcases h.2 with ⟨rfl, _⟩ | ⟨g, cap, cur, rfl, _, hb, _⟩
  · exact Or.inl rfl
  · rcases h'.2 with ⟨rfl, _⟩ | ⟨g', cap', cur', rfl, _, hb', _⟩
    · exact Or.inr (by simp [Value.ownBlock])
    · refine Or.inr fun e => ?_
      simp [Value.ownBlock] at e
      subst e
      rw [hb] at hb'
      cases hb'
      exact hne rfl
def scells (ns : List ByteArray) : List Value := ns.map Value.string
def tcell (t : TargD) : List Value := [.int .i64 t.cls, .int .i64 t.meth]
theorem tlen (ts : List TargD) : (ts.flatMap tcell).length = ts.length * 2 := by
  induction ts with
  | nil => rfl
  | cons x l ih => rw [List.flatMap_cons, List.length_append, ih, List.length_cons]; simp [tcell]; omega
theorem flat_one (ns : List ByteArray) : ns.flatMap (fun s => [Value.string s]) = scells ns := by
  induction ns with
  | nil => rfl
  | cons x l ih => rw [List.flatMap_cons, ih]; rfl
theorem own_names {w : World} {B : Nat} {v : Value} {ns : List ByteArray} (h : w.ownsRow B 9 1 v ns.length (scells ns)) (hs : ∀ s ∈ ns, s.size ≤ maxLen) (hl : ns.length ≤ 1000) : SL 1 RS (MT B [9] w) w v ns := by
  have hz : (ns.map fun s => ([Value.string s], s)).length = ns.length := by simp
  have hf : (ns.map fun s => ([Value.string s], s)).flatMap (·.1) = scells ns := by rw [List.flatMap_map]; exact flat_one ns
  have := own_SL (n := 1) (R := RS) (T := [9]) (zs := ns.map fun s => ([Value.string s], s)) (by rw [hz, hf]; exact h) (fun z hz => by
    obtain ⟨s, hs', rfl⟩ := List.mem_map.1 hz
    exact ⟨rfl, rfl, hs s hs'⟩) (by simp) (by rw [hz]; unfold maxLen; omega)
  rwa [List.map_map, show ((·.2) ∘ fun s : ByteArray => ([Value.string s], s)) = id from rfl, List.map_id] at this
theorem own_targs {w : World} {B : Nat} {v : Value} {ts : List TargD} (h : w.ownsRow B 110 2 v ts.length (ts.flatMap tcell)) (hl : ts.length ≤ 1000) : SL 2 RT (MT B [110] w) w v ts := by
  have hz : (ts.map fun s => (tcell s, s)).length = ts.length := by simp
  have hf : (ts.map fun s => (tcell s, s)).flatMap (·.1) = ts.flatMap tcell := by rw [List.flatMap_map]
  have := own_SL (n := 2) (R := RT) (T := [110]) (zs := ts.map fun s => (tcell s, s)) (by rw [hz, hf]; exact h) (fun z hz => by
    obtain ⟨s, hs', rfl⟩ := List.mem_map.1 hz
    exact ⟨rfl, rfl⟩) (by simp) (by rw [hz]; unfold maxLen; omega)
  rwa [List.map_map, show ((·.2) ∘ fun s : TargD => (tcell s, s)) = id from rfl, List.map_id] at this
theorem set_targs (ts : List TargD) (k : Nat) (t : TargD) : ((ts.flatMap tcell).set (k * 2) (.int .i64 t.cls)).set (k * 2 + 1) (.int .i64 t.meth) = (ts.set k t).flatMap tcell := by
  induction ts generalizing k with
  | nil => simp
  | cons x l ih =>
    cases k with
    | zero => simp [tcell]
    | succ k =>
      rw [List.set_cons_succ, List.flatMap_cons, List.flatMap_cons, ← ih k]
      have e1 : (k + 1) * 2 = k * 2 + 1 + 1 := by omega
      rw [e1]
      simp [tcell]
theorem tab_len (P : List (ByteArray × TargD)) : ∀ acc : List ByteArray × List TargD, acc.1.length = acc.2.length → (P.foldl tabStep acc).1.length = (P.foldl tabStep acc).2.length := by
  induction P with
  | nil => exact fun _ h => h
  | cons x P ih =>
    intro acc h
    refine ih _ ?_
    unfold tabStep
    split
    · simpa using h
    · simp [h]
theorem tab_snoc (P : List (ByteArray × TargD)) (x : ByteArray × TargD) : (P ++ [x]).foldl tabStep ([], []) = tabStep (P.foldl tabStep ([], [])) x := by rw [List.foldl_append]; rfl
theorem idxS_lt (l : List ByteArray) (s : ByteArray) : idxS l s < l.length := by
  unfold idxS
  split
  · rename_i i h
    have := (List.findIdx?_eq_some_iff_getElem.1 h).1
    omega
  · omega
theorem ownT_len (l : List ClassD) (n : Nat) : (ownT l n).length = (clsAt l n).meths.length := by simp [ownT]
theorem ownT_get (l : List ClassD) (n j : Nat) (h : j < (ownT l n).length) (h' : j < (clsAt l n).meths.length) : (ownT l n)[j] = ((clsAt l n).meths[j].name, ⟨n, j⟩) := by simp [ownT]

set_option maxRecDepth 100000 in
set_option maxHeartbeats 8000000 in
theorem namesOf_any (w : World) (B b : Nat) (l : List ClassD) (n : Nat) (hn : n < l.length) (ao : Option Addr) (cl : Nat) (c0 : w.cell? ⟨b, 0, none⟩ = some (.slice ao l.length cl)) (sC : SL 4 RC (· < B) w (.slice ao l.length cl) l)
    (vL : Value) (LL : List (List Nat)) (c6 : w.cell? ⟨b, 6, none⟩ = some vL) (sL : SL 1 (RSl 1 RO) (MT B [3, 32] w) w vL LL) (hnL : n < LL.length) (hLL : LL[n] = lineOf l n) (hB : B ≤ w.heap.size) (hN : l.length ≤ 10) (hF : ∀ c ∈ l, c.meths.length ≤ 8) :
    Calls Tryz.prog 117 #[.pointer (some ⟨b, 0, none⟩), .int .i64 n] w fun r w' => Below w.heap.size w w' ∧ ∃ v u, r = .returned (.tuple #[v, u]) ∧ SL 1 RS (MT w.heap.size [9] w') w' v (namesOf l n) ∧ SL 2 RT (MT w.heap.size [110] w') w' u (targetsOf l n) := by
  obtain ⟨iS, hiS, hzS0, hzS1, hzS2⟩ := info_parts Tryz.infoStr
  obtain ⟨iT, hiT, hzT0, hzT1, hzT2⟩ := info_parts Tryz.infoTarg
  have hbl : b < w.heap.size := World.block_lt_of_cell? w _ c0
  have HLL := mkHid hLL
  have HC := mkHid sC
  have sL' := sL
  obtain ⟨aL, cL, rfl, -⟩ := sL'
  obtain ⟨bL, oL, aI, cI, rfl, hbL, eL, sI⟩ := sL.atSl n hnL
  rw [HLL.out] at eL sI
  have hkL := line_lt hn
  have hlL := line_len l n
  have HTO : Hid (tableOf l n = ((lineOf l n).flatMap (ownT l)).foldl tabStep ([], [])) := rfl
  generalize lineOf l n = ln at *
  have HI := mkHid sI
  have HK := mkHid hkL
  have HFF := mkHid hF
  have hn0 : (0 : Int) ≤ n := by omega
  have hn1 : (n : Int) < LL.length := by omega
  clear sC sL sI hLL hkL hF
  go_enter Tryz.func117, Tryz.ntmps117
  go_wp2_with fail
  go_loopw [6, 7, 22] (fun v u i wr => ∃ (k : Nat) (ns : List ByteArray) (ts : List TargD), k ≤ ln.length ∧ i = .int .i64 k ∧ Hid ((ns, ts) = ((ln.take k).flatMap (ownT l)).foldl tabStep ([], [])) ∧ ns.length ≤ 8 * k ∧ Hid (ts.length = ns.length) ∧ Hid (∀ s ∈ ns, s.size ≤ maxLen) ∧
    wr.ownsRow w.heap.size 9 1 v ns.length (scells ns) ∧ wr.ownsRow w.heap.size 110 2 u ts.length (ts.flatMap tcell) ∧ Below w.heap.size w wr) (fun _ _ i _ => ln.length - (intOf i).toNat)
  case atStart => exact ⟨0, [], [], Nat.zero_le _, rfl, rfl, by simp, rfl, (fun f hf => by cases hf), World.ownsRow_nil _ _ _ _, World.ownsRow_nil _ _ _ _, Below.refl _ _⟩
  case round =>
    obtain ⟨k, ns, ts, hk, rfl, HP, hfl, HTS, HSZ, hown, hownT, hBr⟩ := hrel
    obtain ⟨a6, c6, rfl⟩ := own_shape hown
    obtain ⟨a7, c7, rfl⟩ := own_shape hownT
    have hsr := hBr.size
    by_cases hlt : k < ln.length
    · obtain ⟨bi, oi, rfl, hbi, ei⟩ := HI.out.atO k hlt
      have ei' := (hBr.cell (p := ⟨bi, oi + k, none⟩) hbi).trans ei
      have hmk := HK.out ln[k] (List.getElem_mem hlt)
      have d0 : wr.cell? ⟨b, 0, none⟩ = some (.slice ao l.length cl) := (hBr.cell (p := ⟨b, 0, none⟩) hbl).trans c0
      obtain ⟨bc, oc, vf, vm, rfl, hbc, e0, e1, e2, e3, ef, em, es1, es2⟩ := HC.out.atC ln[k] hmk
      have e3' := (hBr.cell (p := ⟨bc, oc + ln[k] * 4 + 3, none⟩) hbc).trans e3
      have hcf' := HFF.out l[ln[k]] (List.getElem_mem hmk)
      have HNX : Hid ((ln.take (k + 1)).flatMap (ownT l) = (ln.take k).flatMap (ownT l) ++ ownT l ln[k]) := by
        show _ = _
        rw [List.take_succ_eq_append_getElem hlt, List.flatMap_append]
        simp
      clear e0 e1 e2 e3 ef es1 es2 ei hbc
      rw [← clsAt_eq hmk] at em hcf'
      obtain ⟨mo, cm, rfl, -⟩ := id em
      have EM' := mkHid em
      have e4 := e3'
      clear em e3'
      generalize ln[k] = m at *
      have HOT := mkHid (ownT_len l m)
      generalize hms : (clsAt l m).meths = ms at *
      have HMS := mkHid hms
      clear hms
      have hm0 : (0 : Int) ≤ m := by omega
      have hm1 : (m : Int) < l.length := by omega
      have HPK := mkHid HP.out
      obtain ⟨PK, hPK⟩ : ∃ PK, PK = (ln.take k).flatMap (ownT l) := ⟨_, rfl⟩
      rw [← hPK] at HP HNX HPK
      have HPP := mkHid hPK
      clear hPK
      go_wp2_with fail
      go_loopw [6, 7, 36] (fun v u i wq => ∃ (j : Nat) (ns : List ByteArray) (ts : List TargD), j ≤ ms.length ∧ i = .int .i64 j ∧ Hid ((ns, ts) = (PK ++ (ownT l m).take j).foldl tabStep ([], [])) ∧ ns.length ≤ 8 * k + j ∧ Hid (ts.length = ns.length) ∧ Hid (∀ s ∈ ns, s.size ≤ maxLen) ∧
        wq.ownsRow w.heap.size 9 1 v ns.length (scells ns) ∧ wq.ownsRow w.heap.size 110 2 u ts.length (ts.flatMap tcell) ∧ Below w.heap.size w wq) (fun _ _ i _ => ms.length - (intOf i).toNat)
      case atStart => exact ⟨0, ns, ts, Nat.zero_le _, rfl, by show _ = _; rw [List.take_zero, List.append_nil]; exact HP.out, by omega, HTS.out, HSZ.out, hown, hownT, hBr⟩
      case round =>
        clear hown hownT hBr HP HSZ hfl HTS hsr d0 ei' e4
        rename World => wq
        obtain ⟨j, ns, ts, hj, rfl, HP, hfl, HTS, HSZ, hown, hownT, hBr⟩ := hrel
        obtain ⟨a6, c6, rfl⟩ := own_shape hown
        obtain ⟨a7, c7, rfl⟩ := own_shape hownT
        have hsr := hBr.size
        by_cases hjt : j < ms.length
        · obtain ⟨bm, om, va, vh, hmo, hbm, q0, q1, q2, q3, q4, q5, q6, q7, q8, sa, sh, sz1, sz2, sz3⟩ := (EM'.out.keptM (Kp.below (hBr.mono hB))).atM j hjt
          subst hmo
          obtain ⟨aa, ca, rfl, -⟩ := sa
          obtain ⟨ah, ch, rfl, -⟩ := sh
          have HNJ : Hid (PK ++ (ownT l m).take (j + 1) = (PK ++ (ownT l m).take j) ++ [(ms[j].name, ⟨m, j⟩)]) := by
            show _ = _
            have hjo : j < (ownT l m).length := by rw [HOT.out]; exact hjt
            rw [List.take_succ_eq_append_getElem hjo, List.append_assoc, ownT_get l m j hjo (by rw [HMS.out]; exact hjt)]
            congr 3
            simp [HMS.out]
          have HON := mkHid hown
          have HOTT := mkHid hownT
          have hBa := (hBr.alloc hsr (.cells #[.string ms[j].name, .bool ms[j].static, .slice aa ms[j].args.length ca, .int .i64 ms[j].ret.kind, .string ms[j].ret.cls, .int .i64 ms[j].stack, .int .i64 ms[j].locals, .string ms[j].code, .slice ah ms[j].hands.length ch] 76))
          have HB2 := mkHid (hBa.alloc hBa.size (.cells #[.int .i64 m, .int .i64 j] 110))
          generalize hmj : ms[j] = mj at *
          clear hmj hBa
          have SN : Hid (SL 1 RS (MT w.heap.size [9] ((wq.alloc (.cells #[.string mj.name, .bool mj.static, .slice aa mj.args.length ca, .int .i64 mj.ret.kind, .string mj.ret.cls, .int .i64 mj.stack, .int .i64 mj.locals, .string mj.code, .slice ah mj.hands.length ch] 76)).alloc (.cells #[.int .i64 m, .int .i64 j] 110))) ((wq.alloc (.cells #[.string mj.name, .bool mj.static, .slice aa mj.args.length ca, .int .i64 mj.ret.kind, .string mj.ret.cls, .int .i64 mj.stack, .int .i64 mj.locals, .string mj.code, .slice ah mj.hands.length ch] 76)).alloc (.cells #[.int .i64 m, .int .i64 j] 110)) (.slice a6 ns.length c6) ns) := own_names ((hown.alloc _).alloc _) HSZ.out (by omega)
          clear hown hownT
          go_wp2_with fail
          refine (indexStr_any _ _ _ ns mj.name SN.out).mono ?_
          rintro r w1 ⟨rfl, rfl⟩
          have hix := idxS_lt ns mj.name
          by_cases hat : 0 ≤ idxS ns mj.name
          · obtain ⟨at_, hat2⟩ := Int.eq_ofNat_of_zero_le hat
            have HST : Hid (tabStep (ns, ts) (mj.name, ⟨m, j⟩) = (ns, ts.set at_ ⟨m, j⟩)) := by
              show _ = _
              rw [tabStep, if_pos hat]
              show (ns, ts.set (idxS ns mj.name).toNat _) = _
              rw [hat2]
              rfl
            rw [hat2] at hix ⊢
            clear hat hat2
            obtain ⟨g7, hg7, hgc7⟩ : ∃ g7, a7 = some ⟨g7, 0, none⟩ ∧ ts.length ≤ c7 := by
              obtain ⟨h1, h2⟩ := own_app HOTT.out
              rcases h2 with rfl | ⟨g, rfl⟩
              · rcases HOTT.out.2 with ⟨e, h0⟩ | ⟨g, _, _, e, _⟩
                · have := HTS.out
                  omega
                · cases e
              · exact ⟨g, rfl, h1⟩
            subst hg7
            have hgl := HOTT.out.lt g7 rfl
            have k0 : wq.cell? ⟨g7, at_ * 2, none⟩ = (ts.flatMap tcell)[at_ * 2]? := HOTT.out.cellAt _ (by have := HTS.out; omega)
            have k1 : wq.cell? ⟨g7, at_ * 2 + 1, none⟩ = (ts.flatMap tcell)[at_ * 2 + 1]? := HOTT.out.cellAt _ (by have := HTS.out; omega)
            have hat3 : at_ < ts.length := by have := HTS.out; omega
            have k0' : wq.cell? ⟨g7, at_ * 2, none⟩ = some (.int .i64 (ts[at_]).cls) := by rw [k0]; have := flat_get (n := 2) tcell ts at_ 0 (fun _ _ => rfl) hat3 (by decide); simpa [tcell] using this
            have k1' : wq.cell? ⟨g7, at_ * 2 + 1, none⟩ = some (.int .i64 (ts[at_]).meth) := by rw [k1]; have := flat_get (n := 2) tcell ts at_ 1 (fun _ _ => rfl) hat3 (by decide); simpa [tcell] using this
            obtain ⟨cur7, hb7⟩ : ∃ cur7, wq.heap[g7]? = some (.cells cur7 110 (0, 0)) := by
              rcases HOTT.out.2 with ⟨e, _⟩ | ⟨g, _, cur, e, _, hb, _⟩
              · cases e
              · cases e; exact ⟨cur, hb⟩
            have z0 : ∀ q, wq.frozen? ⟨g7, q, none⟩ = false := fun q => by simp [World.frozen?, hb7]
            have HF7 := mkHid hb7
            have ht0 : (0 : Int) ≤ at_ := by omega
            have ht1 : (at_ : Int) < ts.length := by have := HTS.out; omega
            have hg7s : g7 < wq.heap.size := hgl.2
            clear k0 k1 hb7
            go_wp2_with fail
            go_roundw
            case rel =>
              have hB3 := ((((hBr.setCell (p := ⟨g7, at_ * 2, none⟩) hgl.1 (.int .i64 m)).setCell (p := ⟨g7, at_ * 2 + 1, none⟩) hgl.1 (.int .i64 j)).alloc (by simpa [World.setCell] using hsr) (.cells #[.string mj.name, .bool mj.static, .slice aa mj.args.length ca, .int .i64 mj.ret.kind, .string mj.ret.cls, .int .i64 mj.stack, .int .i64 mj.locals, .string mj.code, .slice ah mj.hands.length ch] 76)).alloc (by simp [World.setCell]; omega) (.cells #[.int .i64 m, .int .i64 j] 110))
              refine ⟨j + 1, ns, ts.set at_ ⟨m, j⟩, by omega, by go_num, ?_, by omega, by show _ = _; have := HTS.out; simpa using this, HSZ.out, ?_, ?_, hB3⟩
              · show _ = _
                rw [HNJ.out, tab_snoc, ← HP.out, HST.out]
              · refine ((HON.out.kept (row := some g7) ?_ ?_).alloc _).alloc _
                · exact grown_set (grown_set (World.grownBy.refl _ _) _ _ (Or.inl rfl)) _ _ (Or.inl rfl)
                · rcases own_types HON.out HOTT.out (by decide) with h | h
                  · exact Or.inl h
                  · exact Or.inr h
              · have := own_set (own_set HOTT.out (at_ * 2) (.int .i64 m)) (at_ * 2 + 1) (.int .i64 j)
                rw [set_targs ts at_ ⟨m, j⟩] at this
                rw [List.length_set]
                exact (this.alloc _).alloc _
            case measure => simp [intOf]; omega
          · have HST : Hid (tabStep (ns, ts) (mj.name, ⟨m, j⟩) = (ns ++ [mj.name], ts ++ [⟨m, j⟩])) := by
              show _ = _
              rw [tabStep, if_neg hat]
            have hON2 := (HON.out.alloc (.cells #[.string mj.name, .bool mj.static, .slice aa mj.args.length ca, .int .i64 mj.ret.kind, .string mj.ret.cls, .int .i64 mj.stack, .int .i64 mj.locals, .string mj.code, .slice ah mj.hands.length ch] 76)).alloc (.cells #[.int .i64 m, .int .i64 j] 110)
            have hOT2 := (HOTT.out.alloc (.cells #[.string mj.name, .bool mj.static, .slice aa mj.args.length ca, .int .i64 mj.ret.kind, .string mj.ret.cls, .int .i64 mj.stack, .int .i64 mj.locals, .string mj.code, .slice ah mj.hands.length ch] 76)).alloc (.cells #[.int .i64 m, .int .i64 j] 110)
            have k0 : ((wq.alloc (.cells #[.string mj.name, .bool mj.static, .slice aa mj.args.length ca, .int .i64 mj.ret.kind, .string mj.ret.cls, .int .i64 mj.stack, .int .i64 mj.locals, .string mj.code, .slice ah mj.hands.length ch] 76)).alloc (.cells #[.int .i64 m, .int .i64 j] 110)).cell? ⟨wq.heap.size, 0, none⟩ = some (.string mj.name) := by simp [go_sem]
            have kt : ((wq.alloc (.cells #[.string mj.name, .bool mj.static, .slice aa mj.args.length ca, .int .i64 mj.ret.kind, .string mj.ret.cls, .int .i64 mj.stack, .int .i64 mj.locals, .string mj.code, .slice ah mj.hands.length ch] 76)).alloc (.cells #[.int .i64 m, .int .i64 j] 110)).heap[wq.heap.size + 1]? = some (.cells #[.int .i64 m, .int .i64 j] 110 (0, 0)) := by
              have := heap_alloc_new (wq.alloc (.cells #[.string mj.name, .bool mj.static, .slice aa mj.args.length ca, .int .i64 mj.ret.kind, .string mj.ret.cls, .int .i64 mj.stack, .int .i64 mj.locals, .string mj.code, .slice ah mj.hands.length ch] 76)) (.cells #[.int .i64 m, .int .i64 j] 110)
              simpa using this
            have hzz : wq.heap.size + 1 < ((wq.alloc (.cells #[.string mj.name, .bool mj.static, .slice aa mj.args.length ca, .int .i64 mj.ret.kind, .string mj.ret.cls, .int .i64 mj.stack, .int .i64 mj.locals, .string mj.code, .slice ah mj.hands.length ch] 76)).alloc (.cells #[.int .i64 m, .int .i64 j] 110)).heap.size := by simp
            have hB2 := HB2.out
            generalize ((wq.alloc (.cells #[.string mj.name, .bool mj.static, .slice aa mj.args.length ca, .int .i64 mj.ret.kind, .string mj.ret.cls, .int .i64 mj.stack, .int .i64 mj.locals, .string mj.code, .slice ah mj.hands.length ch] 76)).alloc (.cells #[.int .i64 m, .int .i64 j] 110)) = W2 at *
            generalize idxS ns mj.name = ix at *
            have hlq6 : ∀ q, (Value.slice a6 ns.length c6).ownBlock = some q → w.heap.size ≤ q ∧ q < wq.heap.size := fun q e => HON.out.lt q e
            have HBB : Hid (ns.length + 1 ≤ maxLen ∧ (ns.length + 1) * 16 ≤ 140737488355328 ∧ w.heap.size ≤ (W2.alloc (.cells #[.string mj.name] 9)).heap.size) := ⟨by unfold maxLen; omega, by omega, by have := hB2.size; simp; omega⟩
            have HO2 := mkHid hON2
            have HT2 := mkHid hOT2
            have HKT := mkHid kt
            have HLQ := mkHid hlq6
            have HBW := mkHid hB2
            clear hON2 hOT2 kt hlq6 hB2 HB2 SN q0 q1 q2 q3 q4 q5 q6 q7 q8
            go_wp2_with (at_builtin; refine wpList_append_lies _ rfl _ _ 54 rfl w.heap.size 9 iS (.string ⟨#[]⟩) 1 16 Tryz.underlying54 hiS hzS0 hzS1 hzS2 rfl (by decide) (.slice a6 ns.length c6) ns.length (scells ns) rfl (HO2.out.alloc _) ⟨W2.heap.size, 0, none⟩ 1 1 [.string mj.name] rfl rfl (World.news_of_block (heap_alloc_new W2 _)) (by intro u hu; simp at hu; subst hu; rfl) (by omega) HBB.out.1 HBB.out.2.1 HBB.out.2.2 _ rfl ?_)
            intro g6 cp6 w3 hown3 hgr3 _ hlt3
            have hsz3 : W2.heap.size + 1 ≤ w3.heap.size := by have := hgr3.size; simpa using this
            have hblk3 : w3.heap[wq.heap.size + 1]? = some (.cells #[.int .i64 m, .int .i64 j] 110 (0, 0)) := by
              rw [hgr3.block (wq.heap.size + 1) (by simp; omega) (fun e => by have := (HLQ.out _ e.symm).2; omega), Below.heap_alloc _ _ _ hzz]
              exact HKT.out
            have hT3 := (HT2.out.alloc (.cells #[.string mj.name] 9)).kept hgr3 (own_types HOTT.out HON.out (by decide))
            have hB3 : Below w.heap.size w w3 := (HBW.out.alloc HBW.out.size _).grown hgr3 (by have := HBW.out.size; simp; omega) (fun q e => (HLQ.out q e).1)
            have k3 := cell_of hblk3 0 (x := .int .i64 m) rfl
            have k4 := cell_of hblk3 1 (x := .int .i64 j) rfl
            have HBC : Hid (ts.length + 1 ≤ maxLen ∧ (ts.length + 1) * 16 ≤ 140737488355328 ∧ w.heap.size ≤ (w3.alloc (.cells #[.int .i64 m, .int .i64 j] 110)).heap.size) := ⟨by have := HTS.out; unfold maxLen; omega, by have := HTS.out; omega, by have := hB3.size; simp; omega⟩
            have HT3 := mkHid hT3
            have HN3 := mkHid hown3
            have HB3 := mkHid hB3
            clear hown3 hgr3 hblk3 hT3 hB3 k0
            go_wp2_with (at_builtin; refine wpList_append_lies _ rfl _ _ 84 rfl w.heap.size 110 iT (.agg #[.int .i64 0, .int .i64 0]) 2 16 Tryz.underlying84 hiT hzT0 hzT1 hzT2 rfl (by decide) (.slice a7 ts.length c7) ts.length (ts.flatMap tcell) rfl (HT3.out.alloc _) ⟨w3.heap.size, 0, none⟩ 1 1 [.int .i64 m, .int .i64 j] rfl rfl (World.news_of_block (heap_alloc_new w3 _)) (by intro u hu; simp at hu; rcases hu with rfl | rfl <;> rfl) (by omega) HBC.out.1 HBC.out.2.1 HBC.out.2.2 _ rfl ?_)
            intro g7 cp7 w4 hown4 hgr4 _ hlt4
            have hN4 := (HN3.out.alloc (.cells #[.int .i64 m, .int .i64 j] 110)).kept hgr4 (own_types HN3.out HT3.out (by decide))
            have hB4 : Below w.heap.size w w4 := (HB3.out.alloc HB3.out.size _).grown hgr4 (by have := HB3.out.size; simp; omega) (fun q e => (HT3.out.lt q e).1)
            have HFIN := mkHid (And.intro hN4 (And.intro hown4 hB4))
            clear hown4 hgr4 hN4 hB4 k3 k4
            go_wp2_with fail
            go_roundw
            case rel =>
              obtain ⟨hN4, hT4, hB4⟩ := HFIN.out
              refine ⟨j + 1, ns ++ [mj.name], ts ++ [⟨m, j⟩], by omega, by go_num, ?_, by simp; omega, by show _ = _; have := HTS.out; simp; omega, ?_, ?_, ?_, hB4⟩
              · show _ = _
                rw [HNJ.out, tab_snoc, ← HP.out, HST.out]
              · show ∀ s ∈ _, _
                intro s hs
                rcases List.mem_append.1 hs with hs | hs
                · exact HSZ.out s hs
                · rw [List.mem_singleton] at hs
                  rw [hs]
                  exact sz1
              · rw [List.length_append, show scells (ns ++ [mj.name]) = scells ns ++ [.string mj.name] by simp [scells]]
                exact hN4
              · rw [List.length_append, List.flatMap_append]
                exact hT4
            case measure => simp [intOf]; omega
        · have HX : Hid ((ns, ts) = ((ln.take (k + 1)).flatMap (ownT l)).foldl tabStep ([], [])) := by
            show _ = _
            rw [HNX.out, HP.out, List.take_of_length_le (by rw [HOT.out]; omega)]
          have HN5 := mkHid hown
          have HT5 := mkHid hownT
          clear hown hownT
          go_wp2_with fail
          go_roundw
          case rel => exact ⟨k + 1, ns, ts, by omega, by go_num, HX.out, by omega, HTS.out, HSZ.out, HN5.out, HT5.out, hBr⟩
          case measure => simp [intOf]; omega
    · have HX : Hid (tableOf l n = (ns, ts)) := by
        show _ = _
        rw [HTO.out, HP.out, List.take_of_length_le (by omega)]
      have SN := mkHid (own_names hown HSZ.out (by omega))
      have ST := mkHid (own_targs hownT (by have := HTS.out; omega))
      clear hown hownT
      go_wp2_with fail
      go_ret2
      exact ⟨hBr, _, _, rfl, by rw [namesOf, HX.out]; exact SN.out, by rw [targetsOf, HX.out]; exact ST.out⟩
end Go.Proofs.YtaekpdcnnkmahaaGreatDoor
/- A web that is being woven: its state in memory. -/
namespace Go.Proofs.YtaekpdcnnkmahaaGreatDoor
open Go.RowKit Go.Sort

theorem RSl.stp {α : Type} {n : Nat} {R : (Nat → Prop) → World → List Value → α → Prop} {B : Nat} {T : List Nat} {w w' : World} {cs : List Value} {x : List α} (h : RSl n R (MT B T w) w cs x) (hs : Stp B T w w') (hR : ∀ M M' w w' cs x, R M w cs x → R M' w' cs x) : RSl n R (MT B T w') w' cs x := by
  obtain ⟨v, e, h⟩ := h
  exact ⟨v, e, (h.kept hs.kp fun _ _ h => hR _ _ _ _ _ _ h).mono (fun _ hk => hk.step hs) fun _ _ h => hR _ _ _ _ _ _ h⟩
theorem own_belowW {w w' : World} {B : Nat} {e size n : Nat} {v : Value} {xs : List Value} (h : w.ownsRow B e size v n xs) (hb : Below w.heap.size w w') : w'.ownsRow B e size v n xs :=
  h.kept (row := none) ⟨hb.os, hb.tape, hb.output, hb.size, fun k hk _ => hb.block k hk⟩ (by cases v.ownBlock <;> simp)

structure Wv (w0 W : World) (l : List ClassD) (vC vS vF vN vT vL : Value) (zF : List (List Value × List FieldD)) (zN : List (List Value × List ByteArray)) (zT : List (List Value × List TargD)) (zL : List (List Value × List Nat)) : Prop where
  below : Below w0.heap.size w0 W
  blk : W.heap[w0.heap.size + 1]? = some (.cells #[vC, vS, vF, vN, vT, .map (some w0.heap.size), vL] 106 (0, 0))
  sS : SL 1 RI (MT w0.heap.size [3] W) W vS ((List.range l.length).map (supAt l))
  nm : NumMap W w0.heap.size l
  oF : W.ownsRow (w0.heap.size + 2) 49 1 vF zF.length (zF.flatMap (·.1))
  aF : ∀ z ∈ zF, z.1.length = 1 ∧ RSl 3 RF (MT w0.heap.size [53] W) W z.1 z.2
  oN : W.ownsRow (w0.heap.size + 2) 54 1 vN zN.length (zN.flatMap (·.1))
  aN : ∀ z ∈ zN, z.1.length = 1 ∧ RSl 1 RS (MT w0.heap.size [9] W) W z.1 z.2
  oT : W.ownsRow (w0.heap.size + 2) 84 1 vT zT.length (zT.flatMap (·.1))
  aT : ∀ z ∈ zT, z.1.length = 1 ∧ RSl 2 RT (MT w0.heap.size [110] W) W z.1 z.2
  oL : W.ownsRow (w0.heap.size + 2) 32 1 vL zL.length (zL.flatMap (·.1))
  aL : ∀ z ∈ zL, z.1.length = 1 ∧ RSl 1 RO (MT w0.heap.size [3] W) W z.1 z.2
theorem Wv.lt {w0 W : World} {l : List ClassD} {vC vS vF vN vT vL : Value} {zF : List (List Value × List FieldD)} {zN : List (List Value × List ByteArray)} {zT : List (List Value × List TargD)} {zL : List (List Value × List Nat)} (h : Wv w0 W l vC vS vF vN vT vL zF zN zT zL) : w0.heap.size + 1 < W.heap.size := lt_of h.blk
theorem Wv.grow {w0 W : World} {l : List ClassD} {vC vS vF vN vT vL : Value} {zF : List (List Value × List FieldD)} {zN : List (List Value × List ByteArray)} {zT : List (List Value × List TargD)} {zL : List (List Value × List Nat)} {W' : World} (h : Wv w0 W l vC vS vF vN vT vL zF zN zT zL) (hb : Below W.heap.size W W') : Wv w0 W' l vC vS vF vN vT vL zF zN zT zL :=
  ⟨h.below.trans (hb.mono h.below.size), (hb.block _ h.lt).trans h.blk, (h.sS.keptI (Stp.below hb).kp).monoI fun _ hk => hk.step (Stp.below hb), h.nm.below hb h.nm.lt,
   own_belowW h.oF hb, (fun z hz => ⟨(h.aF z hz).1, (h.aF z hz).2.stp (Stp.below hb) fun _ _ _ _ _ _ h => h⟩), own_belowW h.oN hb, (fun z hz => ⟨(h.aN z hz).1, (h.aN z hz).2.stp (Stp.below hb) fun _ _ _ _ _ _ h => h⟩), own_belowW h.oT hb, (fun z hz => ⟨(h.aT z hz).1, (h.aT z hz).2.stp (Stp.below hb) fun _ _ _ _ _ _ h => h⟩), own_belowW h.oL hb, (fun z hz => ⟨(h.aL z hz).1, (h.aL z hz).2.stp (Stp.below hb) fun _ _ _ _ _ _ h => h⟩)⟩
theorem Wv.cell {w0 W : World} {l : List ClassD} {vC vS vF vN vT vL : Value} {zF : List (List Value × List FieldD)} {zN : List (List Value × List ByteArray)} {zT : List (List Value × List TargD)} {zL : List (List Value × List Nat)} (h : Wv w0 W l vC vS vF vN vT vL zF zN zT zL) (j : Nat) {x : Value} (hx : (#[vC, vS, vF, vN, vT, .map (some w0.heap.size), vL] : Array Value)[j]? = some x) : W.cell? ⟨w0.heap.size + 1, j, none⟩ = some x := cell_of h.blk j hx

set_option maxHeartbeats 1000000 in
theorem Wv.addF {w0 W : World} {l : List ClassD} {vC vS vF vN vT vL : Value} {zF : List (List Value × List FieldD)} {zN : List (List Value × List ByteArray)} {zT : List (List Value × List TargD)} {zL : List (List Value × List Nat)} (h : Wv w0 W l vC vS vF vN vT vL zF zN zT zL) {u : Value} {x : List FieldD} (hu : SL 3 RF (MT w0.heap.size [53] W) W u x) {w1 : World} {v' : Value}
    (ho : w1.ownsRow (w0.heap.size + 2) 49 1 v' (zF.length + 1) (zF.flatMap (·.1) ++ [u])) (hg : (W.alloc (.cells #[u] 49)).grownBy w1 vF.ownBlock) :
    Wv w0 (w1.setCell ⟨w0.heap.size + 1, 2, none⟩ v') l vC vS v' vN vT vL (zF ++ [([u], x)]) zN zT zL := by
  have hlt := h.lt
  have hrb : ∀ q, vF.ownBlock = some q → w0.heap.size + 2 ≤ q ∧ q < W.heap.size := fun q e => h.oF.lt q e
  have hb1 : w1.heap[w0.heap.size + 1]? = some (.cells #[vC, vS, vF, vN, vT, .map (some w0.heap.size), vL] 106 (0, 0)) := by
    rw [hg.block (w0.heap.size + 1) (by simp; omega) (fun e => by have := (hrb _ e.symm).1; omega), Below.heap_alloc _ _ _ hlt]
    exact h.blk
  have hst : ∀ t, t ∉ [49, 106] → Stp w0.heap.size [t] W (w1.setCell ⟨w0.heap.size + 1, 2, none⟩ v') := fun t ht =>
    (((Stp.refl _ _ _).alloc _).trans (Stp.row hg (h.oF.alloc _) (fun e => ht (by simp at e; simp [e])))).trans (Stp.set hb1 (fun e => ht (by simp at e; simp [← e])) 2 v')
  have hB1 : Below w0.heap.size w0 w1 := (h.below.alloc h.below.size _).grown hg (by have := h.below.size; simp; omega) (fun q e => by have := (hrb q e).1; omega)
  refine ⟨hB1.setCell (by simp) _, heap_set hb1 v', ?_, ?_, ?_, ?_, ?_, ?_, ?_, ?_, ?_, ?_⟩
  · exact (h.sS.keptI (hst _ (by decide)).kp).monoI fun _ hk => hk.step (hst _ (by decide))
  · have hn1 := (h.nm.kept (row := none) (World.grownBy_alloc W _ _) (by simp)).kept hg (fun e => by have := (hrb _ e.symm).1; omega)
    exact hn1.kept (row := some (w0.heap.size + 1)) (grown_set (World.grownBy.refl _ _) _ _ (Or.inl rfl)) (by simp)

  · rw [List.length_append, snoc_flat]
    exact ownsRow_setCell_below ho (by simp) _
  · intro z hz
    rcases List.mem_append.1 hz with hz | hz
    · exact ⟨(h.aF z hz).1, (h.aF z hz).2.stp (hst _ (by decide)) fun _ _ _ _ _ _ h => h⟩
    · rw [List.mem_singleton] at hz
      subst hz
      exact ⟨rfl, RSl.stp ⟨u, rfl, hu⟩ (hst _ (by decide)) fun _ _ _ _ _ _ h => h⟩
  · exact ownsRow_setCell_below ((h.oN.alloc _).kept hg (own_types h.oN h.oF (by decide))) (by simp) _
  · exact fun z hz => ⟨(h.aN z hz).1, (h.aN z hz).2.stp (hst _ (by decide)) fun _ _ _ _ _ _ h => h⟩
  · exact ownsRow_setCell_below ((h.oT.alloc _).kept hg (own_types h.oT h.oF (by decide))) (by simp) _
  · exact fun z hz => ⟨(h.aT z hz).1, (h.aT z hz).2.stp (hst _ (by decide)) fun _ _ _ _ _ _ h => h⟩
  · exact ownsRow_setCell_below ((h.oL.alloc _).kept hg (own_types h.oL h.oF (by decide))) (by simp) _
  · exact fun z hz => ⟨(h.aL z hz).1, (h.aL z hz).2.stp (hst _ (by decide)) fun _ _ _ _ _ _ h => h⟩
set_option maxHeartbeats 1000000 in
theorem Wv.addN {w0 W : World} {l : List ClassD} {vC vS vF vN vT vL : Value} {zF : List (List Value × List FieldD)} {zN : List (List Value × List ByteArray)} {zT : List (List Value × List TargD)} {zL : List (List Value × List Nat)} (h : Wv w0 W l vC vS vF vN vT vL zF zN zT zL) {u : Value} {x : List ByteArray} (hu : SL 1 RS (MT w0.heap.size [9] W) W u x) {w1 : World} {v' : Value}
    (ho : w1.ownsRow (w0.heap.size + 2) 54 1 v' (zN.length + 1) (zN.flatMap (·.1) ++ [u])) (hg : (W.alloc (.cells #[u] 54)).grownBy w1 vN.ownBlock) :
    Wv w0 (w1.setCell ⟨w0.heap.size + 1, 3, none⟩ v') l vC vS vF v' vT vL zF (zN ++ [([u], x)]) zT zL := by
  have hlt := h.lt
  have hrb : ∀ q, vN.ownBlock = some q → w0.heap.size + 2 ≤ q ∧ q < W.heap.size := fun q e => h.oN.lt q e
  have hb1 : w1.heap[w0.heap.size + 1]? = some (.cells #[vC, vS, vF, vN, vT, .map (some w0.heap.size), vL] 106 (0, 0)) := by
    rw [hg.block (w0.heap.size + 1) (by simp; omega) (fun e => by have := (hrb _ e.symm).1; omega), Below.heap_alloc _ _ _ hlt]
    exact h.blk
  have hst : ∀ t, t ∉ [54, 106] → Stp w0.heap.size [t] W (w1.setCell ⟨w0.heap.size + 1, 3, none⟩ v') := fun t ht =>
    (((Stp.refl _ _ _).alloc _).trans (Stp.row hg (h.oN.alloc _) (fun e => ht (by simp at e; simp [e])))).trans (Stp.set hb1 (fun e => ht (by simp at e; simp [← e])) 3 v')
  have hB1 : Below w0.heap.size w0 w1 := (h.below.alloc h.below.size _).grown hg (by have := h.below.size; simp; omega) (fun q e => by have := (hrb q e).1; omega)
  refine ⟨hB1.setCell (by simp) _, heap_set hb1 v', ?_, ?_, ?_, ?_, ?_, ?_, ?_, ?_, ?_, ?_⟩
  · exact (h.sS.keptI (hst _ (by decide)).kp).monoI fun _ hk => hk.step (hst _ (by decide))
  · have hn1 := (h.nm.kept (row := none) (World.grownBy_alloc W _ _) (by simp)).kept hg (fun e => by have := (hrb _ e.symm).1; omega)
    exact hn1.kept (row := some (w0.heap.size + 1)) (grown_set (World.grownBy.refl _ _) _ _ (Or.inl rfl)) (by simp)

  · exact ownsRow_setCell_below ((h.oF.alloc _).kept hg (own_types h.oF h.oN (by decide))) (by simp) _
  · exact fun z hz => ⟨(h.aF z hz).1, (h.aF z hz).2.stp (hst _ (by decide)) fun _ _ _ _ _ _ h => h⟩
  · rw [List.length_append, snoc_flat]
    exact ownsRow_setCell_below ho (by simp) _
  · intro z hz
    rcases List.mem_append.1 hz with hz | hz
    · exact ⟨(h.aN z hz).1, (h.aN z hz).2.stp (hst _ (by decide)) fun _ _ _ _ _ _ h => h⟩
    · rw [List.mem_singleton] at hz
      subst hz
      exact ⟨rfl, RSl.stp ⟨u, rfl, hu⟩ (hst _ (by decide)) fun _ _ _ _ _ _ h => h⟩
  · exact ownsRow_setCell_below ((h.oT.alloc _).kept hg (own_types h.oT h.oN (by decide))) (by simp) _
  · exact fun z hz => ⟨(h.aT z hz).1, (h.aT z hz).2.stp (hst _ (by decide)) fun _ _ _ _ _ _ h => h⟩
  · exact ownsRow_setCell_below ((h.oL.alloc _).kept hg (own_types h.oL h.oN (by decide))) (by simp) _
  · exact fun z hz => ⟨(h.aL z hz).1, (h.aL z hz).2.stp (hst _ (by decide)) fun _ _ _ _ _ _ h => h⟩
set_option maxHeartbeats 1000000 in
theorem Wv.addT {w0 W : World} {l : List ClassD} {vC vS vF vN vT vL : Value} {zF : List (List Value × List FieldD)} {zN : List (List Value × List ByteArray)} {zT : List (List Value × List TargD)} {zL : List (List Value × List Nat)} (h : Wv w0 W l vC vS vF vN vT vL zF zN zT zL) {u : Value} {x : List TargD} (hu : SL 2 RT (MT w0.heap.size [110] W) W u x) {w1 : World} {v' : Value}
    (ho : w1.ownsRow (w0.heap.size + 2) 84 1 v' (zT.length + 1) (zT.flatMap (·.1) ++ [u])) (hg : (W.alloc (.cells #[u] 84)).grownBy w1 vT.ownBlock) :
    Wv w0 (w1.setCell ⟨w0.heap.size + 1, 4, none⟩ v') l vC vS vF vN v' vL zF zN (zT ++ [([u], x)]) zL := by
  have hlt := h.lt
  have hrb : ∀ q, vT.ownBlock = some q → w0.heap.size + 2 ≤ q ∧ q < W.heap.size := fun q e => h.oT.lt q e
  have hb1 : w1.heap[w0.heap.size + 1]? = some (.cells #[vC, vS, vF, vN, vT, .map (some w0.heap.size), vL] 106 (0, 0)) := by
    rw [hg.block (w0.heap.size + 1) (by simp; omega) (fun e => by have := (hrb _ e.symm).1; omega), Below.heap_alloc _ _ _ hlt]
    exact h.blk
  have hst : ∀ t, t ∉ [84, 106] → Stp w0.heap.size [t] W (w1.setCell ⟨w0.heap.size + 1, 4, none⟩ v') := fun t ht =>
    (((Stp.refl _ _ _).alloc _).trans (Stp.row hg (h.oT.alloc _) (fun e => ht (by simp at e; simp [e])))).trans (Stp.set hb1 (fun e => ht (by simp at e; simp [← e])) 4 v')
  have hB1 : Below w0.heap.size w0 w1 := (h.below.alloc h.below.size _).grown hg (by have := h.below.size; simp; omega) (fun q e => by have := (hrb q e).1; omega)
  refine ⟨hB1.setCell (by simp) _, heap_set hb1 v', ?_, ?_, ?_, ?_, ?_, ?_, ?_, ?_, ?_, ?_⟩
  · exact (h.sS.keptI (hst _ (by decide)).kp).monoI fun _ hk => hk.step (hst _ (by decide))
  · have hn1 := (h.nm.kept (row := none) (World.grownBy_alloc W _ _) (by simp)).kept hg (fun e => by have := (hrb _ e.symm).1; omega)
    exact hn1.kept (row := some (w0.heap.size + 1)) (grown_set (World.grownBy.refl _ _) _ _ (Or.inl rfl)) (by simp)

  · exact ownsRow_setCell_below ((h.oF.alloc _).kept hg (own_types h.oF h.oT (by decide))) (by simp) _
  · exact fun z hz => ⟨(h.aF z hz).1, (h.aF z hz).2.stp (hst _ (by decide)) fun _ _ _ _ _ _ h => h⟩
  · exact ownsRow_setCell_below ((h.oN.alloc _).kept hg (own_types h.oN h.oT (by decide))) (by simp) _
  · exact fun z hz => ⟨(h.aN z hz).1, (h.aN z hz).2.stp (hst _ (by decide)) fun _ _ _ _ _ _ h => h⟩
  · rw [List.length_append, snoc_flat]
    exact ownsRow_setCell_below ho (by simp) _
  · intro z hz
    rcases List.mem_append.1 hz with hz | hz
    · exact ⟨(h.aT z hz).1, (h.aT z hz).2.stp (hst _ (by decide)) fun _ _ _ _ _ _ h => h⟩
    · rw [List.mem_singleton] at hz
      subst hz
      exact ⟨rfl, RSl.stp ⟨u, rfl, hu⟩ (hst _ (by decide)) fun _ _ _ _ _ _ h => h⟩
  · exact ownsRow_setCell_below ((h.oL.alloc _).kept hg (own_types h.oL h.oT (by decide))) (by simp) _
  · exact fun z hz => ⟨(h.aL z hz).1, (h.aL z hz).2.stp (hst _ (by decide)) fun _ _ _ _ _ _ h => h⟩
set_option maxHeartbeats 1000000 in
theorem Wv.addL {w0 W : World} {l : List ClassD} {vC vS vF vN vT vL : Value} {zF : List (List Value × List FieldD)} {zN : List (List Value × List ByteArray)} {zT : List (List Value × List TargD)} {zL : List (List Value × List Nat)} (h : Wv w0 W l vC vS vF vN vT vL zF zN zT zL) {u : Value} {x : List Nat} (hu : SL 1 RO (MT w0.heap.size [3] W) W u x) {w1 : World} {v' : Value}
    (ho : w1.ownsRow (w0.heap.size + 2) 32 1 v' (zL.length + 1) (zL.flatMap (·.1) ++ [u])) (hg : (W.alloc (.cells #[u] 32)).grownBy w1 vL.ownBlock) :
    Wv w0 (w1.setCell ⟨w0.heap.size + 1, 6, none⟩ v') l vC vS vF vN vT v' zF zN zT (zL ++ [([u], x)]) := by
  have hlt := h.lt
  have hrb : ∀ q, vL.ownBlock = some q → w0.heap.size + 2 ≤ q ∧ q < W.heap.size := fun q e => h.oL.lt q e
  have hb1 : w1.heap[w0.heap.size + 1]? = some (.cells #[vC, vS, vF, vN, vT, .map (some w0.heap.size), vL] 106 (0, 0)) := by
    rw [hg.block (w0.heap.size + 1) (by simp; omega) (fun e => by have := (hrb _ e.symm).1; omega), Below.heap_alloc _ _ _ hlt]
    exact h.blk
  have hst : ∀ t, t ∉ [32, 106] → Stp w0.heap.size [t] W (w1.setCell ⟨w0.heap.size + 1, 6, none⟩ v') := fun t ht =>
    (((Stp.refl _ _ _).alloc _).trans (Stp.row hg (h.oL.alloc _) (fun e => ht (by simp at e; simp [e])))).trans (Stp.set hb1 (fun e => ht (by simp at e; simp [← e])) 6 v')
  have hB1 : Below w0.heap.size w0 w1 := (h.below.alloc h.below.size _).grown hg (by have := h.below.size; simp; omega) (fun q e => by have := (hrb q e).1; omega)
  refine ⟨hB1.setCell (by simp) _, heap_set hb1 v', ?_, ?_, ?_, ?_, ?_, ?_, ?_, ?_, ?_, ?_⟩
  · exact (h.sS.keptI (hst _ (by decide)).kp).monoI fun _ hk => hk.step (hst _ (by decide))
  · have hn1 := (h.nm.kept (row := none) (World.grownBy_alloc W _ _) (by simp)).kept hg (fun e => by have := (hrb _ e.symm).1; omega)
    exact hn1.kept (row := some (w0.heap.size + 1)) (grown_set (World.grownBy.refl _ _) _ _ (Or.inl rfl)) (by simp)

  · exact ownsRow_setCell_below ((h.oF.alloc _).kept hg (own_types h.oF h.oL (by decide))) (by simp) _
  · exact fun z hz => ⟨(h.aF z hz).1, (h.aF z hz).2.stp (hst _ (by decide)) fun _ _ _ _ _ _ h => h⟩
  · exact ownsRow_setCell_below ((h.oN.alloc _).kept hg (own_types h.oN h.oL (by decide))) (by simp) _
  · exact fun z hz => ⟨(h.aN z hz).1, (h.aN z hz).2.stp (hst _ (by decide)) fun _ _ _ _ _ _ h => h⟩
  · exact ownsRow_setCell_below ((h.oT.alloc _).kept hg (own_types h.oT h.oL (by decide))) (by simp) _
  · exact fun z hz => ⟨(h.aT z hz).1, (h.aT z hz).2.stp (hst _ (by decide)) fun _ _ _ _ _ _ h => h⟩
  · rw [List.length_append, snoc_flat]
    exact ownsRow_setCell_below ho (by simp) _
  · intro z hz
    rcases List.mem_append.1 hz with hz | hz
    · exact ⟨(h.aL z hz).1, (h.aL z hz).2.stp (hst _ (by decide)) fun _ _ _ _ _ _ h => h⟩
    · rw [List.mem_singleton] at hz
      subst hz
      exact ⟨rfl, RSl.stp ⟨u, rfl, hu⟩ (hst _ (by decide)) fun _ _ _ _ _ _ h => h⟩
/-- A web that was woven. -/
theorem Wv.rowsF {w0 W : World} {l : List ClassD} {vC vS vF vN vT vL : Value} {zF : List (List Value × List FieldD)} {zN : List (List Value × List ByteArray)} {zT : List (List Value × List TargD)} {zL : List (List Value × List Nat)} (h : Wv w0 W l vC vS vF vN vT vL zF zN zT zL) (hl : zF.length ≤ 1000) : SL 1 (RSl 3 RF) (MT w0.heap.size [53, 49] W) W vF (zF.map (·.2)) :=
  own_SL (n := 1) (R := RSl 3 RF) (T := [53, 49]) (own_lower h.oF (B' := w0.heap.size) (by omega)) (fun z hz => ⟨(h.aF z hz).1, by
    obtain ⟨v, e, hs⟩ := (h.aF z hz).2
    exact ⟨v, e, hs.mono (fun _ hk => hk.more (Nat.le_refl _) (fun _ ht => by simp at ht; simp [ht])) fun _ _ h => h⟩⟩) (by simp) (by unfold maxLen; omega)
theorem Wv.rowsN {w0 W : World} {l : List ClassD} {vC vS vF vN vT vL : Value} {zF : List (List Value × List FieldD)} {zN : List (List Value × List ByteArray)} {zT : List (List Value × List TargD)} {zL : List (List Value × List Nat)} (h : Wv w0 W l vC vS vF vN vT vL zF zN zT zL) (hl : zN.length ≤ 1000) : SL 1 (RSl 1 RS) (MT w0.heap.size [9, 54] W) W vN (zN.map (·.2)) :=
  own_SL (n := 1) (R := RSl 1 RS) (T := [9, 54]) (own_lower h.oN (B' := w0.heap.size) (by omega)) (fun z hz => ⟨(h.aN z hz).1, by
    obtain ⟨v, e, hs⟩ := (h.aN z hz).2
    exact ⟨v, e, hs.mono (fun _ hk => hk.more (Nat.le_refl _) (fun _ ht => by simp at ht; simp [ht])) fun _ _ h => h⟩⟩) (by simp) (by unfold maxLen; omega)
theorem Wv.rowsT {w0 W : World} {l : List ClassD} {vC vS vF vN vT vL : Value} {zF : List (List Value × List FieldD)} {zN : List (List Value × List ByteArray)} {zT : List (List Value × List TargD)} {zL : List (List Value × List Nat)} (h : Wv w0 W l vC vS vF vN vT vL zF zN zT zL) (hl : zT.length ≤ 1000) : SL 1 (RSl 2 RT) (MT w0.heap.size [110, 84] W) W vT (zT.map (·.2)) :=
  own_SL (n := 1) (R := RSl 2 RT) (T := [110, 84]) (own_lower h.oT (B' := w0.heap.size) (by omega)) (fun z hz => ⟨(h.aT z hz).1, by
    obtain ⟨v, e, hs⟩ := (h.aT z hz).2
    exact ⟨v, e, hs.mono (fun _ hk => hk.more (Nat.le_refl _) (fun _ ht => by simp at ht; simp [ht])) fun _ _ h => h⟩⟩) (by simp) (by unfold maxLen; omega)
theorem Wv.rowsL {w0 W : World} {l : List ClassD} {vC vS vF vN vT vL : Value} {zF : List (List Value × List FieldD)} {zN : List (List Value × List ByteArray)} {zT : List (List Value × List TargD)} {zL : List (List Value × List Nat)} (h : Wv w0 W l vC vS vF vN vT vL zF zN zT zL) (hl : zL.length ≤ 1000) : SL 1 (RSl 1 RO) (MT w0.heap.size [3, 32] W) W vL (zL.map (·.2)) :=
  own_SL (n := 1) (R := RSl 1 RO) (T := [3, 32]) (own_lower h.oL (B' := w0.heap.size) (by omega)) (fun z hz => ⟨(h.aL z hz).1, by
    obtain ⟨v, e, hs⟩ := (h.aL z hz).2
    exact ⟨v, e, hs.mono (fun _ hk => hk.more (Nat.le_refl _) (fun _ ht => by simp at ht; simp [ht])) fun _ _ h => h⟩⟩) (by simp) (by unfold maxLen; omega)
end Go.Proofs.YtaekpdcnnkmahaaGreatDoor
/- The document's own reading of linked classes: numbers of names, kinds that are told. -/
namespace Go.Proofs.YtaekpdcnnkmahaaGreatDoor
open Go.RowKit Go.Sort

/-- The number of a name: of the first class that has it; -1: there is none. -/
def firstAt (l : List ClassD) (s : ByteArray) : Int := match l.findIdx? (fun c => decide (c.name = s)) with | some i => i | none => -1
theorem firstAt_hit {l : List ClassD} {s : ByteArray} {k : Nat} (hk : k < l.length) (h : l[k].name = s) (hb : ∀ (j : Nat) (hj : j < l.length), j < k → l[j].name ≠ s) : firstAt l s = k := by
  have : l.findIdx? (fun c => decide (c.name = s)) = some k := by
    rw [List.findIdx?_eq_some_iff_getElem]
    exact ⟨hk, by simp [h], fun j hj => by simp [hb j (by omega) hj]⟩
  rw [firstAt, this]
theorem firstAt_none {l : List ClassD} {s : ByteArray} (hb : ∀ (j : Nat) (hj : j < l.length), l[j].name ≠ s) : firstAt l s = -1 := by
  have : l.findIdx? (fun c => decide (c.name = s)) = none := by
    rw [List.findIdx?_eq_none_iff]
    intro c hc
    obtain ⟨j, hj, rfl⟩ := List.getElem_of_mem hc
    simp [hb j hj]
  rw [firstAt, this]
theorem firstAt_bd (l : List ClassD) (s : ByteArray) : -1 ≤ firstAt l s ∧ firstAt l s < l.length := by
  unfold firstAt
  split
  · rename_i i h
    have := (List.findIdx?_eq_some_iff_getElem.1 h).1
    omega
  · omega

set_option maxHeartbeats 1000000 in
theorem ClassAt_any (w : World) (M : Nat → Prop) (v : Value) (l : List ClassD) (s : ByteArray) (hv : SL 4 RC M w v l) :
    Calls Tryz.prog 38 #[v, .string s] w fun r w' => r = .returned (.int .i64 (firstAt l s)) ∧ w' = w := by
  have HV := mkHid hv
  obtain ⟨ao, cl, rfl, -, hl, -⟩ := hv
  unfold maxLen at hl
  go_enter Tryz.func38, Tryz.ntmps38
  go_wp2
  go_loopw [5] (fun i wr => ∃ k : Nat, k ≤ l.length ∧ i = .int .i64 k ∧ Hid (∀ (j : Nat) (hj : j < l.length), j < k → l[j].name ≠ s) ∧ wr = w) (fun i _ => l.length - (intOf i).toNat)
  case atStart => exact ⟨0, Nat.zero_le _, rfl, (fun j _ h => by omega), rfl⟩
  case round =>
    obtain ⟨k, hk, rfl, HQ, rfl⟩ := hrel
    by_cases hlt : k < l.length
    · obtain ⟨b, off, vf, vm, rfl, hb, e0, e1, e2, e3, ef, em, es1, es2⟩ := HV.out.atC k hlt
      clear ef em e1 e2 e3 es1 es2
      by_cases hs : l[k].name = s
      · have HR := mkHid (firstAt_hit hlt hs HQ.out)
        have hs' : (l[k].name.toList == s.toList) = true := by rw [hs]; simp
        clear hs
        go_wp2
        go_ret
        exact ⟨by rw [HR.out]; rfl, rfl⟩
      · have HQ' : Hid (∀ (j : Nat) (hj : j < l.length), j < k + 1 → l[j].name ≠ s) := fun j hj h => by
          by_cases hjk : j < k
          · exact HQ.out j hj hjk
          · have : j = k := by omega
            subst this
            exact hs
        have hs' : (l[k].name.toList == s.toList) = false := by
          rw [beq_eq_false_iff_ne]
          exact fun e => hs (tl_inj e)
        clear hs
        go_wp2
        go_roundw
        case rel => exact ⟨k + 1, by omega, by go_num, HQ'.out, trivial⟩
        case measure => simp [intOf]; omega
    · have HR := mkHid (firstAt_none (l := l) (s := s) fun j hj => HQ.out j hj (by omega))
      go_wp2
      go_ret
      exact ⟨by rw [HR.out]; rfl, rfl⟩

def toldK (l : List ClassD) (k : KindD) : Bool := decide (k.cls = (⟨#[]⟩ : ByteArray)) || decide (0 ≤ firstAt l k.cls)
set_option maxHeartbeats 1000000 in
theorem Told_any (w : World) (M M' : Nat → Prop) (v u : Value) (l : List ClassD) (ks : List KindD) (hv : SL 4 RC M w v l) (hu : SL 2 RK M' w u ks) :
    Calls Tryz.prog 71 #[v, u] w fun r w' => r = .returned (.bool (ks.all (toldK l))) ∧ w' = w := by
  have HV := mkHid hv
  have HU := mkHid hu
  obtain ⟨ao, cl, rfl, -, hl, -⟩ := hv
  obtain ⟨au, cu, rfl, -, hlu, -⟩ := hu
  unfold maxLen at hl hlu
  go_enter Tryz.func71, Tryz.ntmps71
  go_wp2
  go_loopw [5] (fun i wr => ∃ k : Nat, k ≤ ks.length ∧ i = .int .i64 k ∧ Hid (ks.all (toldK l) = (ks.drop k).all (toldK l)) ∧ wr = w) (fun i _ => ks.length - (intOf i).toNat)
  case atStart => exact ⟨0, Nat.zero_le _, rfl, rfl, rfl⟩
  case round =>
    obtain ⟨k, hk, rfl, HQ, rfl⟩ := hrel
    by_cases hlt : k < ks.length
    · obtain ⟨b, off, rfl, hb, e0, e1, es⟩ := HU.out.atK k hlt
      have HST : Hid ((ks.drop k).all (toldK l) = (toldK l ks[k] && (ks.drop (k + 1)).all (toldK l))) := by
        show _ = _
        rw [List.drop_eq_getElem_cons hlt, List.all_cons]
      have HCA := mkHid (ClassAt_any wr M _ l ks[k].cls HV.out)
      have hbd := firstAt_bd l ks[k].cls
      have HTK : Hid (toldK l ks[k] = (decide (ks[k].cls = (⟨#[]⟩ : ByteArray)) || decide (0 ≤ firstAt l ks[k].cls))) := rfl
      generalize ks[k] = x at *
      generalize firstAt l x.cls = fa at *
      have hb1 := hbd.1
      have hb2 := hbd.2
      clear hbd e0 es
      by_cases hn : x.cls = ⟨#[]⟩
      · have hn' := nil_tl hn
        have HQ' : Hid (ks.all (toldK l) = (ks.drop (k + 1)).all (toldK l)) := HQ.out.trans (by rw [HST.out, HTK.out]; simp [hn])
        clear hn HCA
        go_wp2
        go_roundw
        case rel => exact ⟨k + 1, by omega, by go_num, HQ'.out, trivial⟩
        case measure => simp [intOf]; omega
      · have hn' : x.cls.toList.isEmpty = false := by
          cases hq : x.cls.toList with
          | nil => exact absurd (tl_nil hq) hn
          | cons _ _ => rfl
        by_cases hf : fa < 0
        · have HQ' : Hid (ks.all (toldK l) = false) := HQ.out.trans (by rw [HST.out, HTK.out]; simp [hn]; omega)
          clear hn
          go_wp2_with (first | (go_at_call 38; refine HCA.out.mono ?_; rintro r w7 ⟨rfl, rfl⟩))
          go_ret
          exact ⟨by rw [HQ'.out]; rfl, rfl⟩
        · have HQ' : Hid (ks.all (toldK l) = (ks.drop (k + 1)).all (toldK l)) := HQ.out.trans (by
            rw [HST.out, HTK.out]
            have : (0 : Int) ≤ fa := by omega
            simp [this])
          clear hn
          go_wp2_with (first | (go_at_call 38; refine HCA.out.mono ?_; rintro r w7 ⟨rfl, rfl⟩))
          go_roundw
          case rel => exact ⟨k + 1, by omega, by go_num, HQ'.out, trivial⟩
          case measure => simp [intOf]; omega
    · have HQ' : Hid (ks.all (toldK l) = true) := HQ.out.trans (by rw [List.drop_of_length_le (by omega)]; rfl)
      go_wp2
      go_ret
      exact ⟨by rw [HQ'.out]; rfl, rfl⟩
end Go.Proofs.YtaekpdcnnkmahaaGreatDoor
/- The document's own reading of linked classes: what is above a class. -/
namespace Go.Proofs.YtaekpdcnnkmahaaGreatDoor
open Go.RowKit Go.Sort

def supF (l : List ClassD) (n : Nat) : Int := firstAt l (clsAt l n).super
def upF (l : List ClassD) : Nat → Int → List Nat → List Nat
  | 0, _, _ => []
  | f + 1, n, out => if 0 ≤ n then (if l.length < out.length then [] else upF l f (supF l n.toNat) (n.toNat :: out)) else out
def upOf (l : List ClassD) (n : Nat) : List Nat := upF l (l.length + 3) n []
theorem upF_ok (l : List ClassD) : ∀ (f : Nat) (n : Int) (out : List Nat), n < l.length → (∀ k ∈ out, k < l.length) → out.length ≤ l.length + 1 → (∀ k ∈ upF l f n out, k < l.length) ∧ (upF l f n out).length ≤ l.length + 1
  | 0, _, _, _, _, _ => ⟨(fun k hk => by cases hk), by simp [upF]⟩
  | f + 1, n, out, hn, ho, hl => by
    rw [upF]
    split
    · split
      · exact ⟨(fun k hk => by cases hk), by simp⟩
      · exact upF_ok l f _ _ (firstAt_bd l _).2 (fun k hk => by
          rcases List.mem_cons.1 hk with rfl | hk
          · omega
          · exact ho k hk) (by simp; omega)
    · exact ⟨ho, hl⟩
theorem upOf_ok {l : List ClassD} {n : Nat} (hn : n < l.length) : (∀ k ∈ upOf l n, k < l.length) ∧ (upOf l n).length ≤ l.length + 1 :=
  upF_ok l _ n [] (by omega) (fun k hk => by cases hk) (by simp)
theorem ints_len (ns : List Nat) : (ints ns).length = ns.length := by simp [ints]
theorem ints_one (ns : List Nat) : ∀ u ∈ ints ns, u.oneCell' = true := by
  intro u hu
  obtain ⟨x, _, rfl⟩ := List.mem_map.1 hu
  rfl
/-- A row of the call's own, as a slice that holds numbers. -/
theorem own_ints {w : World} {B : Nat} {v : Value} {ns : List Nat} (h : w.ownsRow B 3 1 v ns.length (ints ns)) (hl : ns.length ≤ 1000) : SL 1 RO (MT B [3] w) w v ns := by
  have hz : (ns.map fun x : Nat => ([Value.int .i64 (x : Int)], x)).length = ns.length := by simp
  have hf : (ns.map fun x : Nat => ([Value.int .i64 (x : Int)], x)).flatMap (·.1) = ints ns := by
    rw [List.flatMap_map, ints]
    clear h hl hz
    induction ns with
    | nil => rfl
    | cons x r ih => rw [List.flatMap_cons, ih]; rfl
  have := own_SL (n := 1) (R := RO) (T := [3]) (zs := ns.map fun x : Nat => ([Value.int .i64 (x : Int)], x)) (by rw [hz, hf]; exact h) (fun z hz => by
    obtain ⟨s, hs', rfl⟩ := List.mem_map.1 hz
    exact ⟨rfl, rfl⟩) (by simp) (by rw [hz]; unfold maxLen; omega)
  rwa [List.map_map, show ((·.2) ∘ fun x : Nat => ([Value.int .i64 (x : Int)], x)) = id from rfl, List.map_id] at this
theorem own_news {w : World} {B g cap : Nat} {ns : List Nat} (h : w.ownsRow B 3 1 (.slice (some ⟨g, 0, none⟩) ns.length cap) ns.length (ints ns)) : ∀ j u, (ints ns)[j]? = some u → w.cell? ((⟨g, 0, none⟩ : Addr).add j) = some u := by
  intro j u hu
  rcases h.2 with ⟨e, _⟩ | ⟨g', cap', cur, e, _, hg, _, _, _, ht⟩
  · cases (Value.slice.inj e).1
  · obtain ⟨e1, _, _⟩ := Value.slice.inj e
    obtain rfl : g = g' := by simpa using e1
    rw [addr_add]
    simp only [World.cell?, hg, Nat.zero_add]
    rw [← ht] at hu
    rw [List.getElem?_take] at hu
    split at hu
    · simpa using hu
    · cases hu

set_option maxRecDepth 100000 in
set_option maxHeartbeats 4000000 in
theorem UpFrom_any (w : World) (B : Nat) (v : Value) (l : List ClassD) (n : Nat) (hn : n < l.length) (hv : SL 4 RC (· < B) w v l) (hB : B ≤ w.heap.size) (hN : l.length ≤ 10) :
    Calls Tryz.prog 70 #[v, .int .i64 n] w fun r w' => Below w.heap.size w w' ∧ ∃ u, r = .returned u ∧ SL 1 RO (MT w.heap.size [3] w') w' u (upOf l n) := by
  obtain ⟨iI, hiI, hzI0, hzI1, hzI2⟩ := info_parts Tryz.infoInt
  have HV := mkHid hv
  obtain ⟨ao, cl, rfl, -⟩ := hv
  go_enter Tryz.func70, Tryz.ntmps70
  go_wp2_with fail
  go_loopg [1, 5] (l.length + 3) (fun f i v wr => ∃ (out : List Nat) (m : Int), i = .int .i64 m ∧ -1 ≤ m ∧ m < l.length ∧ out.length + f = l.length + 3 ∧ out.length ≤ l.length + 1 ∧ Hid (upOf l n = upF l f m out) ∧ wr.ownsRow w.heap.size 3 1 v out.length (ints out) ∧ Below w.heap.size w wr)
  case atStart => exact ⟨[], n, rfl, by omega, by omega, by simp, by simp, rfl, World.ownsRow_nil _ _ _ _, Below.refl _ _⟩
  case round =>
    rename Nat => f
    obtain ⟨out, m, rfl, hm1, hm2, hf, hol, HP, hown, hBr⟩ := hrel
    obtain ⟨a5, c5, rfl⟩ := own_shape hown
    have hsr := hBr.size
    obtain ⟨f', rfl⟩ : ∃ f', f = f' + 1 := ⟨f - 1, by omega⟩
    by_cases h0 : 0 ≤ m
    · by_cases hx : l.length < out.length
      · have HR : Hid (upOf l n = []) := HP.out.trans (by rw [upF, if_pos h0, if_pos hx])
        have hx' : (l.length : Int) < out.length := by omega
        clear hown
        go_wp2_with fail
        go_ret
        exact ⟨hBr, _, rfl, by rw [HR.out]; exact ⟨none, 0, rfl, Nat.le_refl _, by unfold maxLen; simp, fun k hk => by cases hk⟩⟩
      · have hx' : ¬ (l.length : Int) < out.length := by omega
        have HP' : Hid (upOf l n = upF l f' (supF l m.toNat) (m.toNat :: out)) := HP.out.trans (by rw [upF, if_pos h0, if_neg hx])
        obtain ⟨mn, rfl⟩ := Int.eq_ofNat_of_zero_le h0
        have hmn : mn < l.length := by omega
        have HOW := mkHid hown
        have HN0 : Hid ((wr.alloc (.cells #[.int .i64 (mn : Int)] 3)).ownsRow w.heap.size 3 1 (.slice (some ⟨wr.heap.size, 0, none⟩) 1 1) 1 [.int .i64 (mn : Int)]) :=
          ⟨rfl, Or.inr ⟨wr.heap.size, 1, #[.int .i64 (mn : Int)], rfl, hsr, heap_alloc_new wr _, Nat.le_refl _, by unfold maxLen; omega, rfl, rfl⟩⟩
        have HSB := mkHid (firstAt_bd l (clsAt l mn).super)
        have hi0 : (0 : Int) ≤ mn := by omega
        have hi1 : (mn : Int) < l.length := by omega
        by_cases h5 : out.length = 0
        · have h50 : out = [] := List.eq_nil_of_length_eq_zero h5
          have HO := mkHid h50
          have hB1 : Below w.heap.size w (wr.alloc (.cells #[.int .i64 (mn : Int)] 3)) := hBr.alloc hsr _
          obtain ⟨b, off, vf, vm, rfl, hb, e0, e1, e2, e3, ef, em, es1, es2⟩ := (HV.out.keptC (Kp.below (hB1.mono hB))).atC mn hmn
          clear ef em e0 e2 e3 es1
          have HCA := mkHid (ClassAt_any (wr.alloc (.cells #[.int .i64 (mn : Int)] 3)) (· < B) _ l l[mn].super (HV.out.keptC (Kp.below (hB1.mono hB))))
          have HBX := mkHid hB1
          rw [h5]
          clear hown h5 h50 hB1 es2
          go_wp2_with (first | (at_builtin; refine wpList_append_none _ rfl _ _ 32 rfl 3 iI Tryz.underlying32 hiI (some ⟨wr.heap.size, 0, none⟩) 1 1 rfl (by decide) (Or.inr ⟨_, rfl⟩) a5 c5 rfl ?_) | (go_at_call 38; refine HCA.out.mono ?_; rintro r w7 ⟨rfl, rfl⟩))
          go_roundg f'
          case measure => omega
          case rel => exact ⟨[mn], supF l mn, (by rw [supF, clsAt_eq hmn]), HSB.out.1, HSB.out.2, by have := HO.out; subst this; simp at hf ⊢; omega, by simp, by have := HO.out; subst this; exact HP'.out, HN0.out, HBX.out⟩
        · obtain ⟨g, cap, hvg, hgw, hglt⟩ := hown.form (by omega)
          obtain ⟨rfl, -, rfl⟩ := Value.slice.inj hvg
          have HNEWS : Hid (∀ j u, (ints out)[j]? = some u → (wr.alloc (.cells #[.int .i64 (mn : Int)] 3)).cell? ((⟨g, 0, none⟩ : Addr).add j) = some u) := own_news (hown.alloc _)
          have HBB : Hid (1 + out.length ≤ maxLen ∧ (1 + out.length) * 8 ≤ 140737488355328 ∧ w.heap.size ≤ (wr.alloc (.cells #[.int .i64 (mn : Int)] 3)).heap.size ∧ (ints out).length = out.length * 1 ∧ 0 < out.length) := ⟨by unfold maxLen; omega, by omega, by simp; omega, by rw [ints_len]; omega, by omega⟩
          have HBr := mkHid hBr
          clear hown h5 hvg hBr
          go_upto_region 6 with (at_builtin; refine wpList_append_lies _ rfl _ _ 32 rfl w.heap.size 3 iI (.int .i64 0) 1 8 Tryz.underlying32 hiI hzI0 hzI1 hzI2 rfl (by decide) (.slice (some ⟨wr.heap.size, 0, none⟩) 1 1) 1 [.int .i64 (mn : Int)] rfl HN0.out ⟨g, 0, none⟩ out.length c5 (ints out) rfl HBB.out.2.2.2.1 HNEWS.out (ints_one _) HBB.out.2.2.2.2 HBB.out.1 HBB.out.2.1 HBB.out.2.2.1 _ rfl ?_; intro g1 cap1 w1 hown1 hgr1 hat1 hlt1; have hB1 : Below w.heap.size w w1 := (HBr.out.alloc hsr _).grown hgr1 (by simp; omega) (fun k e => by cases e; exact hsr); have HX := mkHid (And.intro hown1 hB1); clear hown1 hgr1 hat1 hB1)
          obtain ⟨b, off, vf, vm, rfl, hb, e0, e1, e2, e3, ef, em, es1, es2⟩ := (HV.out.keptC (Kp.below (HX.out.2.mono hB))).atC mn hmn
          clear ef em e0 e2 e3 es1
          have HCA := mkHid (ClassAt_any w1 (· < B) _ l l[mn].super (HV.out.keptC (Kp.below (HX.out.2.mono hB))))
          clear es2
          go_wp2_with (first | (go_at_call 38; refine HCA.out.mono ?_; rintro r w7 ⟨rfl, rfl⟩))
          go_roundg f'
          case measure => omega
          case rel => exact ⟨mn :: out, supF l mn, (by rw [supF, clsAt_eq hmn]), HSB.out.1, HSB.out.2, by simp; omega, by simp; omega, HP'.out, by have := HX.out.1; rw [List.length_cons, Nat.add_comm out.length 1]; exact this, HX.out.2⟩
    · have HR : Hid (upOf l n = out) := HP.out.trans (by rw [upF, if_neg h0])
      have SV := mkHid (own_ints hown (by omega))
      clear hown
      go_wp2_with fail
      go_ret
      exact ⟨hBr, _, rfl, by rw [HR.out]; exact SV.out⟩

def allF (l : List ClassD) (n : Nat) : List FieldD := (upOf l n).flatMap fun k => (clsAt l k).fields
set_option maxHeartbeats 4000000 in
theorem AllFields_any (w : World) (B : Nat) (v : Value) (l : List ClassD) (n : Nat) (hn : n < l.length) (hv : SL 4 RC (· < B) w v l) (hB : B ≤ w.heap.size) (hN : l.length ≤ 10) (hF : ∀ c ∈ l, c.fields.length ≤ 6) :
    Calls Tryz.prog 36 #[v, .int .i64 n] w fun r w' => Below w.heap.size w w' ∧ ∃ u, r = .returned u ∧ SL 3 RF (MT w.heap.size [53] w') w' u (allF l n) := by
  obtain ⟨iF, hiF, hzF0, hzF1, hzF2⟩ := info_parts Tryz.infoFieldL
  have HC := mkHid hv
  obtain ⟨ao, cl, rfl, -⟩ := hv
  obtain ⟨hkL, hlL⟩ := upOf_ok hn
  have HU := mkHid (UpFrom_any w B _ l n hn HC.out hB hN)
  have HFO : Hid (allF l n = (upOf l n).flatMap fun k => (clsAt l k).fields) := rfl
  generalize upOf l n = ln at *
  have HK := mkHid hkL
  have HFF := mkHid hF
  clear hkL hF
  go_enter Tryz.func36, Tryz.ntmps36
  go_wp2_with (first | (go_at_call 70; refine HU.out.mono ?_; rintro r w0 ⟨hb0, u0, rfl, su0⟩; have HI := mkHid su0; have HB0 := mkHid hb0; obtain ⟨aI, cI, rfl, -⟩ := su0; clear hb0))
  go_loopw [5, 7] (fun v i wr => ∃ (k : Nat) (fs : List FieldD), k ≤ ln.length ∧ i = .int .i64 k ∧ Hid (fs = (ln.take k).flatMap fun k => (clsAt l k).fields) ∧ fs.length ≤ 6 * k ∧ Hid (∀ f ∈ fs, f.name.size ≤ maxLen ∧ f.kind.cls.size ≤ maxLen) ∧ wr.ownsRow w0.heap.size 53 3 v fs.length (fs.flatMap fcells) ∧ Below w0.heap.size w0 wr) (fun _ i _ => ln.length - (intOf i).toNat)
  case atStart => exact ⟨0, [], Nat.zero_le _, rfl, rfl, by simp, (fun f hf => by cases hf), World.ownsRow_nil _ _ _ _, Below.refl _ _⟩
  case round =>
    obtain ⟨k, fs, hk, rfl, HP, hfl, HSZ, hown, hBr⟩ := hrel
    obtain ⟨a5, c5, rfl⟩ := own_shape hown
    have hsr := hBr.size
    have hBw : Below w.heap.size w wr := HB0.out.trans (hBr.mono HB0.out.size)
    by_cases hlt : k < ln.length
    · obtain ⟨bi, oi, rfl, hbi, ei⟩ := HI.out.atO k hlt
      have ei' := (hBr.cell (p := ⟨bi, oi + k, none⟩) hbi).trans ei
      have hmk := HK.out ln[k] (List.getElem_mem hlt)
      obtain ⟨bc, oc, vf, vm, rfl, hbc, e0, e1, e2, e3, ef, em, es1, es2⟩ := (HC.out.keptC (Kp.below (hBw.mono hB))).atC ln[k] hmk
      have hcf := HFF.out l[ln[k]] (List.getElem_mem hmk)
      have HCA : Hid (clsAt l ln[k] = l[ln[k]]) := clsAt_eq hmk
      obtain ⟨m, hm⟩ : ∃ m, m = ln[k] := ⟨_, rfl⟩
      generalize hcc : l[ln[k]] = cc at *
      clear hcc
      rw [← hm] at ei' e0 e1 e2 e3 hmk
      have hm0 : (0 : Int) ≤ m := by omega
      have hm1 : (m : Int) < l.length := by omega
      have EF := mkHid ef
      obtain ⟨fo, cf, rfl, -⟩ := ef
      have HOW := mkHid hown
      have hszF : ∀ f ∈ cc.fields, f.name.size ≤ maxLen ∧ f.kind.cls.size ≤ maxLen := by
        intro f hf
        obtain ⟨q, hq, rfl⟩ := List.getElem_of_mem hf
        obtain ⟨_, _, _, _, _, _, _, h1, h2⟩ := EF.out.atF q hq
        exact ⟨h1, h2⟩
      have HSF := mkHid hszF
      have HNX : Hid ((ln.take (k + 1)).flatMap (fun k => (clsAt l k).fields) = fs ++ cc.fields) := by
        show _ = _
        rw [List.take_succ_eq_append_getElem hlt, List.flatMap_append, ← HP.out]
        simp [HCA.out]
      clear hm ei hszF em es1 es2 e0 e1 e3
      have HBr := mkHid hBr
      clear hBw hBr
      by_cases h0 : cc.fields = []
      · have HNE := mkHid h0
        rw [h0] at e2
        clear h0
        obtain ⟨hc5, ha5⟩ := own_app hown
        go_wp2_with (at_builtin; refine wpList_append_none _ rfl _ _ 49 rfl 53 iF Tryz.underlying49 hiF a5 fs.length c5 rfl hc5 ha5 fo cf rfl ?_)
        clear ha5 hc5
        go_wp2_with fail
        go_roundw
        case rel => exact ⟨k + 1, fs, by omega, by go_num, by show _ = _; have := HNX.out; rw [HNE.out, List.append_nil] at this; exact this.symm, by omega, HSZ.out, HOW.out, HBr.out⟩
        case measure => simp [intOf]; omega
      · have hpos : 0 < cc.fields.length := List.length_pos_iff.2 h0
        obtain ⟨bf, of, hfo⟩ : ∃ bf of, fo = some ⟨bf, of, none⟩ := by
          obtain ⟨bf, of, e, _⟩ := EF.out.atF 0 hpos
          exact ⟨bf, of, e⟩
        subst hfo
        have HNEWS : Hid (∀ j u, (cc.fields.flatMap fcells)[j]? = some u → wr.cell? ((⟨bf, of, none⟩ : Addr).add j) = some u) := news_of fcells (by decide) (fun x _ => rfl) (fun _ _ h => h.1) EF.out
        have HBB : Hid (fs.length + cc.fields.length ≤ maxLen ∧ (fs.length + cc.fields.length) * 40 ≤ 140737488355328) := ⟨by unfold maxLen; omega, by omega⟩
        clear h0
        go_wp2_with (at_builtin; refine wpList_append_lies _ rfl _ _ 49 rfl w0.heap.size 53 iF (.agg #[.string ⟨#[]⟩, .int .i64 0, .string ⟨#[]⟩]) 3 40 Tryz.underlying49 hiF hzF0 hzF1 hzF2 rfl (by decide) (.slice a5 fs.length c5) fs.length (fs.flatMap fcells) rfl HOW.out ⟨bf, of, none⟩ cc.fields.length cf (cc.fields.flatMap fcells) rfl flat_lenL HNEWS.out (one_fcells _) hpos HBB.out.1 HBB.out.2 hsr _ rfl ?_)
        intro g cap w1 hown1 hgr1 hat1 hlt1
        have HX := mkHid (And.intro hown1 (HBr.out.grown hgr1 hsr (fun k e => (HOW.out.lt k e).1)))
        clear hown1 hgr1 hat1 hown
        go_wp2_with fail
        go_roundw
        case rel =>
          obtain ⟨hown1, hB1⟩ := HX.out
          refine ⟨k + 1, fs ++ cc.fields, by omega, by go_num, HNX.out.symm, by simp; omega, ?_, ?_, hB1⟩
          · show ∀ f ∈ _, _
            intro f hf
            rcases List.mem_append.1 hf with hf | hf
            · exact HSZ.out f hf
            · exact HSF.out f hf
          · rw [List.length_append, List.flatMap_append]
            exact hown1
        case measure => simp [intOf]; omega
    · have HX : Hid (allF l n = fs) := by
        show _ = _
        rw [HFO.out, HP.out, List.take_of_length_le (by omega)]
      have hzs : (fs.map fun f => (fcells f, f)).length = fs.length := by simp
      have hzf : (fs.map fun f => (fcells f, f)).flatMap (·.1) = fs.flatMap fcells := by rw [List.flatMap_map]
      have sv := own_SL (n := 3) (R := RF) (T := [53]) (zs := fs.map fun f => (fcells f, f)) (by rw [hzs, hzf]; exact hown) (fun z hz => by
        obtain ⟨f, hf, rfl⟩ := List.mem_map.1 hz
        exact ⟨rfl, rfl, HSZ.out f hf⟩) (by simp) (by rw [hzs]; unfold maxLen; omega)
      have SV := mkHid (sv.monoF (M' := MT w.heap.size [53] wr) fun _ hk => hk.more HB0.out.size (fun _ ht => ht))
      have HBW := mkHid hBw
      clear hzs hzf hown sv hBw hBr
      go_wp2_with fail
      go_ret
      exact ⟨HBW.out, _, rfl, by rw [HX.out]; have := SV.out; rwa [List.map_map, show ((·.2) ∘ fun f : FieldD => (fcells f, f)) = id from rfl, List.map_id] at this⟩
end Go.Proofs.YtaekpdcnnkmahaaGreatDoor
/- The document's own reading of linked classes: a class's names, and what stands for them. -/
namespace Go.Proofs.YtaekpdcnnkmahaaGreatDoor
open Go.RowKit Go.Sort

def tabF (l : List ClassD) (n : Nat) : List ByteArray × List TargD := ((upOf l n).flatMap (ownT l)).foldl tabStep ([], [])
theorem idxS_hit {l : List ByteArray} {s : ByteArray} {k : Nat} (hk : k < l.length) (h : l[k] = s) (hb : ∀ (j : Nat) (hj : j < l.length), j < k → l[j] ≠ s) : idxS l s = k := by
  have : l.findIdx? (fun x => decide (x = s)) = some k := by
    rw [List.findIdx?_eq_some_iff_getElem]
    exact ⟨hk, by simp [h], fun j hj => by simp [hb j (by omega) hj]⟩
  rw [idxS, this]
theorem idxS_none {l : List ByteArray} {s : ByteArray} (hb : ∀ (j : Nat) (hj : j < l.length), l[j] ≠ s) : idxS l s = -1 := by
  have : l.findIdx? (fun x => decide (x = s)) = none := by
    rw [List.findIdx?_eq_none_iff]
    intro c hc
    obtain ⟨j, hj, rfl⟩ := List.getElem_of_mem hc
    simp [hb j hj]
  rw [idxS, this]
theorem set_last (ts : List TargD) (t t' : TargD) : (ts ++ [t]).set ts.length t' = ts ++ [t'] := by simp

set_option maxRecDepth 100000 in
set_option maxHeartbeats 8000000 in
theorem TableOf_any (w : World) (B : Nat) (v : Value) (l : List ClassD) (n : Nat) (hn : n < l.length) (hv : SL 4 RC (· < B) w v l) (hB : B ≤ w.heap.size) (hN : l.length ≤ 10) (hF : ∀ c ∈ l, c.meths.length ≤ 8) :
    Calls Tryz.prog 37 #[v, .int .i64 n] w fun r w' => Below w.heap.size w w' ∧ ∃ v u, r = .returned (.tuple #[v, u]) ∧ SL 1 RS (MT w.heap.size [9] w') w' v (tabF l n).1 ∧ SL 2 RT (MT w.heap.size [110] w') w' u (tabF l n).2 := by
  obtain ⟨iS, hiS, hzS0, hzS1, hzS2⟩ := info_parts Tryz.infoStr
  obtain ⟨iT, hiT, hzT0, hzT1, hzT2⟩ := info_parts Tryz.infoTarg
  have HC := mkHid hv
  obtain ⟨ao, cl, rfl, -⟩ := hv
  obtain ⟨hkL, hlL⟩ := upOf_ok hn
  have HU := mkHid (UpFrom_any w B _ l n hn HC.out hB hN)
  have HTO : Hid (tabF l n = ((upOf l n).flatMap (ownT l)).foldl tabStep ([], [])) := rfl
  generalize upOf l n = ln at *
  have HK := mkHid hkL
  have HFF := mkHid hF
  clear hkL hF
  go_enter Tryz.func37, Tryz.ntmps37
  go_wp2_with (first | (go_at_call 70; refine HU.out.mono ?_; rintro r w0 ⟨hb0, u0, rfl, su0⟩; have HI := mkHid su0; have HB0 := mkHid hb0; obtain ⟨aI, cI, rfl, -⟩ := su0; clear hb0))
  go_loopw [6, 7, 9] (fun v u i wr => ∃ (k : Nat) (ns : List ByteArray) (ts : List TargD), k ≤ ln.length ∧ i = .int .i64 k ∧ Hid ((ns, ts) = ((ln.take k).flatMap (ownT l)).foldl tabStep ([], [])) ∧ ns.length ≤ 8 * k ∧ Hid (ts.length = ns.length) ∧ Hid (∀ s ∈ ns, s.size ≤ maxLen) ∧
    wr.ownsRow w0.heap.size 9 1 v ns.length (scells ns) ∧ wr.ownsRow w0.heap.size 110 2 u ts.length (ts.flatMap tcell) ∧ Below w0.heap.size w0 wr) (fun _ _ i _ => ln.length - (intOf i).toNat)
  case atStart => exact ⟨0, [], [], Nat.zero_le _, rfl, rfl, by simp, rfl, (fun f hf => by cases hf), World.ownsRow_nil _ _ _ _, World.ownsRow_nil _ _ _ _, Below.refl _ _⟩
  case round =>
    obtain ⟨k, ns, ts, hk, rfl, HP, hfl, HTS, HSZ, hown, hownT, hBr⟩ := hrel
    obtain ⟨a6, c6, rfl⟩ := own_shape hown
    obtain ⟨a7, c7, rfl⟩ := own_shape hownT
    have hsr := hBr.size
    by_cases hlt : k < ln.length
    · obtain ⟨bi, oi, rfl, hbi, ei⟩ := HI.out.atO k hlt
      have hmk := HK.out ln[k] (List.getElem_mem hlt)
      have hB0 := HB0.out
      obtain ⟨bc, oc, vf, vm, rfl, hbc, e0, e1, e2, e3, ef, em, es1, es2⟩ := (HC.out.keptC (Kp.below (hB0.mono hB))).atC ln[k] hmk
      have hcf' := HFF.out l[ln[k]] (List.getElem_mem hmk)
      have HNX : Hid ((ln.take (k + 1)).flatMap (ownT l) = (ln.take k).flatMap (ownT l) ++ ownT l ln[k]) := by
        show _ = _
        rw [List.take_succ_eq_append_getElem hlt, List.flatMap_append]
        simp
      clear e0 e1 e2 ef es1 es2 hB0
      rw [← clsAt_eq hmk] at em hcf'
      obtain ⟨mo, cm, rfl, -⟩ := id em
      have EM' := mkHid em
      have HEI := mkHid (And.intro hbi ei)
      have HE3 := mkHid (And.intro hbc e3)
      clear em hbi ei hbc e3
      generalize ln[k] = m at *
      have HOT := mkHid (ownT_len l m)
      generalize hms : (clsAt l m).meths = ms at *
      have HMS := mkHid hms
      clear hms
      have hm0 : (0 : Int) ≤ m := by omega
      have hm1 : (m : Int) < l.length := by omega
      obtain ⟨PK, hPK⟩ : ∃ PK, PK = (ln.take k).flatMap (ownT l) := ⟨_, rfl⟩
      rw [← hPK] at HP HNX
      have HPP := mkHid hPK
      clear hPK
      go_wp2_with fail
      go_loopw [6, 7, 10] (fun v u i wq => ∃ (j : Nat) (ns : List ByteArray) (ts : List TargD), j ≤ ms.length ∧ i = .int .i64 j ∧ Hid ((ns, ts) = (PK ++ (ownT l m).take j).foldl tabStep ([], [])) ∧ ns.length ≤ 8 * k + j ∧ Hid (ts.length = ns.length) ∧ Hid (∀ s ∈ ns, s.size ≤ maxLen) ∧
        wq.ownsRow w0.heap.size 9 1 v ns.length (scells ns) ∧ wq.ownsRow w0.heap.size 110 2 u ts.length (ts.flatMap tcell) ∧ Below w0.heap.size w0 wq) (fun _ _ i _ => ms.length - (intOf i).toNat)
      case atStart => exact ⟨0, ns, ts, Nat.zero_le _, rfl, by show _ = _; rw [List.take_zero, List.append_nil]; exact HP.out, by omega, HTS.out, HSZ.out, hown, hownT, hBr⟩
      case round =>
        clear hown hownT hBr HP HSZ hfl HTS hsr
        rename World => wq
        obtain ⟨j, ns, ts, hj, rfl, HP, hfl, HTS, HSZ, hown, hownT, hBr⟩ := hrel
        obtain ⟨a6, c6, rfl⟩ := own_shape hown
        obtain ⟨a7, c7, rfl⟩ := own_shape hownT
        have hsr := hBr.size
        have ei := (hBr.cell (p := ⟨bi, oi + k, none⟩) HEI.out.1).trans HEI.out.2
        have e3 := (hBr.cell (p := ⟨bc, oc + m * 4 + 3, none⟩) HE3.out.1).trans HE3.out.2
        by_cases hjt : j < ms.length
        · obtain ⟨bm, om, va, vh, hmo, hbm, q0, q1, q2, q3, q4, q5, q6, q7, q8, sa, sh, sz1, sz2, sz3⟩ := (EM'.out.keptM (Kp.below (B := B) (hBr.mono (Nat.le_trans hB HB0.out.size)))).atM j hjt
          subst hmo
          have HNJ : Hid (PK ++ (ownT l m).take (j + 1) = (PK ++ (ownT l m).take j) ++ [(ms[j].name, ⟨m, j⟩)]) := by
            show _ = _
            have hjo : j < (ownT l m).length := by rw [HOT.out]; exact hjt
            rw [List.take_succ_eq_append_getElem hjo, List.append_assoc, ownT_get l m j hjo (by rw [HMS.out]; exact hjt)]
            congr 3
            simp [HMS.out]
          have HON := mkHid hown
          have HOTT := mkHid hownT
          have HBr := mkHid hBr
          generalize hmj : ms[j].name = nm at *
          have SN : Hid (SL 1 RS (MT w0.heap.size [9] wq) wq (.slice a6 ns.length c6) ns) := own_names hown HSZ.out (by omega)
          clear hown hownT hmj sa sh q1 q2 q3 q4 q5 q6 q7 q8 hBr
          go_wp2_with fail
          go_loopw [12] (fun i wx => ∃ q : Nat, q ≤ ns.length ∧ i = .int .i64 q ∧ Hid (∀ (j : Nat) (hj : j < ns.length), j < q → ns[j] ≠ nm) ∧ wx = wq) (fun i _ => ns.length - (intOf i).toNat)
          case atStart => exact ⟨0, Nat.zero_le _, rfl, (fun j _ h => by omega), rfl⟩
          case round =>
            obtain ⟨q, hq, rfl, HQ, rfl⟩ := hrel
            rename World => wq
            by_cases hlt3 : q < ns.length
            · obtain ⟨b6, o6, rfl, hb6, d6, _⟩ := SN.out.atS q hlt3
              by_cases hs : ns[q] = nm
              · have hs' : (ns[q].toList == nm.toList) = true := by rw [hs]; simp
                have hat2 := idxS_hit hlt3 hs HQ.out
                have HST : Hid (tabStep (ns, ts) (nm, ⟨m, j⟩) = (ns, ts.set q ⟨m, j⟩)) := by
                  show _ = _
                  have h0 : 0 ≤ idxS ns nm := by omega
                  rw [tabStep, if_pos h0]
                  show (ns, ts.set (idxS ns nm).toNat _) = _
                  rw [hat2]
                  rfl
                clear hs hat2 HQ
                obtain ⟨g7, hg7, hgc7⟩ : ∃ g7, a7 = some ⟨g7, 0, none⟩ ∧ ts.length ≤ c7 := by
                  obtain ⟨h1, h2⟩ := own_app HOTT.out
                  rcases h2 with rfl | ⟨g, rfl⟩
                  · rcases HOTT.out.2 with ⟨e, h0⟩ | ⟨g, _, _, e, _⟩
                    · have := HTS.out
                      omega
                    · cases e
                  · exact ⟨g, rfl, h1⟩
                subst hg7
                have hgl := HOTT.out.lt g7 rfl
                have k0 : wq.cell? ⟨g7, q * 2, none⟩ = (ts.flatMap tcell)[q * 2]? := HOTT.out.cellAt _ (by have := HTS.out; omega)
                have k1 : wq.cell? ⟨g7, q * 2 + 1, none⟩ = (ts.flatMap tcell)[q * 2 + 1]? := HOTT.out.cellAt _ (by have := HTS.out; omega)
                have hat3 : q < ts.length := by have := HTS.out; omega
                have k0' : wq.cell? ⟨g7, q * 2, none⟩ = some (.int .i64 (ts[q]).cls) := by rw [k0]; have := flat_get (n := 2) tcell ts q 0 (fun _ _ => rfl) hat3 (by decide); simpa [tcell] using this
                have k1' : wq.cell? ⟨g7, q * 2 + 1, none⟩ = some (.int .i64 (ts[q]).meth) := by rw [k1]; have := flat_get (n := 2) tcell ts q 1 (fun _ _ => rfl) hat3 (by decide); simpa [tcell] using this
                obtain ⟨cur7, hb7⟩ : ∃ cur7, wq.heap[g7]? = some (.cells cur7 110 (0, 0)) := by
                  rcases HOTT.out.2 with ⟨e, _⟩ | ⟨g, _, cur, e, _, hb, _⟩
                  · cases e
                  · cases e; exact ⟨cur, hb⟩
                have z0 : ∀ q, wq.frozen? ⟨g7, q, none⟩ = false := fun q => by simp [World.frozen?, hb7]
                have ht0 : (0 : Int) ≤ q := by omega
                have ht1 : (q : Int) < ts.length := by have := HTS.out; omega
                have ht2 : (q : Int) < ns.length := by omega
                have ht3 : ¬ (q : Int) = ns.length := by omega
                have hg7s : g7 < wq.heap.size := hgl.2
                clear k0 k1 hb7
                go_wp2_with fail
                go_roundw
                case rel =>
                  have hB3 := (HBr.out.setCell (p := ⟨g7, q * 2, none⟩) hgl.1 (.int .i64 m)).setCell (p := ⟨g7, q * 2 + 1, none⟩) hgl.1 (.int .i64 j)
                  refine ⟨j + 1, ns, ts.set q ⟨m, j⟩, by omega, by go_num, ?_, by omega, by show _ = _; have := HTS.out; simpa using this, HSZ.out, ?_, ?_, hB3⟩
                  · show _ = _
                    rw [HNJ.out, tab_snoc, ← HP.out, HST.out]
                  · refine HON.out.kept (row := some g7) ?_ ?_
                    · exact grown_set (grown_set (World.grownBy.refl _ _) _ _ (Or.inl rfl)) _ _ (Or.inl rfl)
                    · rcases own_types HON.out HOTT.out (by decide) with h | h
                      · exact Or.inl h
                      · exact Or.inr h
                  · have := own_set (own_set HOTT.out (q * 2) (.int .i64 m)) (q * 2 + 1) (.int .i64 j)
                    rw [set_targs ts q ⟨m, j⟩] at this
                    rw [List.length_set]
                    exact this
                case measure => simp [intOf]; omega
              · have HQ' : Hid (∀ (j : Nat) (hj : j < ns.length), j < q + 1 → ns[j] ≠ nm) := fun j hj h => by
                  by_cases hjk : j < q
                  · exact HQ.out j hj hjk
                  · have : j = q := by omega
                    subst this
                    exact hs
                have hs' : (ns[q].toList == nm.toList) = false := by
                  rw [beq_eq_false_iff_ne]
                  exact fun e => hs (tl_inj e)
                have ht2 : (q : Int) < ns.length := by omega
                clear hs
                go_wp2_with fail
                go_roundw
                case rel => exact ⟨q + 1, by omega, by go_num, HQ'.out, trivial⟩
                case measure => simp [intOf]; omega
            · have hqn : q = ns.length := by omega
              subst hqn
              have hat := idxS_none (l := ns) (s := nm) fun j hj => HQ.out j hj hj
              have HST : Hid (tabStep (ns, ts) (nm, ⟨m, j⟩) = (ns ++ [nm], ts ++ [⟨m, j⟩])) := by
                show _ = _
                rw [tabStep, if_neg (by show ¬ 0 ≤ idxS ns nm; omega)]
              have HBB : Hid (ns.length + 1 ≤ maxLen ∧ (ns.length + 1) * 16 ≤ 140737488355328 ∧ w0.heap.size ≤ (wq.alloc (.cells #[.string nm] 9)).heap.size) := ⟨by unfold maxLen; omega, by omega, by simp; omega⟩
              have hlq6 : ∀ q, (Value.slice a6 ns.length c6).ownBlock = some q → w0.heap.size ≤ q ∧ q < wq.heap.size := fun q e => HON.out.lt q e
              have HLQ := mkHid hlq6
              clear hat HQ hlt3 hq SN q0 hlq6
              go_wp2_with (at_builtin; refine wpList_append_lies _ rfl _ _ 54 rfl w0.heap.size 9 iS (.string ⟨#[]⟩) 1 16 Tryz.underlying54 hiS hzS0 hzS1 hzS2 rfl (by decide) (.slice a6 ns.length c6) ns.length (scells ns) rfl (HON.out.alloc _) ⟨wq.heap.size, 0, none⟩ 1 1 [.string nm] rfl rfl (World.news_of_block (heap_alloc_new wq _)) (by intro u hu; simp at hu; subst hu; rfl) (by omega) HBB.out.1 HBB.out.2.1 HBB.out.2.2 _ rfl ?_)
              intro g6 cp6 w3 hown3 hgr3 _ hlt3
              have hT3 := (HOTT.out.alloc (.cells #[.string nm] 9)).kept hgr3 (own_types HOTT.out HON.out (by decide))
              have hB3 : Below w0.heap.size w0 w3 := (HBr.out.alloc hsr _).grown hgr3 (by simp; omega) (fun q e => (HLQ.out q e).1)
              have HBC : Hid (ts.length + 1 ≤ maxLen ∧ (ts.length + 1) * 16 ≤ 140737488355328 ∧ w0.heap.size ≤ (w3.alloc (.cells #[.int .i64 0, .int .i64 0] 110)).heap.size) := ⟨by have := HTS.out; unfold maxLen; omega, by have := HTS.out; omega, by have := hB3.size; simp; omega⟩
              have HT3 := mkHid hT3
              have HN3 := mkHid hown3
              have HB3 := mkHid hB3
              clear hown3 hgr3 hT3 hB3 ei e3
              go_upto_region 16 with (at_builtin; refine wpList_append_lies _ rfl _ _ 84 rfl w0.heap.size 110 iT (.agg #[.int .i64 0, .int .i64 0]) 2 16 Tryz.underlying84 hiT hzT0 hzT1 hzT2 rfl (by decide) (.slice a7 ts.length c7) ts.length (ts.flatMap tcell) rfl (HT3.out.alloc _) ⟨w3.heap.size, 0, none⟩ 1 1 [.int .i64 0, .int .i64 0] rfl rfl (World.news_of_block (heap_alloc_new w3 _)) (by intro u hu; simp at hu; subst hu; rfl) (by omega) HBC.out.1 HBC.out.2.1 HBC.out.2.2 _ rfl ?_; intro g7 cp7 w4 hown4 hgr4 _ hlt4; have HG4 := mkHid (And.intro hown4 hgr4); clear hown4 hgr4)
              obtain ⟨hown4, hgr4⟩ := HG4.out
              have hN4 := (HN3.out.alloc (.cells #[.int .i64 0, .int .i64 0] 110)).kept hgr4 (own_types HN3.out HT3.out (by decide))
              have hB4 : Below w0.heap.size w0 w4 := (HB3.out.alloc HB3.out.size _).grown hgr4 (by have := HB3.out.size; simp; omega) (fun q e => (HT3.out.lt q e).1)
              have ei := (hB4.cell (p := ⟨bi, oi + k, none⟩) HEI.out.1).trans HEI.out.2
              have hgl := hown4.lt g7 rfl
              have hct : ((ts ++ [(⟨0, 0⟩ : TargD)]).flatMap tcell) = ts.flatMap tcell ++ [.int .i64 0, .int .i64 0] := by rw [List.flatMap_append]; rfl
              have hk0 : w4.cell? ⟨g7, ns.length * 2, none⟩ = some (.int .i64 0) := by
                have := hown4.cellAt (ns.length * 2) (by have := HTS.out; omega)
                rw [this, ← HTS.out, List.getElem?_append_right (by rw [tlen]; omega), tlen]
                simp
              have hk1 : w4.cell? ⟨g7, ns.length * 2 + 1, none⟩ = some (.int .i64 0) := by
                have := hown4.cellAt (ns.length * 2 + 1) (by have := HTS.out; omega)
                rw [this, ← HTS.out, List.getElem?_append_right (by rw [tlen]; omega), tlen, show ts.length * 2 + 1 - ts.length * 2 = 1 by omega]
                rfl
              obtain ⟨cur7, hb7⟩ : ∃ cur7, w4.heap[g7]? = some (.cells cur7 110 (0, 0)) := by
                rcases hown4.2 with ⟨e, _⟩ | ⟨g, _, cur, e, _, hb, _⟩
                · cases e
                · cases e; exact ⟨cur, hb⟩
              have z0 : ∀ q, w4.frozen? ⟨g7, q, none⟩ = false := fun q => by simp [World.frozen?, hb7]
              have hg7s : g7 < w4.heap.size := hgl.2
              have ht0 : (0 : Int) ≤ ns.length := by omega
              have ht1 : (ns.length : Int) < (ts.length : Int) + 1 := by have := HTS.out; omega
              have ht2 : (ns.length : Int) < ((ts.length + 1 : Nat) : Int) := by have := HTS.out; omega
              have HFIN := mkHid (And.intro hN4 (And.intro hown4 hB4))
              have HGL := mkHid hgl
              have HCT := mkHid hct
              clear hN4 hown4 hgr4 hB4 hgl hb7 HG4 hct
              go_wp2_with fail
              go_roundw
              case rel =>
                obtain ⟨hN4, hT4, hB4⟩ := HFIN.out
                refine ⟨j + 1, ns ++ [nm], ts ++ [⟨m, j⟩], by omega, by go_num, ?_, by simp; omega, by show _ = _; have := HTS.out; simp; omega, ?_, ?_, ?_, (hB4.setCell (p := ⟨g7, ns.length * 2, none⟩) HGL.out.1 (.int .i64 m)).setCell (p := ⟨g7, ns.length * 2 + 1, none⟩) HGL.out.1 (.int .i64 j)⟩
                · show _ = _
                  rw [HNJ.out, tab_snoc, ← HP.out, HST.out]
                · show ∀ s ∈ _, _
                  intro s hs
                  rcases List.mem_append.1 hs with hs | hs
                  · exact HSZ.out s hs
                  · rw [List.mem_singleton] at hs
                    rw [hs]
                    exact sz1
                · rw [List.length_append, show scells (ns ++ [nm]) = scells ns ++ [.string nm] by simp [scells]]
                  refine hN4.kept (row := some g7) ?_ ?_
                  · exact grown_set (grown_set (World.grownBy.refl _ _) _ _ (Or.inl rfl)) _ _ (Or.inl rfl)
                  · rcases own_types hN4 hT4 (by decide) with h | h
                    · exact Or.inl h
                    · exact Or.inr h
                · have := own_set (own_set hT4 (ns.length * 2) (.int .i64 m)) (ns.length * 2 + 1) (.int .i64 j)
                  rw [← HCT.out, set_targs (ts ++ [(⟨0, 0⟩ : TargD)]) ns.length ⟨m, j⟩, show (ts ++ [(⟨0, 0⟩ : TargD)]).set ns.length ⟨m, j⟩ = ts ++ [⟨m, j⟩] from by rw [← HTS.out]; exact set_last ts ⟨0, 0⟩ ⟨m, j⟩] at this
                  rw [List.length_append]
                  exact this
              case measure => simp [intOf]; omega
        · have HX : Hid ((ns, ts) = ((ln.take (k + 1)).flatMap (ownT l)).foldl tabStep ([], [])) := by
            show _ = _
            rw [HNX.out, HP.out, List.take_of_length_le (by rw [HOT.out]; omega)]
          have HN5 := mkHid hown
          have HT5 := mkHid hownT
          clear hown hownT
          go_wp2_with fail
          go_roundw
          case rel => exact ⟨k + 1, ns, ts, by omega, by go_num, HX.out, by omega, HTS.out, HSZ.out, HN5.out, HT5.out, hBr⟩
          case measure => simp [intOf]; omega
    · have HX : Hid (tabF l n = (ns, ts)) := by
        show _ = _
        rw [HTO.out, HP.out, List.take_of_length_le (by omega)]
      have SN := mkHid ((own_names hown HSZ.out (by omega)).monoS (M' := MT w.heap.size [9] wr) fun _ hk => hk.more HB0.out.size (fun _ ht => ht))
      have ST := mkHid ((own_targs hownT (by have := HTS.out; omega)).monoT (M' := MT w.heap.size [110] wr) fun _ hk => hk.more HB0.out.size (fun _ ht => ht))
      have HBW := mkHid (HB0.out.trans (hBr.mono HB0.out.size))
      clear hown hownT
      go_wp2_with fail
      go_ret2
      exact ⟨HBW.out, _, _, rfl, by rw [HX.out]; exact SN.out, by rw [HX.out]; exact ST.out⟩
end Go.Proofs.YtaekpdcnnkmahaaGreatDoor
