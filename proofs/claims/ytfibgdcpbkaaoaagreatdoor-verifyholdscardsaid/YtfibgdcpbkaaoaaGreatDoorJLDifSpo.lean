/- No two of a list have one name. -/
import Derived.Test.YtfibgdcpbkaaoaaGreatDoorJChkClassLAsk
import Derived.Test.YtfibgdcpbkaaoaaGreatDoorGrow
import Derived.Deep.RegionWith
import Derived.Sort.WalkB12
import Derived.Lib.SlicesMore
import Derived.BigRegion
import Derived.Deep.AppendLies
import Derived.Deep.AppendSrc
import Derived.Test.YtfibgdcpbkaaoaaGreatDoorFine
namespace Go.Proofs.YtfibgdcpbkaaoaaGreatDoor
open Go.RowKit
theorem SL.take {α : Type} {n : Nat} {R : (Nat → Prop) → World → List Value → α → Prop} {M : Nat → Prop} {w : World} {ao : Option Addr} {len cap : Nat} {l : List α} (h : SL n R M w (.slice ao len cap) l) (k : Nat) (hk : k ≤ l.length) : SL n R M w (.slice ao k cap) (l.take k) := by
  obtain ⟨ao', cap', e, h1, h2, h3⟩ := h
  cases e
  have hl : (l.take k).length = k := by simp; omega
  refine ⟨ao, cap, by rw [hl], by omega, by omega, fun j hj => ?_⟩
  obtain ⟨b, off, cs, e, hM, hb, hn, hc, hr⟩ := h3 j (by omega)
  exact ⟨b, off, cs, e, hM, hb, hn, hc, by rw [List.getElem_take]; exact hr⟩
theorem differ_pre (l m : List ByteArray) (h : differB (l ++ m) = true) : differB l = true := by
  induction m using snoc_ind with
  | h0 => simpa using h
  | h1 m x ih =>
    rw [← List.append_assoc, differB_snoc] at h
    simp only [Bool.and_eq_true] at h
    exact ih h.1
theorem differ_stop {α : Type} {f : α → ByteArray} {l : List α} {k : Nat} (hk : k < l.length) (h : (l.take k).any (fun y => decide (f l[k] = f y)) = true) : differB (l.map f) = false := by
  cases hd : differB (l.map f)
  · rfl
  · have e : l = l.take (k + 1) ++ l.drop (k + 1) := (List.take_append_drop _ _).symm
    rw [e, List.map_append] at hd
    have h1 := differ_pre _ _ hd
    rw [List.take_succ_eq_append_getElem hk, List.map_append, List.map_cons, List.map_nil, differB_snoc] at h1
    simp only [Bool.and_eq_true, List.all_map] at h1
    rw [List.any_eq_true] at h
    obtain ⟨y, hy, hy2⟩ := h
    have := List.all_eq_true.1 h1.2 y hy
    simp at this hy2
    exact absurd hy2 this
theorem differ_go {α : Type} {f : α → ByteArray} {l : List α} {k : Nat} (hk : k < l.length) (hd : differB ((l.take k).map f) = true) (h : (l.take k).any (fun y => decide (f l[k] = f y)) = false) : differB ((l.take (k + 1)).map f) = true := by
  rw [List.take_succ_eq_append_getElem hk, List.map_append, List.map_cons, List.map_nil, differB_snoc, hd, Bool.true_and, List.all_map, List.all_eq_true]
  intro y hy
  rw [List.any_eq_false] at h
  have := h y hy
  simpa using this
set_option maxHeartbeats 1000000 in
theorem nameF_any (w : World) (B : Nat) (y : FieldD) (u : Value) (hu : ElF B w u y) : Calls Tryz.prog 129 #[u] w fun r w' => r = .returned (.string y.name) ∧ Below w.heap.size w w' := by
  obtain ⟨rfl, -, -⟩ := hu
  go_enter Tryz.func129, Tryz.ntmps129
  go_wp2_with fail
  go_ret
  exact ⟨rfl, (Below.refl _ _).alloc (Nat.le_refl _) _⟩
set_option maxHeartbeats 2000000 in
theorem differF1_any (w : World) (B Pn Px : Nat) (x y : FieldD) (u : Value) (hu : ElF B w u y) (hX : ElF B w (.agg #[.string x.name, .int .i64 x.kind.kind, .string x.kind.cls]) x) (hBw : B ≤ w.heap.size)
    (hn : w.cell? ⟨Pn, 0, none⟩ = some (.func (.func 129) #[] #[])) (hx0 : w.cell? ⟨Px, 0, none⟩ = some (.string x.name)) (hx1 : w.cell? ⟨Px, 1, none⟩ = some (.int .i64 x.kind.kind)) (hx2 : w.cell? ⟨Px, 2, none⟩ = some (.string x.kind.cls)) :
    Calls Tryz.prog 168 #[u, .pointer (some ⟨Pn, 0, none⟩), .pointer (some ⟨Px, 0, none⟩)] w fun r w' => r = .returned (.bool (decide (x.name = y.name))) ∧ Below w.heap.size w w' := by
  have hU := hu
  obtain ⟨rfl, -, -⟩ := hu
  have hPn : Pn < w.heap.size := World.block_lt_of_cell? w _ hn
  have hPx : Px < w.heap.size := World.block_lt_of_cell? w _ hx0
  have hB1 := (Below.refl w.heap.size w).alloc (Nat.le_refl _) (.cells #[.string y.name, .int .i64 y.kind.kind, .string y.kind.cls] 84)
  have hU1 := hU.below (hB1.mono hBw)
  have hX1 := hX.below (hB1.mono hBw)
  obtain ⟨W0, hW⟩ : ∃ W0, W0 = w.alloc (.cells #[.string y.name, .int .i64 y.kind.kind, .string y.kind.cls] 84) := ⟨_, rfl⟩
  have hz : w.heap.size + 1 ≤ W0.heap.size := by rw [hW]; simp
  rw [← hW] at hB1 hU1 hX1
  have hne : Nonempty (Gr (w.heap.size + 1) W0) := ⟨⟨W0, Below.refl _ _⟩⟩
  have kn : ∀ g : Gr (w.heap.size + 1) W0, g.w.cell? ⟨Pn, 0, none⟩ = some (.func (.func 129) #[] #[]) := fun g => (g.ok.cell (p := ⟨Pn, 0, none⟩) (by simp; omega)).trans ((hB1.cell (p := ⟨Pn, 0, none⟩) hPn).trans hn)
  have kx0 : ∀ g : Gr (w.heap.size + 1) W0, g.w.cell? ⟨Px, 0, none⟩ = some (.string x.name) := fun g => (g.ok.cell (p := ⟨Px, 0, none⟩) (by simp; omega)).trans ((hB1.cell (p := ⟨Px, 0, none⟩) hPx).trans hx0)
  have kx1 : ∀ g : Gr (w.heap.size + 1) W0, g.w.cell? ⟨Px, 1, none⟩ = some (.int .i64 x.kind.kind) := fun g => (g.ok.cell (p := ⟨Px, 1, none⟩) (by simp; omega)).trans ((hB1.cell (p := ⟨Px, 1, none⟩) hPx).trans hx1)
  have kx2 : ∀ g : Gr (w.heap.size + 1) W0, g.w.cell? ⟨Px, 2, none⟩ = some (.string x.kind.cls) := fun g => (g.ok.cell (p := ⟨Px, 2, none⟩) (by simp; omega)).trans ((hB1.cell (p := ⟨Px, 2, none⟩) hPx).trans hx2)
  have ky0 : ∀ g : Gr (w.heap.size + 1) W0, g.w.cell? ⟨w.heap.size, 0, none⟩ = some (.string y.name) := fun g => (g.ok.cell (p := ⟨w.heap.size, 0, none⟩) (by simp)).trans (by rw [hW]; simp [go_sem])
  have ky1 : ∀ g : Gr (w.heap.size + 1) W0, g.w.cell? ⟨w.heap.size, 1, none⟩ = some (.int .i64 y.kind.kind) := fun g => (g.ok.cell (p := ⟨w.heap.size, 1, none⟩) (by simp)).trans (by rw [hW]; simp [go_sem])
  have ky2 : ∀ g : Gr (w.heap.size + 1) W0, g.w.cell? ⟨w.heap.size, 2, none⟩ = some (.string y.kind.cls) := fun g => (g.ok.cell (p := ⟨w.heap.size, 2, none⟩) (by simp)).trans (by rw [hW]; simp [go_sem])
  have HCX : Hid (∀ g : Gr (w.heap.size + 1) W0, Calls Tryz.prog 129 #[.agg #[.string x.name, .int .i64 x.kind.kind, .string x.kind.cls]] g.w fun e w'' => e = .returned (.string x.name) ∧ ∃ g' : Gr (w.heap.size + 1) W0, w'' = g'.w) := fun g => Gr.calls g hz (nameF_any g.w B x _ (hX1.below (g.ok.mono (by omega))))
  have HCY : Hid (∀ g : Gr (w.heap.size + 1) W0, Calls Tryz.prog 129 #[.agg #[.string y.name, .int .i64 y.kind.kind, .string y.kind.cls]] g.w fun e w'' => e = .returned (.string y.name) ∧ ∃ g' : Gr (w.heap.size + 1) W0, w'' = g'.w) := fun g => Gr.calls g hz (nameF_any g.w B y _ (hU1.below (g.ok.mono (by omega))))
  have HB1 := mkHid hB1
  clear hU hX hU1 hX1 hB1 hn hx0 hx1 hx2
  go_enter Tryz.func168, Tryz.ntmps168
  go_wp2_with fail
  rw [← hW]
  clear hW
  refine wp_region_grow_lit (w.heap.size + 1) W0 (by kernel_rfl) (by kernel_rfl) (Below.refl _ _) ?_
  repeat (go_big_quiet_step (first | (go_at_call_of 129 x; exact HCX.out _) | (go_at_call_of 129 y; exact HCY.out _)))
  refine wpQuiet_nil ?_
  intro _ hw'
  obtain ⟨g, rfl⟩ := hw'
  have hg := HB1.out.trans (g.ok.mono (by omega))
  generalize g.w = w2 at *
  clear kn kx0 ky0 kx1 ky1 kx2 ky2 hne
  by_cases h : x.name = y.name
  · have t := congrArg ByteArray.toList h
    have HD : Hid (decide (x.name = y.name) = true) := by show decide (x.name = y.name) = true; simp [h]
    clear h
    go_wp2_with fail
    go_ret
    exact ⟨by rw [HD.out]; simp [t], hg⟩
  · have t : ¬ x.name.toList = y.name.toList := fun e => h (tl_inj e)
    have HD : Hid (decide (x.name = y.name) = false) := by show decide (x.name = y.name) = false; simp [h]
    clear h
    go_wp2_with fail
    go_ret
    exact ⟨by rw [HD.out]; simp [t], hg⟩
set_option maxHeartbeats 2000000 in
theorem differF_any (w : World) (B : Nat) (v : Value) (l : List FieldD) (hv : SL 3 RF (· < B) w v l) (hB : B ≤ w.heap.size) :
    Calls Tryz.prog 128 #[v, .func (.func 129) #[] #[]] w fun r w' => r = .returned (.bool (differB (l.map (·.name)))) ∧ Below w.heap.size w w' := by
  have hmf : ∀ (fn : Fn) (first cap : Array Value) (w : World), (Instr.makeFunc fn first cap).run Tryz.prog w = .ok (.func fn first cap) w := fun _ _ _ _ => rfl
  have HV := mkHid hv
  obtain ⟨ao0, cl, rfl, hcl, hll, -⟩ := hv
  unfold maxLen at hll
  have hB0 := (Below.refl w.heap.size w).alloc (Nat.le_refl _) (.cells #[.func (.func 129) #[] #[]] 182)
  have HB0 := mkHid hB0
  clear hB0
  go_enter Tryz.func128, Tryz.ntmps128
  go_wp2_with fail
  go_loopw [9] (fun i wr => ∃ k : Nat, k ≤ l.length ∧ i = .int .i64 k ∧ Hid (differB ((l.take k).map (·.name)) = true) ∧ Hid (Below (w.heap.size + 1) (w.alloc (.cells #[.func (.func 129) #[] #[]] 182)) wr)) (fun i _ => l.length - (intOf i).toNat)
  case atStart => exact ⟨0, Nat.zero_le _, rfl, rfl, Below.refl _ _⟩
  case round =>
    obtain ⟨k, hk, rfl, HP, HBB⟩ := hrel
    have hBr : Below w.heap.size w wr := HB0.out.trans (HBB.out.mono (by omega))
    have hzr : w.heap.size + 1 ≤ wr.heap.size := by have := HBB.out.size; simpa using this
    have HBR := mkHid hBr
    by_cases hlt : k < l.length
    · obtain ⟨b, off, rfl, hb, e0, e1, e2, es1, es2⟩ := (HV.out.keptF (Kp.below (hBr.mono hB))).atF k hlt
      have hkc : (k : Int) ≤ cl := by omega
      have hk0 : (0 : Int) ≤ k := by omega
      have hB1 := hBr.alloc hBr.size (.cells #[.string l[k].name, .int .i64 l[k].kind.kind, .string l[k].kind.cls] 84)
      have HEL : Hid (ElF B (wr.alloc (.cells #[.string l[k].name, .int .i64 l[k].kind.kind, .string l[k].kind.cls] 84)) (.agg #[.string l[k].name, .int .i64 l[k].kind.kind, .string l[k].kind.cls]) l[k]) := ⟨rfl, es1, es2⟩
      have HB1 := mkHid hB1
      clear hB1
      go_wp2_with fail
      refine (containsF_any _ B _ (l.take k) ((HV.out.keptF (Kp.below (HB1.out.mono hB))).take k hk) (by simp; omega) 168 _ (fun y => decide (l[k].name = y.name)) (fun args w => by kernel_rfl) ?_).mono ?_
      · intro y _ u W hW hu
        refine differF1_any W B w.heap.size wr.heap.size l[k] y u hu (HEL.out.below (hW.mono (by simp; omega))) (by have := hW.size; simp at this; omega) ?_ ?_ ?_ ?_
        · exact (hW.cell (p := ⟨w.heap.size, 0, none⟩) (by simp; omega)).trans (by rw [World.cell?_alloc_past _ _ _ (by omega)]; exact (HBB.out.cell (p := ⟨w.heap.size, 0, none⟩) (by simp)).trans (by simp [go_sem]))
        · exact (hW.cell (p := ⟨wr.heap.size, 0, none⟩) (by simp)).trans (by simp [go_sem])
        · exact (hW.cell (p := ⟨wr.heap.size, 1, none⟩) (by simp)).trans (by simp [go_sem])
        · exact (hW.cell (p := ⟨wr.heap.size, 2, none⟩) (by simp)).trans (by simp [go_sem])
      rintro r w2 ⟨rfl, hb2⟩
      have HB2 : Hid (Below (w.heap.size + 1) (w.alloc (.cells #[.func (.func 129) #[] #[]] 182)) w2) := (HBB.out.alloc (by omega) _).trans (hb2.mono (by simp; omega))
      have HBW := mkHid (HB1.out.trans (hb2.mono (by have := hBr.size; simp; omega)))
      clear hb2 e0 e1 e2
      cases hp : (l.take k).any (fun y => decide (l[k].name = y.name))
      · have HX := mkHid (differ_go (f := (·.name)) hlt HP.out hp)
        clear hp
        go_wp2_with fail
        go_roundw
        case rel => exact ⟨k + 1, by omega, by go_num, HX.out, HB2.out⟩
        case measure => simp [intOf]; omega
      · have HX := mkHid (differ_stop (f := (·.name)) hlt hp)
        clear hp
        go_wp2_with fail
        go_ret
        exact ⟨by rw [HX.out]; rfl, HBW.out⟩
    · have HX : Hid (differB (l.map (·.name)) = true) := by have := HP.out; rwa [List.take_of_length_le (by omega)] at this
      go_wp2_with fail
      go_ret
      exact ⟨by rw [HX.out]; rfl, HBR.out⟩
set_option maxHeartbeats 1000000 in
theorem nameM_any (w : World) (B : Nat) (y : MethD) (u : Value) (hu : ElM B w u y) : Calls Tryz.prog 132 #[u] w fun r w' => r = .returned (.string y.name) ∧ Below w.heap.size w w' := by
  obtain ⟨ao2, ca2, ho2, ch2, rfl, -, -, -, -, -⟩ := hu
  go_enter Tryz.func132, Tryz.ntmps132
  go_wp2_with fail
  go_ret
  exact ⟨rfl, (Below.refl _ _).alloc (Nat.le_refl _) _⟩
set_option maxHeartbeats 2000000 in
theorem differM1_any (w : World) (B Pn Px : Nat) (x y : MethD) (ao : Option Addr) (ca : Nat) (ho : Option Addr) (ch : Nat) (u : Value) (hu : ElM B w u y) (hX : ElM B w (.agg #[.string x.name, .bool x.static, .slice ao x.args.length ca, .int .i64 x.ret.kind, .string x.ret.cls, .int .i64 x.stack, .int .i64 x.locals, .string x.code, .slice ho x.hands.length ch]) x) (hBw : B ≤ w.heap.size)
    (hn : w.cell? ⟨Pn, 0, none⟩ = some (.func (.func 132) #[] #[])) (hx0 : w.cell? ⟨Px, 0, none⟩ = some (.string x.name)) (hx1 : w.cell? ⟨Px, 1, none⟩ = some (.bool x.static)) (hx2 : w.cell? ⟨Px, 2, none⟩ = some (.slice ao x.args.length ca)) (hx3 : w.cell? ⟨Px, 3, none⟩ = some (.int .i64 x.ret.kind)) (hx4 : w.cell? ⟨Px, 4, none⟩ = some (.string x.ret.cls)) (hx5 : w.cell? ⟨Px, 5, none⟩ = some (.int .i64 x.stack)) (hx6 : w.cell? ⟨Px, 6, none⟩ = some (.int .i64 x.locals)) (hx7 : w.cell? ⟨Px, 7, none⟩ = some (.string x.code)) (hx8 : w.cell? ⟨Px, 8, none⟩ = some (.slice ho x.hands.length ch)) :
    Calls Tryz.prog 169 #[u, .pointer (some ⟨Pn, 0, none⟩), .pointer (some ⟨Px, 0, none⟩)] w fun r w' => r = .returned (.bool (decide (x.name = y.name))) ∧ Below w.heap.size w w' := by
  have hU := hu
  obtain ⟨ao2, ca2, ho2, ch2, rfl, -, -, -, -, -⟩ := hu
  have hPn : Pn < w.heap.size := World.block_lt_of_cell? w _ hn
  have hPx : Px < w.heap.size := World.block_lt_of_cell? w _ hx0
  have hB1 := (Below.refl w.heap.size w).alloc (Nat.le_refl _) (.cells #[.string y.name, .bool y.static, .slice ao2 y.args.length ca2, .int .i64 y.ret.kind, .string y.ret.cls, .int .i64 y.stack, .int .i64 y.locals, .string y.code, .slice ho2 y.hands.length ch2] 43)
  have hU1 := hU.below (hB1.mono hBw)
  have hX1 := hX.below (hB1.mono hBw)
  obtain ⟨W0, hW⟩ : ∃ W0, W0 = w.alloc (.cells #[.string y.name, .bool y.static, .slice ao2 y.args.length ca2, .int .i64 y.ret.kind, .string y.ret.cls, .int .i64 y.stack, .int .i64 y.locals, .string y.code, .slice ho2 y.hands.length ch2] 43) := ⟨_, rfl⟩
  have hz : w.heap.size + 1 ≤ W0.heap.size := by rw [hW]; simp
  rw [← hW] at hB1 hU1 hX1
  have hne : Nonempty (Gr (w.heap.size + 1) W0) := ⟨⟨W0, Below.refl _ _⟩⟩
  have kn : ∀ g : Gr (w.heap.size + 1) W0, g.w.cell? ⟨Pn, 0, none⟩ = some (.func (.func 132) #[] #[]) := fun g => (g.ok.cell (p := ⟨Pn, 0, none⟩) (by simp; omega)).trans ((hB1.cell (p := ⟨Pn, 0, none⟩) hPn).trans hn)
  have kx0 : ∀ g : Gr (w.heap.size + 1) W0, g.w.cell? ⟨Px, 0, none⟩ = some (.string x.name) := fun g => (g.ok.cell (p := ⟨Px, 0, none⟩) (by simp; omega)).trans ((hB1.cell (p := ⟨Px, 0, none⟩) hPx).trans hx0)
  have kx1 : ∀ g : Gr (w.heap.size + 1) W0, g.w.cell? ⟨Px, 1, none⟩ = some (.bool x.static) := fun g => (g.ok.cell (p := ⟨Px, 1, none⟩) (by simp; omega)).trans ((hB1.cell (p := ⟨Px, 1, none⟩) hPx).trans hx1)
  have kx2 : ∀ g : Gr (w.heap.size + 1) W0, g.w.cell? ⟨Px, 2, none⟩ = some (.slice ao x.args.length ca) := fun g => (g.ok.cell (p := ⟨Px, 2, none⟩) (by simp; omega)).trans ((hB1.cell (p := ⟨Px, 2, none⟩) hPx).trans hx2)
  have kx3 : ∀ g : Gr (w.heap.size + 1) W0, g.w.cell? ⟨Px, 3, none⟩ = some (.int .i64 x.ret.kind) := fun g => (g.ok.cell (p := ⟨Px, 3, none⟩) (by simp; omega)).trans ((hB1.cell (p := ⟨Px, 3, none⟩) hPx).trans hx3)
  have kx4 : ∀ g : Gr (w.heap.size + 1) W0, g.w.cell? ⟨Px, 4, none⟩ = some (.string x.ret.cls) := fun g => (g.ok.cell (p := ⟨Px, 4, none⟩) (by simp; omega)).trans ((hB1.cell (p := ⟨Px, 4, none⟩) hPx).trans hx4)
  have kx5 : ∀ g : Gr (w.heap.size + 1) W0, g.w.cell? ⟨Px, 5, none⟩ = some (.int .i64 x.stack) := fun g => (g.ok.cell (p := ⟨Px, 5, none⟩) (by simp; omega)).trans ((hB1.cell (p := ⟨Px, 5, none⟩) hPx).trans hx5)
  have kx6 : ∀ g : Gr (w.heap.size + 1) W0, g.w.cell? ⟨Px, 6, none⟩ = some (.int .i64 x.locals) := fun g => (g.ok.cell (p := ⟨Px, 6, none⟩) (by simp; omega)).trans ((hB1.cell (p := ⟨Px, 6, none⟩) hPx).trans hx6)
  have kx7 : ∀ g : Gr (w.heap.size + 1) W0, g.w.cell? ⟨Px, 7, none⟩ = some (.string x.code) := fun g => (g.ok.cell (p := ⟨Px, 7, none⟩) (by simp; omega)).trans ((hB1.cell (p := ⟨Px, 7, none⟩) hPx).trans hx7)
  have kx8 : ∀ g : Gr (w.heap.size + 1) W0, g.w.cell? ⟨Px, 8, none⟩ = some (.slice ho x.hands.length ch) := fun g => (g.ok.cell (p := ⟨Px, 8, none⟩) (by simp; omega)).trans ((hB1.cell (p := ⟨Px, 8, none⟩) hPx).trans hx8)
  have ky0 : ∀ g : Gr (w.heap.size + 1) W0, g.w.cell? ⟨w.heap.size, 0, none⟩ = some (.string y.name) := fun g => (g.ok.cell (p := ⟨w.heap.size, 0, none⟩) (by simp)).trans (by rw [hW]; simp [go_sem])
  have ky1 : ∀ g : Gr (w.heap.size + 1) W0, g.w.cell? ⟨w.heap.size, 1, none⟩ = some (.bool y.static) := fun g => (g.ok.cell (p := ⟨w.heap.size, 1, none⟩) (by simp)).trans (by rw [hW]; simp [go_sem])
  have ky2 : ∀ g : Gr (w.heap.size + 1) W0, g.w.cell? ⟨w.heap.size, 2, none⟩ = some (.slice ao2 y.args.length ca2) := fun g => (g.ok.cell (p := ⟨w.heap.size, 2, none⟩) (by simp)).trans (by rw [hW]; simp [go_sem])
  have ky3 : ∀ g : Gr (w.heap.size + 1) W0, g.w.cell? ⟨w.heap.size, 3, none⟩ = some (.int .i64 y.ret.kind) := fun g => (g.ok.cell (p := ⟨w.heap.size, 3, none⟩) (by simp)).trans (by rw [hW]; simp [go_sem])
  have ky4 : ∀ g : Gr (w.heap.size + 1) W0, g.w.cell? ⟨w.heap.size, 4, none⟩ = some (.string y.ret.cls) := fun g => (g.ok.cell (p := ⟨w.heap.size, 4, none⟩) (by simp)).trans (by rw [hW]; simp [go_sem])
  have ky5 : ∀ g : Gr (w.heap.size + 1) W0, g.w.cell? ⟨w.heap.size, 5, none⟩ = some (.int .i64 y.stack) := fun g => (g.ok.cell (p := ⟨w.heap.size, 5, none⟩) (by simp)).trans (by rw [hW]; simp [go_sem])
  have ky6 : ∀ g : Gr (w.heap.size + 1) W0, g.w.cell? ⟨w.heap.size, 6, none⟩ = some (.int .i64 y.locals) := fun g => (g.ok.cell (p := ⟨w.heap.size, 6, none⟩) (by simp)).trans (by rw [hW]; simp [go_sem])
  have ky7 : ∀ g : Gr (w.heap.size + 1) W0, g.w.cell? ⟨w.heap.size, 7, none⟩ = some (.string y.code) := fun g => (g.ok.cell (p := ⟨w.heap.size, 7, none⟩) (by simp)).trans (by rw [hW]; simp [go_sem])
  have ky8 : ∀ g : Gr (w.heap.size + 1) W0, g.w.cell? ⟨w.heap.size, 8, none⟩ = some (.slice ho2 y.hands.length ch2) := fun g => (g.ok.cell (p := ⟨w.heap.size, 8, none⟩) (by simp)).trans (by rw [hW]; simp [go_sem])
  have HCX : Hid (∀ g : Gr (w.heap.size + 1) W0, Calls Tryz.prog 132 #[.agg #[.string x.name, .bool x.static, .slice ao x.args.length ca, .int .i64 x.ret.kind, .string x.ret.cls, .int .i64 x.stack, .int .i64 x.locals, .string x.code, .slice ho x.hands.length ch]] g.w fun e w'' => e = .returned (.string x.name) ∧ ∃ g' : Gr (w.heap.size + 1) W0, w'' = g'.w) := fun g => Gr.calls g hz (nameM_any g.w B x _ (hX1.below (g.ok.mono (by omega))))
  have HCY : Hid (∀ g : Gr (w.heap.size + 1) W0, Calls Tryz.prog 132 #[.agg #[.string y.name, .bool y.static, .slice ao2 y.args.length ca2, .int .i64 y.ret.kind, .string y.ret.cls, .int .i64 y.stack, .int .i64 y.locals, .string y.code, .slice ho2 y.hands.length ch2]] g.w fun e w'' => e = .returned (.string y.name) ∧ ∃ g' : Gr (w.heap.size + 1) W0, w'' = g'.w) := fun g => Gr.calls g hz (nameM_any g.w B y _ (hU1.below (g.ok.mono (by omega))))
  have HB1 := mkHid hB1
  clear hU hX hU1 hX1 hB1 hn hx0 hx1 hx2 hx3 hx4 hx5 hx6 hx7 hx8
  go_enter Tryz.func169, Tryz.ntmps169
  go_wp2_with fail
  rw [← hW]
  clear hW
  refine wp_region_grow_lit (w.heap.size + 1) W0 (by kernel_rfl) (by kernel_rfl) (Below.refl _ _) ?_
  repeat (go_big_quiet_step (first | (go_at_call_of 132 x; exact HCX.out _) | (go_at_call_of 132 y; exact HCY.out _)))
  refine wpQuiet_nil ?_
  intro _ hw'
  obtain ⟨g, rfl⟩ := hw'
  have hg := HB1.out.trans (g.ok.mono (by omega))
  generalize g.w = w2 at *
  clear kn kx0 ky0 kx1 ky1 kx2 ky2 kx3 ky3 kx4 ky4 kx5 ky5 kx6 ky6 kx7 ky7 kx8 ky8 hne
  by_cases h : x.name = y.name
  · have t := congrArg ByteArray.toList h
    have HD : Hid (decide (x.name = y.name) = true) := by show decide (x.name = y.name) = true; simp [h]
    clear h
    go_wp2_with fail
    go_ret
    exact ⟨by rw [HD.out]; simp [t], hg⟩
  · have t : ¬ x.name.toList = y.name.toList := fun e => h (tl_inj e)
    have HD : Hid (decide (x.name = y.name) = false) := by show decide (x.name = y.name) = false; simp [h]
    clear h
    go_wp2_with fail
    go_ret
    exact ⟨by rw [HD.out]; simp [t], hg⟩
set_option maxHeartbeats 2000000 in
theorem differM_any (w : World) (B : Nat) (v : Value) (l : List MethD) (hv : SL 9 RM (· < B) w v l) (hB : B ≤ w.heap.size) :
    Calls Tryz.prog 131 #[v, .func (.func 132) #[] #[]] w fun r w' => r = .returned (.bool (differB (l.map (·.name)))) ∧ Below w.heap.size w w' := by
  have hmf : ∀ (fn : Fn) (first cap : Array Value) (w : World), (Instr.makeFunc fn first cap).run Tryz.prog w = .ok (.func fn first cap) w := fun _ _ _ _ => rfl
  have HV := mkHid hv
  obtain ⟨ao0, cl, rfl, hcl, hll, -⟩ := hv
  unfold maxLen at hll
  have hB0 := (Below.refl w.heap.size w).alloc (Nat.le_refl _) (.cells #[.func (.func 132) #[] #[]] 185)
  have HB0 := mkHid hB0
  clear hB0
  go_enter Tryz.func131, Tryz.ntmps131
  go_wp2_with fail
  go_loopw [9] (fun i wr => ∃ k : Nat, k ≤ l.length ∧ i = .int .i64 k ∧ Hid (differB ((l.take k).map (·.name)) = true) ∧ Hid (Below (w.heap.size + 1) (w.alloc (.cells #[.func (.func 132) #[] #[]] 185)) wr)) (fun i _ => l.length - (intOf i).toNat)
  case atStart => exact ⟨0, Nat.zero_le _, rfl, rfl, Below.refl _ _⟩
  case round =>
    obtain ⟨k, hk, rfl, HP, HBB⟩ := hrel
    have hBr : Below w.heap.size w wr := HB0.out.trans (HBB.out.mono (by omega))
    have hzr : w.heap.size + 1 ≤ wr.heap.size := by have := HBB.out.size; simpa using this
    have HBR := mkHid hBr
    by_cases hlt : k < l.length
    · obtain ⟨b, off, va, vh, rfl, hb, e0, e1, e2, e3, e4, e5, e6, e7, e8, ea, eh, es1, es2, es3⟩ := (HV.out.keptM (Kp.below (hBr.mono hB))).atM k hlt
      have EA := mkHid ea
      have EH := mkHid eh
      obtain ⟨ao, ca, rfl, -⟩ := ea
      obtain ⟨ho, ch, rfl, -⟩ := eh
      have hkc : (k : Int) ≤ cl := by omega
      have hk0 : (0 : Int) ≤ k := by omega
      have hB1 := hBr.alloc hBr.size (.cells #[.string l[k].name, .bool l[k].static, .slice ao l[k].args.length ca, .int .i64 l[k].ret.kind, .string l[k].ret.cls, .int .i64 l[k].stack, .int .i64 l[k].locals, .string l[k].code, .slice ho l[k].hands.length ch] 43)
      have HEL : Hid (ElM B (wr.alloc (.cells #[.string l[k].name, .bool l[k].static, .slice ao l[k].args.length ca, .int .i64 l[k].ret.kind, .string l[k].ret.cls, .int .i64 l[k].stack, .int .i64 l[k].locals, .string l[k].code, .slice ho l[k].hands.length ch] 43)) (.agg #[.string l[k].name, .bool l[k].static, .slice ao l[k].args.length ca, .int .i64 l[k].ret.kind, .string l[k].ret.cls, .int .i64 l[k].stack, .int .i64 l[k].locals, .string l[k].code, .slice ho l[k].hands.length ch]) l[k]) := ⟨ao, ca, ho, ch, rfl, EA.out.keptK (Kp.below ((Below.refl _ _).alloc (by have := hBr.size; omega) _)), EH.out.keptH (Kp.below ((Below.refl _ _).alloc (by have := hBr.size; omega) _)), es1, es2, es3⟩
      have HB1 := mkHid hB1
      clear hB1
      go_wp2_with fail
      refine (containsM_any _ B _ (l.take k) ((HV.out.keptM (Kp.below (HB1.out.mono hB))).take k hk) (by simp; omega) 169 _ (fun y => decide (l[k].name = y.name)) (fun args w => by kernel_rfl) ?_).mono ?_
      · intro y _ u W hW hu
        refine differM1_any W B w.heap.size wr.heap.size l[k] y ao ca ho ch u hu (HEL.out.below (hW.mono (by simp; omega))) (by have := hW.size; simp at this; omega) ?_ ?_ ?_ ?_ ?_ ?_ ?_ ?_ ?_ ?_
        · exact (hW.cell (p := ⟨w.heap.size, 0, none⟩) (by simp; omega)).trans (by rw [World.cell?_alloc_past _ _ _ (by omega)]; exact (HBB.out.cell (p := ⟨w.heap.size, 0, none⟩) (by simp)).trans (by simp [go_sem]))
        · exact (hW.cell (p := ⟨wr.heap.size, 0, none⟩) (by simp)).trans (by simp [go_sem])
        · exact (hW.cell (p := ⟨wr.heap.size, 1, none⟩) (by simp)).trans (by simp [go_sem])
        · exact (hW.cell (p := ⟨wr.heap.size, 2, none⟩) (by simp)).trans (by simp [go_sem])
        · exact (hW.cell (p := ⟨wr.heap.size, 3, none⟩) (by simp)).trans (by simp [go_sem])
        · exact (hW.cell (p := ⟨wr.heap.size, 4, none⟩) (by simp)).trans (by simp [go_sem])
        · exact (hW.cell (p := ⟨wr.heap.size, 5, none⟩) (by simp)).trans (by simp [go_sem])
        · exact (hW.cell (p := ⟨wr.heap.size, 6, none⟩) (by simp)).trans (by simp [go_sem])
        · exact (hW.cell (p := ⟨wr.heap.size, 7, none⟩) (by simp)).trans (by simp [go_sem])
        · exact (hW.cell (p := ⟨wr.heap.size, 8, none⟩) (by simp)).trans (by simp [go_sem])
      rintro r w2 ⟨rfl, hb2⟩
      have HB2 : Hid (Below (w.heap.size + 1) (w.alloc (.cells #[.func (.func 132) #[] #[]] 185)) w2) := (HBB.out.alloc (by omega) _).trans (hb2.mono (by simp; omega))
      have HBW := mkHid (HB1.out.trans (hb2.mono (by have := hBr.size; simp; omega)))
      clear hb2 e0 e1 e2 e3 e4 e5 e6 e7 e8
      cases hp : (l.take k).any (fun y => decide (l[k].name = y.name))
      · have HX := mkHid (differ_go (f := (·.name)) hlt HP.out hp)
        clear hp
        go_wp2_with fail
        go_roundw
        case rel => exact ⟨k + 1, by omega, by go_num, HX.out, HB2.out⟩
        case measure => simp [intOf]; omega
      · have HX := mkHid (differ_stop (f := (·.name)) hlt hp)
        clear hp
        go_wp2_with fail
        go_ret
        exact ⟨by rw [HX.out]; rfl, HBW.out⟩
    · have HX : Hid (differB (l.map (·.name)) = true) := by have := HP.out; rwa [List.take_of_length_le (by omega)] at this
      go_wp2_with fail
      go_ret
      exact ⟨by rw [HX.out]; rfl, HBR.out⟩
set_option maxHeartbeats 1000000 in
theorem parts1_any (w : World) (B : Nat) (x : List FieldD) (u : Value) (hu : ElFs B w u x) (hB : B ≤ w.heap.size) : Calls Tryz.prog 127 #[u] w fun r w' => r = .returned (.bool (differB (x.map (·.name)))) ∧ Below w.heap.size w w' := by
  obtain ⟨ai, ci, rfl, ea⟩ := hu
  have EA := mkHid ea
  clear ea
  go_enter Tryz.func127, Tryz.ntmps127
  go_wp2_with fail
  refine (differF_any _ B _ x EA.out hB).mono ?_
  rintro r w1 ⟨rfl, hb⟩
  go_wp2_with fail
  go_ret
  exact ⟨rfl, hb⟩
set_option maxHeartbeats 1000000 in
theorem parts2_any (w : World) (B : Nat) (x : ClassD) (u : Value) (hu : ElC B w u x) (hB : B ≤ w.heap.size) : Calls Tryz.prog 130 #[u] w fun r w' => r = .returned (.bool (differB (x.meths.map (·.name)))) ∧ Below w.heap.size w w' := by
  obtain ⟨fo, cf, mo, cm, rfl, -, em, -, -⟩ := hu
  have EM := mkHid em
  have HB0 := mkHid (fun o => (Below.refl w.heap.size w).alloc (Nat.le_refl _) o)
  clear em
  go_enter Tryz.func130, Tryz.ntmps130
  go_wp2_with fail
  refine (differM_any _ B _ x.meths (EM.out.keptM (Kp.below ((HB0.out _).mono hB))) (by simp; omega)).mono ?_
  rintro r w1 ⟨rfl, hb⟩
  have hb2 : Below w.heap.size w w1 := (HB0.out _).trans (hb.mono (by simp))
  clear hb
  go_wp2_with fail
  go_ret
  exact ⟨rfl, hb2⟩
set_option maxHeartbeats 1000000 in
theorem partsDiffer_any (w : World) (B b : Nat) (l : List ClassD) (vC vS vF vN vT vL : Value) (Bm : Nat) (hw : Web B w b l vC vS vF vN vT vL Bm) :
    Calls Tryz.prog 78 #[.pointer (some ⟨b, 0, none⟩)] w fun r w' => r = .returned (.bool (askParts l)) ∧ Below w.heap.size w w' := by
  have c2 := cell_of hw.blk 2 (x := vF) rfl
  have c0 := hw.cell0
  have hbl := lt_of hw.blk
  have sF := hw.sF
  have HC := mkHid hw.sC
  have hle := hw.le
  obtain ⟨ac, cc, rfl, -⟩ := hw.sC
  have HM : Hid (askParts l = ((((List.range l.length).map (fieldsOf l)).all fun x => differB (x.map (·.name))) && (l.all fun c => differB (c.meths.map (·.name))))) := by
    show askParts l = _
    rw [askParts, List.all_map]
    rfl
  clear hw
  generalize (List.range l.length).map (fieldsOf l) = LF at *
  have HF := mkHid sF
  obtain ⟨af, cf, rfl, -⟩ := sF
  go_enter Tryz.func78, Tryz.ntmps78
  go_wp2_with fail
  refine (everyFs_any _ B _ _ HF.out hle 127 #[] #[] (fun x => differB (x.map (·.name))) (fun args w => by kernel_rfl) ?_).mono ?_
  · intro x _ u W hW hu
    exact parts1_any W B x u hu (by have := hW.size; omega)
  rintro r w1 ⟨rfl, hb⟩
  have d0 : w1.cell? ⟨b, 0, none⟩ = some (.slice ac l.length cc) := (hb.cell (p := ⟨b, 0, none⟩) hbl).trans c0
  cases ha : LF.all fun x => differB (x.map (·.name))
  · have HR : Hid (askParts l = false) := by rw [HM.out, ha]; rfl
    clear ha
    go_wp2_with fail
    go_ret
    exact ⟨by rw [HR.out]; rfl, hb⟩
  have HR : Hid (askParts l = (l.all fun c => differB (c.meths.map (·.name)))) := by rw [HM.out, ha]; rfl
  clear ha
  go_wp2_with fail
  refine (everyC_any _ B _ _ (HC.out.keptC (Kp.below (hb.mono hle))) (by have := hb.size; omega) 130 #[] #[] (fun c => differB (c.meths.map (·.name))) (fun args w => by kernel_rfl) ?_).mono ?_
  · intro x _ u W hW hu
    exact parts2_any W B x u hu (by have := hW.size; have := hb.size; omega)
  rintro r w2 ⟨rfl, hb2⟩
  have hb3 := hb.trans (hb2.mono hb.size)
  clear hb hb2
  go_wp2_with fail
  go_ret
  exact ⟨by rw [HR.out]; rfl, hb3⟩
end Go.Proofs.YtfibgdcpbkaaoaaGreatDoor
/- Rows that a reading makes: their blocks by their types, and what keeps them. -/
namespace Go.Proofs.YtfibgdcpbkaaoaaGreatDoor
open Go.RowKit
def MT (B : Nat) (T : List Nat) (w : World) (k : Nat) : Prop := B ≤ k ∧ ∃ c t fr, w.heap[k]? = some (.cells c t fr) ∧ t ∈ T ∧ fr = (0, 0)
structure Stp (B : Nat) (T : List Nat) (w w' : World) : Prop where
  size : w.heap.size ≤ w'.heap.size
  block : ∀ k, MT B T w k → w'.heap[k]? = w.heap[k]?
theorem MT.lt {B : Nat} {T : List Nat} {w : World} {k : Nat} (h : MT B T w k) : k < w.heap.size := by
  obtain ⟨_, c, t, fr, h, _⟩ := h
  exact (Array.getElem?_eq_some_iff.1 h).1
theorem MT.step {B : Nat} {T : List Nat} {w w' : World} {k : Nat} (h : MT B T w k) (hs : Stp B T w w') : MT B T w' k := by
  have e := hs.block k h
  obtain ⟨h1, c, t, fr, h2, h3⟩ := h
  exact ⟨h1, c, t, fr, e.trans h2, h3⟩
theorem MT.more {B B' : Nat} {T T' : List Nat} {w : World} {k : Nat} (h : MT B T w k) (hB : B' ≤ B) (hT : ∀ t ∈ T, t ∈ T') : MT B' T' w k := by
  obtain ⟨h1, c, t, fr, h2, h3⟩ := h
  exact ⟨Nat.le_trans hB h1, c, t, fr, h2, hT t h3.1, h3.2⟩
theorem Stp.kp {B : Nat} {T : List Nat} {w w' : World} (h : Stp B T w w') : Kp (MT B T w) w w' := ⟨h.size, fun b hb _ => h.block b hb⟩
theorem Stp.grown {B : Nat} {T : List Nat} {w w' : World} {b : Nat} (hg : w.grownBy w' (some b)) (hb : b < B) : Stp B T w w' := ⟨hg.size, fun k hk => hg.block k hk.lt (by have := hk.1; simp; omega)⟩
theorem Stp.row {B : Nat} {T : List Nat} {w w' : World} {v : Value} {B' e n len : Nat} {xs : List Value} (hg : w.grownBy w' v.ownBlock) (ho : w.ownsRow B' e n v len xs) (he : e ∉ T) : Stp B T w w' :=
  ⟨hg.size, fun k hk => hg.block k hk.lt (fun e' => by
    obtain ⟨_, c, t, fr, h2, h3⟩ := hk
    rcases ho.2 with ⟨rfl, _⟩ | ⟨g, cap, cur, rfl, _, h4, _⟩
    · cases e'
    · cases e'
      rw [h4] at h2
      cases h2
      exact he h3.1)⟩
theorem Stp.alloc {B : Nat} {T : List Nat} {w w' : World} (h : Stp B T w w') (o : Obj) : Stp B T w (w'.alloc o) :=
  ⟨Nat.le_trans h.size (by simp), fun k hk => (Below.heap_alloc _ _ _ (Nat.lt_of_lt_of_le hk.lt h.size)).trans (h.block k hk)⟩
theorem Stp.refl (B : Nat) (T : List Nat) (w : World) : Stp B T w w := ⟨Nat.le_refl _, fun _ _ => rfl⟩
theorem Stp.trans {B : Nat} {T : List Nat} {a b c : World} (h : Stp B T a b) (k : Stp B T b c) : Stp B T a c := ⟨Nat.le_trans h.size k.size, fun i hi => (k.block i (hi.step h)).trans (h.block i hi)⟩
theorem Stp.set {B : Nat} {T : List Nat} {w : World} {k t : Nat} {c : Array Value} {fr : Nat × Nat} (h : w.heap[k]? = some (.cells c t fr)) (ht : t ∉ T) (j : Nat) (v : Value) : Stp B T w (w.setCell ⟨k, j, none⟩ v) :=
  ⟨by simp [World.setCell], fun i hi => Below.heap_setCell _ _ _ _ (fun e => by
    obtain ⟨_, c', t', fr', h2, h3⟩ := hi
    rw [show i = k from e, h] at h2
    cases h2
    exact ht h3.1)⟩
theorem Stp.below {B : Nat} {T : List Nat} {w w' : World} (h : Below w.heap.size w w') : Stp B T w w' := ⟨h.size, fun k hk => h.block k hk.lt⟩
theorem SL.stpK {B : Nat} {T : List Nat} {w w' : World} {v : Value} {l : List KindD} (h : SL 2 RK (MT B T w) w v l) (hs : Stp B T w w') : SL 2 RK (MT B T w') w' v l := (h.keptK hs.kp).monoK fun _ hk => hk.step hs
theorem SL.stpF {B : Nat} {T : List Nat} {w w' : World} {v : Value} {l : List FieldD} (h : SL 3 RF (MT B T w) w v l) (hs : Stp B T w w') : SL 3 RF (MT B T w') w' v l := (h.keptF hs.kp).monoF fun _ hk => hk.step hs
theorem SL.stpH {B : Nat} {T : List Nat} {w w' : World} {v : Value} {l : List HandD} (h : SL 4 RH (MT B T w) w v l) (hs : Stp B T w w') : SL 4 RH (MT B T w') w' v l := (h.keptH hs.kp).monoH fun _ hk => hk.step hs
theorem SL.stpM {B : Nat} {T : List Nat} {w w' : World} {v : Value} {l : List MethD} (h : SL 9 RM (MT B T w) w v l) (hs : Stp B T w w') : SL 9 RM (MT B T w') w' v l := (h.keptM hs.kp).monoM fun _ hk => hk.step hs
theorem RM.stp {B : Nat} {T : List Nat} {w w' : World} {cs : List Value} {m : MethD} (h : RM (MT B T w) w cs m) (hs : Stp B T w w') : RM (MT B T w') w' cs m := (h.kept hs.kp).mono fun _ hk => hk.step hs
theorem RC.stp {B : Nat} {T : List Nat} {w w' : World} {cs : List Value} {m : ClassD} (h : RC (MT B T w) w cs m) (hs : Stp B T w w') : RC (MT B T w') w' cs m := (h.kept hs.kp).mono fun _ hk => hk.step hs
theorem flat_get {α : Type} {n : Nat} (f : α → List Value) : ∀ (zs : List α) (k j : Nat), (∀ z ∈ zs, (f z).length = n) → (hk : k < zs.length) → j < n → (zs.flatMap f)[k * n + j]? = (f zs[k])[j]?
  | [], k, j, _, hk, _ => by cases hk
  | z :: zs, k, j, h, hk, hj => by
    have h0 := h z (by simp)
    rw [List.flatMap_cons]
    match k, hk with
    | 0, _ =>
      rw [List.getElem?_append_left (by omega)]
      simp
    | k + 1, hk =>
      rw [List.getElem?_append_right (by rw [h0, Nat.add_mul]; omega), h0, show (k + 1) * n + j - n = k * n + j by rw [Nat.add_mul]; omega]
      exact flat_get f zs k j (fun y hy => h y (by simp [hy])) (by simpa using hk) hj
theorem own_SL {α : Type} {n : Nat} {R : (Nat → Prop) → World → List Value → α → Prop} {B e : Nat} {T : List Nat} {w : World} {v : Value} {zs : List (List Value × α)} (ho : w.ownsRow B e n v zs.length (zs.flatMap (·.1)))
    (h : ∀ z ∈ zs, z.1.length = n ∧ R (MT B T w) w z.1 z.2) (he : e ∈ T) (hl : zs.length ≤ maxLen) : SL n R (MT B T w) w v (zs.map (·.2)) := by
  rcases ho.2 with ⟨rfl, hn⟩ | ⟨g, cap, cur, rfl, hB, hg, hc, _⟩
  · have : zs = [] := List.eq_nil_of_length_eq_zero hn
    subst this
    exact ⟨none, 0, rfl, Nat.le_refl _, hl, fun k hk => by cases hk⟩
  · refine ⟨some ⟨g, 0, none⟩, cap, by simp, by simpa using hc, by simpa using hl, fun k hk => ?_⟩
    have hk' : k < zs.length := by simpa using hk
    have hz := h _ (List.getElem_mem hk')
    refine ⟨g, 0, zs[k].1, rfl, ⟨hB, cur, e, _, hg, he, rfl⟩, (Array.getElem?_eq_some_iff.1 hg).1, hz.1, fun j hj => ?_, by simpa using hz.2⟩
    have hj' : j < zs[k].1.length := by omega
    have := ho.cells (g := g) rfl (k * n + j) (zs[k].1[j]) (by rw [flat_get (n := n) (fun z : List Value × α => z.1) zs k j (fun z hz' => (h z hz').1) hk' hj]; simp [hj'])
    rw [List.getElem?_eq_getElem hj', ← this]
    simp [Addr.add]
    split
    · rename_i hz0
      rw [hz0.1, hz0.2]
    · rfl
theorem snoc_flat {α : Type} (zs : List (List Value × α)) (c : List Value) (x : α) : (zs ++ [(c, x)]).flatMap (·.1) = zs.flatMap (·.1) ++ c := by simp
end Go.Proofs.YtfibgdcpbkaaoaaGreatDoor
/- The line of a class: it, and those above it. -/
namespace Go.Proofs.YtfibgdcpbkaaoaaGreatDoor
open Go.RowKit Go.Sort
def idxO (l : List Nat) (n : Int) : Int := idx (fun x : Nat => decide ((x : Int) = n)) l
set_option maxHeartbeats 1000000 in
theorem indexStr_any (w : World) (M : Nat → Prop) (v : Value) (l : List ByteArray) (s : ByteArray) (hv : SL 1 RS M w v l) :
    Calls Tryz.prog 113 #[v, .string s] w fun r w' => r = .returned (.int .i64 (idxS l s)) ∧ w' = w := by
  have HV := mkHid hv
  obtain ⟨ao0, cl, rfl, -, hll, -⟩ := hv
  unfold maxLen at hll
  go_enter Tryz.func113, Tryz.ntmps113
  go_wp2_with fail
  go_loop [8] (fun i => ∃ k : Nat, k ≤ l.length ∧ i = .int .i64 k ∧ Hid (∀ x ∈ l.take k, decide (x = s) = false)) (fun i => l.length - (intOf i).toNat)
  case atStart => exact ⟨0, Nat.zero_le _, rfl, (fun x hx => by cases hx)⟩
  case round =>
    obtain ⟨k, hk, rfl, HP⟩ := hrel
    by_cases hlt : k < l.length
    · obtain ⟨b, off, rfl, hb, e0, es1⟩ := HV.out.atS k hlt
      by_cases h : l[k] = s
      · have HX : Hid (idxS l s = k) := idx_hit hlt HP.out (by simp [h])
        have t : (s.toList == l[k].toList) = true := by rw [h]; simp
        clear h
        go_wp2_with fail
        go_ret
        exact ⟨by rw [HX.out]; rfl, rfl⟩
      · have HX := mkHid (take_more hlt HP.out (by simp [h]))
        have t : (s.toList == l[k].toList) = false := by rw [beq_eq_false_iff_ne]; exact fun e => h (tl_inj e).symm
        clear h
        go_wp2_with fail
        go_round
        case rel => exact ⟨k + 1, by omega, by go_num, HX.out⟩
        case measure => simp [intOf]; omega
    · have HX : Hid (idxS l s = -1) := idx_none (by have := HP.out; rwa [List.take_of_length_le (by omega)] at this)
      go_wp2_with fail
      go_ret
      exact ⟨by rw [HX.out]; rfl, rfl⟩
set_option maxHeartbeats 1000000 in
theorem indexInt_any (w : World) (M : Nat → Prop) (v : Value) (l : List Nat) (n : Int) (hv : SL 1 RO M w v l) :
    Calls Tryz.prog 110 #[v, .int .i64 n] w fun r w' => r = .returned (.int .i64 (idxO l n)) ∧ w' = w := by
  have HV := mkHid hv
  obtain ⟨ao0, cl, rfl, -, hll, -⟩ := hv
  unfold maxLen at hll
  go_enter Tryz.func110, Tryz.ntmps110
  go_wp2_with fail
  go_loop [8] (fun i => ∃ k : Nat, k ≤ l.length ∧ i = .int .i64 k ∧ Hid (∀ x ∈ l.take k, decide ((x : Int) = n) = false)) (fun i => l.length - (intOf i).toNat)
  case atStart => exact ⟨0, Nat.zero_le _, rfl, (fun x hx => by cases hx)⟩
  case round =>
    obtain ⟨k, hk, rfl, HP⟩ := hrel
    by_cases hlt : k < l.length
    · obtain ⟨b, off, rfl, hb, e0⟩ := HV.out.atO k hlt
      by_cases h : (l[k] : Int) = n
      · have HX : Hid (idxO l n = k) := idx_hit hlt HP.out (by simp [h])
        have t : (n == (l[k] : Int)) = true := by rw [h]; simp
        clear h
        go_wp2_with fail
        go_ret
        exact ⟨by rw [HX.out]; rfl, rfl⟩
      · have HX := mkHid (take_more hlt HP.out (by simp [h]))
        have t : (n == (l[k] : Int)) = false := by rw [beq_eq_false_iff_ne]; exact fun e => h e.symm
        clear h
        go_wp2_with fail
        go_round
        case rel => exact ⟨k + 1, by omega, by go_num, HX.out⟩
        case measure => simp [intOf]; omega
    · have HX : Hid (idxO l n = -1) := idx_none (by have := HP.out; rwa [List.take_of_length_le (by omega)] at this)
      go_wp2_with fail
      go_ret
      exact ⟨by rw [HX.out]; rfl, rfl⟩
theorem containsInt_any (w : World) (M : Nat → Prop) (v : Value) (l : List Nat) (n : Int) (hv : SL 1 RO M w v l) :
    Calls Tryz.prog 63 #[v, .int .i64 n] w fun r w' => r = .returned (.bool (l.any fun x : Nat => decide ((x : Int) = n))) ∧ w' = w := by
  have hcc := indexInt_any w M v l n hv
  have HC := mkHid hcc
  clear hcc
  have HI := mkHid (idx_any (fun x : Nat => decide ((x : Int) = n)) l)
  obtain ⟨ao0, cl, rfl, -⟩ := hv
  go_enter Tryz.func63, Tryz.ntmps63
  go_wp2_with fail
  refine HC.out.mono ?_
  rintro r w1 ⟨rfl, rfl⟩
  go_wp2_with fail
  go_ret
  exact ⟨by rw [← HI.out]; rfl, rfl⟩
set_option maxHeartbeats 1600000 in
set_option maxRecDepth 1000000 in
theorem reverse_arr (blk off cap : Nat) (d : Array Int) (w : World) (hH : Holds encI w blk off d) (hsz : d.size ≤ 9223372036854775807) :
    Calls Tryz.prog 112 #[.slice (some ⟨blk, off, none⟩) d.size cap] w fun e w' => e = .returned (.tuple #[]) ∧ ∃ n, w' = putRow encI (Sort.ahead w n) blk off d.reverse := by
  go_enter Tryz.func112, Tryz.ntmps112
  go_wp2
  go_loopg [2, 3] d.size (fun k s2 s3 wr => ∃ (i jn : Nat) (jz : Int) (dk : Array Int) (n : Nat), s2 = .int .i64 i ∧ s3 = .int .i64 jz ∧ ((i : Int) < jz → jz = jn ∧ jn < d.size) ∧ (¬ (i : Int) < jz → ¬ i < jn) ∧ jn - i ≤ k ∧
    dk.size = d.size ∧ Aside (wr = putRow encI (Sort.ahead w n) blk off dk) ∧ reverseLoop i jn dk = reverseLoop 0 (d.size - 1) d)
  case atStart => exact ⟨0, d.size - 1, (d.size : Int) - 1, d, 0, rfl, rfl, fun h => ⟨by omega, by omega⟩, fun h => by omega, by omega, rfl, (putRow_self encI w blk off d hH).symm, rfl⟩
  case round =>
    obtain ⟨i, jn, jz, dk, n, rfl, rfl, h1, h2, hk, hds, A, heq⟩ := hrel
    have HQ := mkHid heq
    clear heq
    by_cases hlt : (i : Int) < jz
    · obtain ⟨rfl, hjn⟩ := h1 hlt
      have hij : i < jn := by omega
      have hHk : Holds encI wr blk off dk := by rw [A.out]; exact holds_putRow encI _ blk off d dk (holds_ahead encI w n blk off d hH) hds
      obtain ⟨ci, fi⟩ := hHk i (by omega)
      obtain ⟨cj, fj⟩ := hHk jn (by omega)
      have HDS := mkHid hds
      clear hHk h1 h2 hds
      have hjn0 : (0 : Int) ≤ jn := by omega
      have hjl : (jn : Int) < d.size := by omega
      have hi0 : (0 : Int) ≤ i := by omega
      have hil : (i : Int) < d.size := by omega
      go_wp2_with fail
      go_region
      all_goals
        go_wp2
        go_roundg (jn - 1 - (i + 1))
        case measure => omega
        case rel =>
          have heq := HQ.out
          have hds := HDS.out
          rw [reverseLoop, if_pos hij] at heq
          exact ⟨i + 1, jn - 1, (jn : Int) - 1, swp dk i jn, n + 1, by simp, rfl, fun h => ⟨by omega, by omega⟩, fun h => by omega, Nat.le_refl _, by rw [size_swp]; exact hds,
            swap_world encI (by omega) (by omega) A.out (by first | rfl | simp [encI, getElem!_pos, show jn < dk.size by omega]) (by first | rfl | simp [encI, getElem!_pos, show i < dk.size by omega]), heq⟩
    · have hnot := h2 hlt
      go_wp2
      go_end0
      refine ⟨rfl, n, ?_⟩
      have heq := HQ.out
      rw [reverseLoop, if_neg hnot] at heq
      rw [← Lib.reverseLoop_reverse, ← heq]
      exact A.out
end Go.Proofs.YtfibgdcpbkaaoaaGreatDoor
/- The contract of a web's method that makes a class's line. -/
namespace Go.Proofs.YtfibgdcpbkaaoaaGreatDoor
open Go.RowKit Go.Sort
theorem Tryz.infoInt : (Tryz.prog.info? 3).map (fun i => (i.zero, i.size, i.bytes)) = some (some (.int .i64 0), 1, 8) := by kernel_rfl
theorem own_shape {w : World} {B e n len : Nat} {v : Value} {xs : List Value} (h : w.ownsRow B e n v len xs) : ∃ a c, v = .slice a len c := by
  rcases h.2 with ⟨rfl, rfl⟩ | ⟨g, cap, cur, rfl, _⟩
  · exact ⟨_, _, rfl⟩
  · exact ⟨_, _, rfl⟩
def ints (ns : List Nat) : List Value := ns.map fun x : Nat => Value.int .i64 (x : Int)
theorem heap_putRow (w : World) (g n : Nat) (d : Array Int) (k : Nat) (hk : k ≠ g) : (putRow encI (Sort.ahead w n) g 0 d).heap[k]? = w.heap[k]? := by
  show (w.heap.modify g _)[k]? = _
  rw [Array.getElem?_modify, if_neg (fun e => hk e.symm)]
theorem heap_putRow_own (w : World) (g n t : Nat) (d : Array Int) (cur : Array Value) (fr : Nat × Nat) (h : w.heap[g]? = some (.cells cur t fr)) : ∃ cur', (putRow encI (Sort.ahead w n) g 0 d).heap[g]? = some (.cells cur' t fr) := by
  show ∃ cur', (w.heap.modify g _)[g]? = _
  rw [Array.getElem?_modify, if_pos rfl, h]
  exact ⟨_, rfl⟩
theorem reverse_any (w : World) (B g cap : Nat) (ns : List Nat) (hl : ns.length ≤ 100) (hown : w.ownsRow B 3 1 (.slice (some ⟨g, 0, none⟩) ns.length cap) ns.length (ints ns)) :
    Calls Tryz.prog 112 #[.slice (some ⟨g, 0, none⟩) ns.length cap] w fun e w' => e = .returned (.tuple #[]) ∧ w.grownBy w' (some g) ∧ SL 1 RO (MT B [3] w') w' (.slice (some ⟨g, 0, none⟩) ns.length cap) ns.reverse := by
  have hsz : (ns.map fun x : Nat => (x : Int)).toArray.size = ns.length := by simp
  obtain ⟨cur, hb, hBg, hcap⟩ : ∃ cur, w.heap[g]? = some (.cells cur 3 (0, 0)) ∧ B ≤ g ∧ ns.length ≤ cap := by
    rcases hown.2 with ⟨e, _⟩ | ⟨g', cap', cur, e, hBg, hb, hc, _⟩
    · cases e
    · cases e
      exact ⟨cur, hb, hBg, hc⟩
  have hlt : g < w.heap.size := (Array.getElem?_eq_some_iff.1 hb).1
  have hH : Holds encI w g 0 (ns.map fun x : Nat => (x : Int)).toArray := by
    intro j hj
    rw [hsz] at hj
    refine ⟨?_, by simp [World.frozen?, hb]⟩
    rw [Nat.zero_add, hown.cellAt j (by omega)]
    simp [ints, encI, getElem!_pos, hj]
  have h := reverse_arr g 0 cap (ns.map fun x : Nat => (x : Int)).toArray w hH (by rw [hsz]; omega)
  rw [hsz] at h
  refine h.mono ?_
  rintro e w' ⟨rfl, n, rfl⟩
  obtain ⟨cur', hb'⟩ := heap_putRow_own w g n 3 (ns.map fun x : Nat => (x : Int)).toArray.reverse cur (0, 0) hb
  refine ⟨rfl, ⟨rfl, rfl, rfl, by simp [putRow, mapBlock, Sort.ahead], fun k _ hk => heap_putRow w g n _ k (fun e => hk (by rw [e]))⟩, ?_⟩
  have hH' := holds_putRow encI (Sort.ahead w n) g 0 _ (ns.map fun x : Nat => (x : Int)).toArray.reverse (holds_ahead encI w n g 0 _ hH) (by simp)
  refine ⟨some ⟨g, 0, none⟩, cap, by simp, by simpa using hcap, by unfold maxLen; simp; omega, fun k hk => ?_⟩
  have hk' : k < ns.length := by simpa using hk
  refine ⟨g, 0, [.int .i64 (ns.reverse[k] : Nat)], rfl, ⟨hBg, cur', _, _, hb', by simp⟩, (Array.getElem?_eq_some_iff.1 hb').1, rfl, fun j hj => ?_, rfl⟩
  have hj0 : j = 0 := by omega
  subst hj0
  have := (hH' k (by simp; omega)).1
  simp only [Nat.zero_add, Nat.mul_one, Nat.add_zero] at this ⊢
  rw [this]
  simp [encI, getElem!_pos, hk']
theorem sup_bd (l : List ClassD) (n : Nat) : -1 ≤ supAt l n ∧ supAt l n < l.length := num_le _ _
theorem climb_end {l : List ClassD} {m : Int} (hm : ¬ 0 ≤ m) : ∀ f, climb l f m = []
  | 0 => rfl
  | f + 1 => by rw [climb, if_neg hm]
theorem climb_go {l : List ClassD} {m : Int} (f : Nat) (hm : 0 ≤ m) : climb l (f + 1) m = m.toNat :: climb l f (supAt l m.toNat) := by rw [climb, if_pos hm]
set_option maxHeartbeats 4000000 in
theorem line_any (w : World) (B b : Nat) (l : List ClassD) (n : Nat) (hn : n < l.length) (ao : Option Addr) (cl : Nat) (vS : Value) (c0 : w.cell? ⟨b, 0, none⟩ = some (.slice ao l.length cl)) (c1 : w.cell? ⟨b, 1, none⟩ = some vS)
    (sS : SL 1 RI (· < B) w vS ((List.range l.length).map (supAt l))) (hB : B ≤ w.heap.size) (hN : l.length ≤ 10) :
    Calls Tryz.prog 67 #[.pointer (some ⟨b, 0, none⟩), .int .i64 n] w fun r w' => Below w.heap.size w w' ∧ ∃ v, r = .returned v ∧ SL 1 RO (MT w.heap.size [3] w') w' v (lineOf l n) := by
  obtain ⟨iI, hiI, hzI0, hzI1, hzI2⟩ := info_parts Tryz.infoInt
  have hbl : b < w.heap.size := World.block_lt_of_cell? w _ c0
  have HLS : Hid (∀ k, k < l.length → ∀ (h : k < ((List.range l.length).map (supAt l)).length), ((List.range l.length).map (supAt l))[k] = supAt l k) := fun k _ h => by simp
  have hlen : ((List.range l.length).map (supAt l)).length = l.length := by simp
  have HLEN := mkHid hlen
  clear hlen
  generalize (List.range l.length).map (supAt l) = LS at *
  have HS := mkHid sS
  obtain ⟨aS, cS, rfl, -⟩ := sS
  rw [HLEN.out] at c1
  have HCL : Hid (lineOf l n = (climb l (l.length + 1) n).reverse) := rfl
  go_enter Tryz.func67, Tryz.ntmps67
  go_wp2_with fail
  go_loopg [5, 6] (l.length + 1) (fun f v i wr => ∃ (acc : List Nat) (m : Int), i = .int .i64 m ∧ -1 ≤ m ∧ m < l.length ∧ acc.length + f = l.length + 1 ∧ Hid (climb l (l.length + 1) n = acc ++ climb l f m) ∧ Hid (acc = [] → m = n) ∧ wr.ownsRow w.heap.size 3 1 v acc.length (ints acc) ∧ Below w.heap.size w wr)
  case atStart => exact ⟨[], n, rfl, by omega, by omega, by simp, rfl, fun _ => rfl, World.ownsRow_nil _ _ _ _, Below.refl _ _⟩
  case round =>
    rename Nat => f
    obtain ⟨acc, m, rfl, hm1, hm2, hf, HP, HE, hown, hBr⟩ := hrel
    obtain ⟨a5, c5, rfl⟩ := own_shape hown
    have d0 : wr.cell? ⟨b, 0, none⟩ = some (.slice ao l.length cl) := (hBr.cell (p := ⟨b, 0, none⟩) hbl).trans c0
    have hsr := hBr.size
    by_cases h0 : 0 ≤ m ∧ 0 < f
    · obtain ⟨h0, hf0⟩ := h0
      obtain ⟨f', rfl⟩ : ∃ f', f = f' + 1 := ⟨f - 1, by omega⟩
      have hal : (acc.length : Int) ≤ l.length := by omega
      have HOW := mkHid hown
      have HBB : Hid (acc.length + 1 ≤ maxLen ∧ (acc.length + 1) * 8 ≤ 140737488355328 ∧ w.heap.size ≤ (wr.alloc (.cells #[.int .i64 m] 3)).heap.size) := ⟨by unfold maxLen; omega, by omega, by simp; omega⟩
      go_wp2_with (at_builtin; refine wpList_append_lies _ rfl _ _ 24 rfl w.heap.size 3 iI (.int .i64 0) 1 8 Tryz.underlying24 hiI hzI0 hzI1 hzI2 rfl (by decide) (.slice a5 acc.length c5) acc.length (ints acc) rfl (HOW.out.alloc _) ⟨wr.heap.size, 0, none⟩ 1 1 [.int .i64 m] rfl rfl (World.news_of_block (heap_alloc_new wr _)) (by intro u hu; simp at hu; subst hu; rfl) (by omega) HBB.out.1 HBB.out.2.1 HBB.out.2.2 _ rfl ?_)
      intro g cap w1 hown1 hgr1 hat1 hlt1
      have hrb : ∀ k, (Value.slice a5 acc.length c5).ownBlock = some k → w.heap.size ≤ k := fun k e => (HOW.out.lt k e).1
      have hB1 : Below w.heap.size w w1 := (hBr.alloc hsr _).grown hgr1 (by simp; omega) (fun k e => hrb k e)
      have f1 : w1.cell? ⟨b, 1, none⟩ = some (.slice aS l.length cS) := (hB1.cell (p := ⟨b, 1, none⟩) hbl).trans c1
      obtain ⟨mn, rfl⟩ := Int.eq_ofNat_of_zero_le h0
      have hmn : mn < l.length := by omega
      have hmL : mn < LS.length := by rw [HLEN.out]; exact hmn
      obtain ⟨bs, os, rfl, hbs, es⟩ := (HS.out.keptI (Kp.below (hB1.mono hB))).atI mn hmL
      rw [HLS.out mn hmn hmL] at es
      have HX := mkHid (And.intro hown1 hB1)
      have hi0 : (0 : Int) ≤ mn := by omega
      have hi1 : (mn : Int) < l.length := by omega
      clear hown1 hgr1 hat1 hrb hown d0 hBr hB1
      go_wp2_with fail
      go_roundg f'
      case measure => omega
      case rel =>
        obtain ⟨hown1, hB1⟩ := HX.out
        have hsb := sup_bd l mn
        refine ⟨acc ++ [mn], supAt l mn, rfl, hsb.1, hsb.2, by simp; omega, ?_, ?_, ?_, hB1⟩
        · show _ = _
          rw [HP.out, climb_go f' (by omega)]
          simp
        · exact fun e => by simp at e
        · rw [List.length_append]
          have : ints (acc ++ [mn]) = ints acc ++ [.int .i64 (mn : Int)] := by simp [ints]
          rw [this]
          exact hown1
    · have hne : acc ≠ [] := fun e => by
        have := HE.out e
        subst e
        simp at hf
        omega
      have HA : Hid (climb l (l.length + 1) n = acc) := by
        show _ = _
        rw [HP.out]
        by_cases hm : 0 ≤ m
        · have : f = 0 := by omega
          subst this
          simp [climb]
        · rw [climb_end hm]
          simp
      have hg : a5 = none → False := by
        intro e
        subst e
        rcases hown.2 with ⟨e, h⟩ | ⟨g, _, _, e, _⟩
        · exact hne (List.eq_nil_of_length_eq_zero h)
        · cases e
      obtain ⟨g, hg5, hgw⟩ : ∃ g, a5 = some ⟨g, 0, none⟩ ∧ w.heap.size ≤ g := by
        rcases hown.2 with ⟨e, h⟩ | ⟨g, _, _, e, h, _⟩
        · exact (hg (Value.slice.inj e).1).elim
        · exact ⟨g, (Value.slice.inj e).1, h⟩
      subst hg5
      have HOW := mkHid hown
      have HBr := mkHid hBr
      have hl100 : acc.length ≤ 100 := by omega
      clear hown hg hne hBr
      by_cases hm : 0 ≤ m
      · have hal : ¬ (acc.length : Int) ≤ l.length := by omega
        clear h0
        go_wp2_with fail
        refine (reverse_any _ w.heap.size g c5 acc hl100 HOW.out).mono ?_
        rintro r w2 ⟨rfl, hg2, sv⟩
        have HB2 := mkHid (HBr.out.grown hg2 HBr.out.size (fun k e => by cases e; exact hgw))
        have SV := mkHid sv
        clear hg2 sv
        go_wp2_with fail
        go_ret
        exact ⟨HB2.out, _, rfl, by rw [HCL.out, HA.out]; exact SV.out⟩
      · clear h0
        go_wp2_with fail
        refine (reverse_any _ w.heap.size g c5 acc hl100 HOW.out).mono ?_
        rintro r w2 ⟨rfl, hg2, sv⟩
        have HB2 := mkHid (HBr.out.grown hg2 HBr.out.size (fun k e => by cases e; exact hgw))
        have SV := mkHid sv
        clear hg2 sv
        go_wp2_with fail
        go_ret
        exact ⟨HB2.out, _, rfl, by rw [HCL.out, HA.out]; exact SV.out⟩
end Go.Proofs.YtfibgdcpbkaaoaaGreatDoor
/- 'append' of nothing. -/
namespace Go.Proofs.YtfibgdcpbkaaoaaGreatDoor
open Go Go.RowKit
theorem run_append_none {P : Program} (w : World) (t ty e : TypeId) (i : TypeInfo) (ht : P.underlying t = some (.slice e)) (hi : P.info? e = some i) (a : Option Addr) (n c : Nat) (hn : n ≤ c) (ha : a = none ∨ ∃ g, a = some ⟨g, 0, none⟩) (x : Option Addr) (cx : Nat) :
    (Builtin.append_ #[t, t] ty #[.slice a n c, .slice x 0 cx]).run P w = .ok (.slice a n c) w := by
  have hs : Src P i.size t (.slice x 0 cx) 0 [] w := by
    cases x with
    | none => exact Src.ofNil w ht cx
    | some ad => exact Src.ofSlice w ht ad 0 cx [] (by simp) (fun j u h => by simp at h) (fun u h => by cases h)
  rcases ha with rfl | ⟨g, rfl⟩
  · simp [Builtin.append_, run_underlying ht, sizeOf, typeInfo, hi, hs.len, hn, hs.cells]
  · have := run_append_room_src w t t ty e i ht hi g 0 n c (.slice x 0 cx) 0 [] hs (by omega) (fun j h => by cases h) (fun j h => by cases h)
    rw [this]
    rfl
theorem wpList_append_none {P : Program} (w : World) {ops : Array Oper} {rest : List Oper} {o : Oper} {a : Act} {Q : Exit → Act → World → Prop} (hgd : o.guard = none) (s x : Operand) (t : TypeId)
    (ho : o.op = .call { callee := .builtin .append, args := #[s, x], argTypes := #[t, t] }) (e : TypeId) (i : TypeInfo) (ht : P.underlying t = some (.slice e)) (hi : P.info? e = some i)
    (ad : Option Addr) (n c : Nat) (hs : a.eval s = .slice ad n c) (hn : n ≤ c) (ha : ad = none ∨ ∃ g, ad = some ⟨g, 0, none⟩) (xa : Option Addr) (cx : Nat) (hx : a.eval x = .slice xa 0 cx)
    (h : wpList P ops Q rest (a.put o.dst (.slice ad n c)) w) : wpList P ops Q (o :: rest) a w := by
  refine wpList_plain hgd fun K hK => ?_
  have hr := run_append_none (P := P) w t o.type e i ht hi ad n c hn ha xa cx
  unfold Oper.wp execOp
  simp only [ho, resolve, invoke, builtin, Sem.run_bind, Sem.run_pure, Result.andThen_ok, List.map_toArray, List.map_cons, List.map_nil, hs, hx, hr]
  exact hK _ _ h
theorem own_app {w : World} {B e n len : Nat} {a : Option Addr} {c : Nat} {xs : List Value} (h : w.ownsRow B e n (.slice a len c) len xs) : len ≤ c ∧ (a = none ∨ ∃ g, a = some ⟨g, 0, none⟩) := by
  rcases h.2 with ⟨e, h0⟩ | ⟨g, cap, cur, e, _, _, hc, _⟩
  · exact ⟨by omega, Or.inl (Value.slice.inj e).1⟩
  · obtain ⟨e1, _, e3⟩ := Value.slice.inj e
    exact ⟨by omega, Or.inr ⟨g, e1⟩⟩
end Go.Proofs.YtfibgdcpbkaaoaaGreatDoor
/- Boxes of a call (as in Bx). -/
namespace Go.Proofs.YtfibgdcpbkaaoaaGreatDoor
open Go.RowKit Go.Maps
theorem box_step {w W : World} {s : Nat} (hB : Below w.heap.size w W) (hs : W.heap.size = s) (c : Array Value) (t : Nat) : ∃ W0, W0 = W.alloc (.cells c t) ∧ Below w.heap.size w W0 ∧ W0.heap.size = s + 1 ∧ W0.heap[s]? = some (.cells c t (0, 0)) ∧ ∀ (b : Nat) (ob : Obj), W.heap[b]? = some ob → W0.heap[b]? = some ob := by
  have hb : Below W.heap.size W (W.alloc (.cells c t)) := (Below.refl _ _).alloc (Nat.le_refl _) _
  refine ⟨_, rfl, hB.trans (hb.mono hB.size), by rw [← hs]; simp, by rw [← hs]; exact heap_alloc_new W _, fun b ob e => (hb.block b ?_).trans e⟩
  rcases Nat.lt_or_ge b W.heap.size with hlt | hge
  · exact hlt
  · rw [Array.getElem?_eq_none hge] at e; cases e
theorem boxes1 (w : World) (c0 : Array Value) (t0 : Nat) : ∃ W0, W0 = (w.alloc (.cells c0 t0)) ∧ Below w.heap.size w W0 ∧ W0.heap.size = w.heap.size + 1 ∧ W0.heap[w.heap.size]? = some (.cells c0 t0 (0, 0)) := by
  obtain ⟨W0, h0, hB0, hs0, k, -⟩ := box_step (Below.refl w.heap.size w) rfl c0 t0
  exact ⟨W0, h0, hB0, hs0, k⟩
theorem boxes2 (w : World) (c0 c1 : Array Value) (t0 t1 : Nat) : ∃ W0, W0 = ((w.alloc (.cells c0 t0)).alloc (.cells c1 t1)) ∧ Below w.heap.size w W0 ∧ W0.heap.size = w.heap.size + 1 + 1 ∧ W0.heap[w.heap.size]? = some (.cells c0 t0 (0, 0)) ∧ W0.heap[w.heap.size + 1]? = some (.cells c1 t1 (0, 0)) := by
  obtain ⟨W, hW, hB, hs, k0⟩ := boxes1 w c0 t0
  obtain ⟨W0, h0, hB0, hs0, k, hk⟩ := box_step hB hs c1 t1
  exact ⟨W0, by rw [h0, hW], hB0, hs0, hk _ _ k0, k⟩
theorem boxes3 (w : World) (c0 c1 c2 : Array Value) (t0 t1 t2 : Nat) : ∃ W0, W0 = (((w.alloc (.cells c0 t0)).alloc (.cells c1 t1)).alloc (.cells c2 t2)) ∧ Below w.heap.size w W0 ∧ W0.heap.size = w.heap.size + 1 + 1 + 1 ∧ W0.heap[w.heap.size]? = some (.cells c0 t0 (0, 0)) ∧ W0.heap[w.heap.size + 1]? = some (.cells c1 t1 (0, 0)) ∧ W0.heap[w.heap.size + 1 + 1]? = some (.cells c2 t2 (0, 0)) := by
  obtain ⟨W, hW, hB, hs, k0, k1⟩ := boxes2 w c0 c1 t0 t1
  obtain ⟨W0, h0, hB0, hs0, k, hk⟩ := box_step hB hs c2 t2
  exact ⟨W0, by rw [h0, hW], hB0, hs0, hk _ _ k0, hk _ _ k1, k⟩
theorem boxes4 (w : World) (c0 c1 c2 c3 : Array Value) (t0 t1 t2 t3 : Nat) : ∃ W0, W0 = ((((w.alloc (.cells c0 t0)).alloc (.cells c1 t1)).alloc (.cells c2 t2)).alloc (.cells c3 t3)) ∧ Below w.heap.size w W0 ∧ W0.heap.size = w.heap.size + 1 + 1 + 1 + 1 ∧ W0.heap[w.heap.size]? = some (.cells c0 t0 (0, 0)) ∧ W0.heap[w.heap.size + 1]? = some (.cells c1 t1 (0, 0)) ∧ W0.heap[w.heap.size + 1 + 1]? = some (.cells c2 t2 (0, 0)) ∧ W0.heap[w.heap.size + 1 + 1 + 1]? = some (.cells c3 t3 (0, 0)) := by
  obtain ⟨W, hW, hB, hs, k0, k1, k2⟩ := boxes3 w c0 c1 c2 t0 t1 t2
  obtain ⟨W0, h0, hB0, hs0, k, hk⟩ := box_step hB hs c3 t3
  exact ⟨W0, by rw [h0, hW], hB0, hs0, hk _ _ k0, hk _ _ k1, hk _ _ k2, k⟩
end Go.Proofs.YtfibgdcpbkaaoaaGreatDoor
/- The contract of a web's method that makes all fields of a class. -/
namespace Go.Proofs.YtfibgdcpbkaaoaaGreatDoor
open Go.RowKit Go.Sort
theorem Tryz.infoFieldL : (Tryz.prog.info? 84).map (fun i => (i.zero, i.size, i.bytes)) = some (some (.agg #[.string ⟨#[]⟩, .int .i64 0, .string ⟨#[]⟩]), 3, 40) := by kernel_rfl
theorem climb_lt (l : List ClassD) : ∀ (f : Nat) (m : Int), m < l.length → ∀ k ∈ climb l f m, k < l.length
  | 0, _, _, k, hk => by cases hk
  | f + 1, m, hm, k, hk => by
    unfold climb at hk
    split at hk
    · rcases List.mem_cons.1 hk with rfl | hk
      · omega
      · exact climb_lt l f _ (sup_bd l _).2 k hk
    · cases hk
theorem climb_len (l : List ClassD) : ∀ (f : Nat) (m : Int), (climb l f m).length ≤ f
  | 0, _ => by simp [climb]
  | f + 1, m => by
    unfold climb
    split
    · have := climb_len l f (supAt l m.toNat)
      simp
      omega
    · simp
theorem line_lt {l : List ClassD} {n : Nat} (hn : n < l.length) : ∀ k ∈ lineOf l n, k < l.length := fun k hk => climb_lt l _ n (by omega) k (by simpa [lineOf] using hk)
theorem line_len (l : List ClassD) (n : Nat) : (lineOf l n).length ≤ l.length + 1 := by
  rw [lineOf, List.length_reverse]
  exact climb_len l _ _
def fcells (f : FieldD) : List Value := [.string f.name, .int .i64 f.kind.kind, .string f.kind.cls]
theorem addr_add (b off j : Nat) : (⟨b, off, none⟩ : Addr).add j = ⟨b, off + j, none⟩ := by unfold Addr.add; split <;> simp_all
theorem news_of {α : Type} {n : Nat} {R : (Nat → Prop) → World → List Value → α → Prop} {M : Nat → Prop} {w : World} {b off len cap : Nat} {l : List α} (f : α → List Value) (hn : 0 < n) (hf : ∀ x ∈ l, (f x).length = n) (hR : ∀ cs x, R M w cs x → cs = f x)
    (h : SL n R M w (.slice (some ⟨b, off, none⟩) len cap) l) : ∀ j u, (l.flatMap f)[j]? = some u → w.cell? ((⟨b, off, none⟩ : Addr).add j) = some u := by
  intro j u hu
  have hlen : (l.flatMap f).length = l.length * n := by
    clear h hR hu
    induction l with
    | nil => simp
    | cons x l ih =>
      rw [List.flatMap_cons, List.length_append, ih (fun y hy => hf y (by simp [hy])), hf x (by simp), List.length_cons, Nat.add_mul]
      omega
  have hj : j < l.length * n := by rw [← hlen]; exact (List.getElem?_eq_some_iff.1 hu).1
  have hq : j / n < l.length := Nat.div_lt_of_lt_mul (by rw [Nat.mul_comm]; exact hj)
  have hr : j % n < n := Nat.mod_lt _ hn
  have hjd : j / n * n + j % n = j := by rw [Nat.mul_comm]; exact Nat.div_add_mod j n
  obtain ⟨b', off', cs, e, _, _, _, hc, hr'⟩ := h.at (j / n) hq
  cases e
  have hcs := hR _ _ hr'
  rw [← hjd, flat_get f l (j / n) (j % n) hf hq hr] at hu
  have := hc (j % n) hr
  rw [hcs, hu] at this
  rw [addr_add, ← hjd, ← Nat.add_assoc]
  exact this
theorem flat_lenL {l : List FieldD} : (l.flatMap fcells).length = l.length * 3 := by
  induction l with
  | nil => rfl
  | cons x l ih => rw [List.flatMap_cons, List.length_append, ih, List.length_cons]; simp [fcells]; omega
theorem one_fcells (l : List FieldD) : ∀ u ∈ l.flatMap fcells, u.oneCell' = true := by
  intro u hu
  obtain ⟨f, _, hu⟩ := List.mem_flatMap.1 hu
  simp [fcells] at hu
  rcases hu with rfl | rfl | rfl <;> rfl
set_option maxHeartbeats 4000000 in
theorem fieldsOf_any (w : World) (B b : Nat) (l : List ClassD) (n : Nat) (hn : n < l.length) (ao : Option Addr) (cl : Nat) (c0 : w.cell? ⟨b, 0, none⟩ = some (.slice ao l.length cl)) (sC : SL 4 RC (· < B) w (.slice ao l.length cl) l)
    (vL : Value) (LL : List (List Nat)) (c6 : w.cell? ⟨b, 6, none⟩ = some vL) (sL : SL 1 (RSl 1 RO) (MT B [3, 24] w) w vL LL) (hnL : n < LL.length) (hLL : LL[n] = lineOf l n) (hB : B ≤ w.heap.size) (hN : l.length ≤ 10) (hF : ∀ c ∈ l, c.fields.length ≤ 6) :
    Calls Tryz.prog 68 #[.pointer (some ⟨b, 0, none⟩), .int .i64 n] w fun r w' => Below w.heap.size w w' ∧ ∃ v, r = .returned v ∧ SL 3 RF (MT w.heap.size [84] w') w' v (fieldsOf l n) := by
  obtain ⟨iF, hiF, hzF0, hzF1, hzF2⟩ := info_parts Tryz.infoFieldL
  have hbl : b < w.heap.size := World.block_lt_of_cell? w _ c0
  have HLL := mkHid hLL
  have HC := mkHid sC
  have sL' := sL
  obtain ⟨aL, cL, rfl, -⟩ := sL'
  obtain ⟨bL, oL, aI, cI, rfl, hbL, eL, sI⟩ := sL.atSl n hnL
  rw [HLL.out] at eL sI
  have hkL := line_lt hn
  have hlL := line_len l n
  have HFO : Hid (fieldsOf l n = (lineOf l n).flatMap fun k => (clsAt l k).fields) := rfl
  generalize lineOf l n = ln at *
  have HI := mkHid sI
  have HK := mkHid hkL
  have HFF := mkHid hF
  have hn0 : (0 : Int) ≤ n := by omega
  have hn1 : (n : Int) < LL.length := by omega
  clear sC sL sI hLL hkL hF
  go_enter Tryz.func68, Tryz.ntmps68
  go_wp2_with fail
  go_loopw [5, 16] (fun v i wr => ∃ (k : Nat) (fs : List FieldD), k ≤ ln.length ∧ i = .int .i64 k ∧ Hid (fs = (ln.take k).flatMap fun k => (clsAt l k).fields) ∧ fs.length ≤ 6 * k ∧ Hid (∀ f ∈ fs, f.name.size ≤ maxLen ∧ f.kind.cls.size ≤ maxLen) ∧ wr.ownsRow w.heap.size 84 3 v fs.length (fs.flatMap fcells) ∧ Below w.heap.size w wr) (fun _ i _ => ln.length - (intOf i).toNat)
  case atStart => exact ⟨0, [], Nat.zero_le _, rfl, rfl, by simp, (fun f hf => by cases hf), World.ownsRow_nil _ _ _ _, Below.refl _ _⟩
  case round =>
    obtain ⟨k, fs, hk, rfl, HP, hfl, HSZ, hown, hBr⟩ := hrel
    obtain ⟨a5, c5, rfl⟩ := own_shape hown
    have hsr := hBr.size
    by_cases hlt : k < ln.length
    · obtain ⟨bi, oi, rfl, hbi, ei⟩ := HI.out.atO k hlt
      have ei' := (hBr.cell (p := ⟨bi, oi + k, none⟩) hbi).trans ei
      have hmk := HK.out ln[k] (List.getElem_mem hlt)
      have d0 : wr.cell? ⟨b, 0, none⟩ = some (.slice ao l.length cl) := (hBr.cell (p := ⟨b, 0, none⟩) hbl).trans c0
      obtain ⟨bc, oc, vf, vm, rfl, hbc, e0, e1, e2, e3, ef, em, es1, es2⟩ := (HC.out.keptC (Kp.below (hBr.mono hB))).atC ln[k] hmk
      have hcf := HFF.out l[ln[k]] (List.getElem_mem hmk)
      have HCA : Hid (clsAt l ln[k] = l[ln[k]]) := clsAt_eq hmk
      obtain ⟨m, hm⟩ : ∃ m, m = ln[k] := ⟨_, rfl⟩
      have HM := mkHid hm
      generalize hcc : l[ln[k]] = cc at *
      clear hcc
      rw [← hm] at ei' e0 e1 e2 e3 hmk
      have hm0 : (0 : Int) ≤ m := by omega
      have hm1 : (m : Int) < l.length := by omega
      have EF := mkHid ef
      obtain ⟨fo, cf, rfl, -⟩ := ef
      have HOW := mkHid hown
      have hszF : ∀ f ∈ cc.fields, f.name.size ≤ maxLen ∧ f.kind.cls.size ≤ maxLen := by
        intro f hf
        obtain ⟨q, hq, rfl⟩ := List.getElem_of_mem hf
        obtain ⟨_, _, _, _, _, _, _, h1, h2⟩ := EF.out.atF q hq
        exact ⟨h1, h2⟩
      have HSF := mkHid hszF
      have HNX : Hid ((ln.take (k + 1)).flatMap (fun k => (clsAt l k).fields) = fs ++ cc.fields) := by
        show _ = _
        rw [List.take_succ_eq_append_getElem hlt, List.flatMap_append, ← HP.out]
        simp [HCA.out]
      clear hm ei hszF
      by_cases h0 : cc.fields = []
      · have HNE := mkHid h0
        rw [h0] at e2
        clear h0
        obtain ⟨hc5, ha5⟩ := own_app hown
        go_wp2_with (at_builtin; refine wpList_append_none _ rfl _ _ 34 rfl 84 iF Tryz.underlying34 hiF a5 fs.length c5 rfl hc5 ha5 fo cf rfl ?_)
        clear ha5 hc5
        go_wp2_with fail
        go_roundw
        case rel => exact ⟨k + 1, fs, by omega, by go_num, by show _ = _; have := HNX.out; rw [HNE.out, List.append_nil] at this; exact this.symm, by omega, HSZ.out, HOW.out, hBr⟩
        case measure => simp [intOf]; omega
      · have hpos : 0 < cc.fields.length := List.length_pos_iff.2 h0
        obtain ⟨bf, of, hfo⟩ : ∃ bf of, fo = some ⟨bf, of, none⟩ := by
          obtain ⟨bf, of, e, _⟩ := EF.out.atF 0 hpos
          exact ⟨bf, of, e⟩
        subst hfo
        have HNEWS : Hid (∀ j u, (cc.fields.flatMap fcells)[j]? = some u → wr.cell? ((⟨bf, of, none⟩ : Addr).add j) = some u) := news_of fcells (by decide) (fun x _ => rfl) (fun _ _ h => h.1) EF.out
        have HBB : Hid (fs.length + cc.fields.length ≤ maxLen ∧ (fs.length + cc.fields.length) * 40 ≤ 140737488355328) := ⟨by unfold maxLen; omega, by omega⟩
        clear h0
        go_wp2_with (at_builtin; refine wpList_append_lies _ rfl _ _ 34 rfl w.heap.size 84 iF (.agg #[.string ⟨#[]⟩, .int .i64 0, .string ⟨#[]⟩]) 3 40 Tryz.underlying34 hiF hzF0 hzF1 hzF2 rfl (by decide) (.slice a5 fs.length c5) fs.length (fs.flatMap fcells) rfl HOW.out ⟨bf, of, none⟩ cc.fields.length cf (cc.fields.flatMap fcells) rfl flat_lenL HNEWS.out (one_fcells _) hpos HBB.out.1 HBB.out.2 hsr _ rfl ?_)
        intro g cap w1 hown1 hgr1 hat1 hlt1
        have HX := mkHid (And.intro hown1 (hBr.grown hgr1 hsr (fun k e => (HOW.out.lt k e).1)))
        clear hown1 hgr1 hat1 hown hBr
        go_wp2_with fail
        go_roundw
        case rel =>
          obtain ⟨hown1, hB1⟩ := HX.out
          refine ⟨k + 1, fs ++ cc.fields, by omega, by go_num, HNX.out.symm, by simp; omega, ?_, ?_, hB1⟩
          · show ∀ f ∈ _, _
            intro f hf
            rcases List.mem_append.1 hf with hf | hf
            · exact HSZ.out f hf
            · exact HSF.out f hf
          · rw [List.length_append, List.flatMap_append]
            exact hown1
        case measure => simp [intOf]; omega
    · have HX : Hid (fieldsOf l n = fs) := by
        show _ = _
        rw [HFO.out, HP.out, List.take_of_length_le (by omega)]
      have hzs : (fs.map fun f => (fcells f, f)).length = fs.length := by simp
      have hzf : (fs.map fun f => (fcells f, f)).flatMap (·.1) = fs.flatMap fcells := by rw [List.flatMap_map]
      have SV := mkHid (own_SL (n := 3) (R := RF) (T := [84]) (zs := fs.map fun f => (fcells f, f)) (by rw [hzs, hzf]; exact hown) (fun z hz => by
        obtain ⟨f, hf, rfl⟩ := List.mem_map.1 hz
        exact ⟨rfl, rfl, HSZ.out f hf⟩) (by simp) (by rw [hzs]; unfold maxLen; omega))
      clear hzs hzf hown
      go_wp2_with fail
      go_ret
      exact ⟨hBr, _, rfl, by rw [HX.out]; have := SV.out; rwa [List.map_map, show ((·.2) ∘ fun f : FieldD => (fcells f, f)) = id from rfl, List.map_id] at this⟩
end Go.Proofs.YtfibgdcpbkaaoaaGreatDoor
/- slices.Clone, at what classes hold. -/
namespace Go.Proofs.YtfibgdcpbkaaoaaGreatDoor
open Go.RowKit
theorem SL_zs {α : Type} {n : Nat} {R : (Nat → Prop) → World → List Value → α → Prop} {M : Nat → Prop} {w : World} {v : Value} {l : List α} (hn : 0 < n) (h : SL n R M w v l) :
    ∃ zs : List (List Value × α), zs.map (·.2) = l ∧ (∀ z ∈ zs, z.1.length = n ∧ R M w z.1 z.2) ∧ ∀ b off len cap, v = .slice (some ⟨b, off, none⟩) len cap → ∀ j u, (zs.flatMap (·.1))[j]? = some u → w.cell? ((⟨b, off, none⟩ : Addr).add j) = some u := by
  obtain ⟨ao, cap, hv, hc, hm, hk⟩ := h
  let cs : Fin l.length → List Value := fun k => Classical.choose (Classical.choose_spec (Classical.choose_spec (hk k.1 k.2)))
  have hcs : ∀ k : Fin l.length, ∃ b off, ao = some ⟨b, off, none⟩ ∧ M b ∧ b < w.heap.size ∧ (cs k).length = n ∧ (∀ j, j < n → w.cell? ⟨b, off + k.1 * n + j, none⟩ = (cs k)[j]?) ∧ R M w (cs k) l[k.1] := fun k =>
    ⟨_, _, Classical.choose_spec (Classical.choose_spec (Classical.choose_spec (hk k.1 k.2)))⟩
  let zs : List (List Value × α) := List.ofFn fun k : Fin l.length => (cs k, l[k.1])
  have hzl : zs.length = l.length := by simp [zs]
  have hzk : ∀ (k : Nat) (h : k < zs.length), zs[k] = (cs ⟨k, by omega⟩, l[k]'(by omega)) := fun k h => by simp [zs]
  have hz1 : ∀ z ∈ zs, z.1.length = n ∧ R M w z.1 z.2 := fun z hz => by
    obtain ⟨k, hk', rfl⟩ := List.mem_iff_getElem.1 hz
    rw [hzk k hk']
    obtain ⟨b, off, -, -, -, h1, -, h2⟩ := hcs ⟨k, by omega⟩
    exact ⟨h1, h2⟩
  refine ⟨zs, ?_, hz1, ?_⟩
  · refine List.ext_getElem (by simp [hzl]) fun k h1 h2 => ?_
    rw [List.getElem_map, hzk k (by simpa using h1)]
  · intro b off len cap' hv' j u hu
    have hfl : ∀ zs : List (List Value × α), (∀ z ∈ zs, z.1.length = n) → (zs.flatMap (·.1)).length = zs.length * n := fun zs => by
      induction zs with
      | nil => intro _; simp
      | cons x zs ih =>
        intro hf
        rw [List.flatMap_cons, List.length_append, ih (fun y hy => hf y (by simp [hy])), hf x (by simp), List.length_cons, Nat.add_mul]
        omega
    have hj : j < zs.length * n := by rw [← hfl zs fun z hz => (hz1 z hz).1]; exact (List.getElem?_eq_some_iff.1 hu).1
    have hq : j / n < zs.length := Nat.div_lt_of_lt_mul (by rw [Nat.mul_comm]; exact hj)
    have hr : j % n < n := Nat.mod_lt _ hn
    have hjd : j / n * n + j % n = j := by rw [Nat.mul_comm]; exact Nat.div_add_mod j n
    rw [← hjd, flat_get (n := n) (fun z : List Value × α => z.1) zs (j / n) (j % n) (fun z hz => (hz1 z hz).1) hq hr, hzk _ hq] at hu
    obtain ⟨b', off', e, -, -, -, hc', -⟩ := hcs ⟨j / n, by omega⟩
    rw [hv] at hv'
    rw [e] at hv'
    cases hv'
    have := hc' (j % n) hr
    rw [addr_add, ← hjd, ← Nat.add_assoc]
    exact this.trans hu
theorem zs_len {α : Type} {zs : List (List Value × α)} {n : Nat} (h : ∀ z ∈ zs, z.1.length = n) : (zs.flatMap (·.1)).length = zs.length * n := by
  induction zs with
  | nil => simp
  | cons x zs ih =>
    rw [List.flatMap_cons, List.length_append, ih (fun y hy => h y (by simp [hy])), h x (by simp), List.length_cons, Nat.add_mul]
    omega
theorem oneSL {α : Type} {n : Nat} {R : (Nat → Prop) → World → List Value → α → Prop} {M : Nat → Prop} {w : World} {v : Value} {l : List α} (h : SL n R M w v l) : v.oneCell' = true := by
  obtain ⟨ao, c, rfl, -⟩ := h
  rfl
theorem oneRK {M : Nat → Prop} {w : World} {cs : List Value} {x : KindD} (h : RK M w cs x) : ∀ u ∈ cs, u.oneCell' = true := by
  rw [h.1]; intro u hu; simp at hu; rcases hu with rfl | rfl <;> rfl
theorem oneRF {M : Nat → Prop} {w : World} {cs : List Value} {x : FieldD} (h : RF M w cs x) : ∀ u ∈ cs, u.oneCell' = true := by
  rw [h.1]; intro u hu; simp at hu; rcases hu with rfl | rfl | rfl <;> rfl
theorem oneRH {M : Nat → Prop} {w : World} {cs : List Value} {x : HandD} (h : RH M w cs x) : ∀ u ∈ cs, u.oneCell' = true := by
  rw [h.1]; intro u hu; simp at hu; rcases hu with rfl | rfl | rfl | rfl <;> rfl
theorem oneRM {M : Nat → Prop} {w : World} {cs : List Value} {x : MethD} (h : RM M w cs x) : ∀ u ∈ cs, u.oneCell' = true := by
  obtain ⟨va, vh, rfl, ha, hh, -⟩ := h
  intro u hu
  simp at hu
  rcases hu with rfl | rfl | rfl | rfl | rfl | rfl | rfl | rfl | rfl <;> first | rfl | exact oneSL ha | exact oneSL hh
theorem oneRC {M : Nat → Prop} {w : World} {cs : List Value} {x : ClassD} (h : RC M w cs x) : ∀ u ∈ cs, u.oneCell' = true := by
  obtain ⟨va, vh, rfl, ha, hh, -⟩ := h
  intro u hu
  simp at hu
  rcases hu with rfl | rfl | rfl | rfl <;> first | rfl | exact oneSL ha | exact oneSL hh
theorem own_empty (w : World) (e n : Nat) : (w.alloc (.cells #[] e)).ownsRow w.heap.size e n (.slice (some ⟨w.heap.size, 0, none⟩) 0 0) 0 [] :=
  ⟨by simp, Or.inr ⟨w.heap.size, 0, #[], rfl, Nat.le_refl _, heap_alloc_new w _, Nat.le_refl _, by unfold maxLen; omega, by simp, by simp⟩⟩
set_option maxRecDepth 100000 in
set_option maxHeartbeats 1000000 in
theorem cloneG {α : Type} {f a e : Nat} {F : Func} {q0 q1 q2 q3 q4 q5 q6 q7 : String} {x0 x1 x2 x3 x4 x5 x6 x7 : Array Edge} (hf : Tryz.prog.funcs[f]? = some F) (hn : F.ntmps = 8) (hr : F.results = #[ResultVar.tmp 2])
    (hb : F.body = some (((Code.region 0 #[⟨some 2, Op.assign (Operand.const (Value.slice none 0 0)), a, q0, x0, none⟩] false).seq (((Code.region 1 #[⟨some 3, Op.move (Operand.tmp 0), a, q1, x1, none⟩, ⟨some 4, Op.binOp BinOp.eql a (Operand.tmp 3) (Operand.const (Value.slice none 0 0)) a, 4, q2, x2, none⟩] false).seq (Code.cond (Operand.tmp 4) ((Code.region 2 #[⟨some 2, Op.assign (Operand.const (Value.slice none 0 0)), a, q3, x3, none⟩] false).seq Code.ret) Code.skip)).seq ((Code.region 3 #[⟨some 5, Op.buildSlice a 0 #[], a, q4, x4, none⟩, ⟨some 6, Op.move (Operand.tmp 0), a, q5, x5, none⟩, ⟨some 7, Op.call { callee := Callee.builtin Builtin.append, args := #[Operand.tmp 5, Operand.tmp 6], argTypes := #[a, a] }, a, q6, x6, none⟩, ⟨some 2, Op.assign (Operand.tmp 7), a, q7, x7, none⟩] false).seq Code.ret)))))
    (hund : Tryz.prog.underlying a = some (.slice e)) {Z : Value} {n by8 : Nat} (hinf : (Tryz.prog.info? e).map (fun i => (i.zero, i.size, i.bytes)) = some (some Z, n, by8)) (hZ : Z.cells.size = n) (hn0 : 0 < n) (h8 : by8 ≤ 1000)
    (hnE : ∀ (c : Nat) (w : World), (binOp BinOp.eql a (.slice none 0 c) (.slice none 0 0)).run Tryz.prog w = .ok (.bool true) w) (hnN : ∀ (d : Addr) (n c : Nat) (w : World), (binOp BinOp.eql a (.slice (some d) n c) (.slice none 0 0)).run Tryz.prog w = .ok (.bool false) w)
    {R : (Nat → Prop) → World → List Value → α → Prop} (h1c : ∀ {M w cs x}, R M w cs x → ∀ u ∈ cs, u.oneCell' = true) (w : World) (M : Nat → Prop) (v : Value) (l : List α) (hv : SL n R M w v l) (hl : l.length ≤ 100000) :
    Calls Tryz.prog f #[v] w fun r w' => Below w.heap.size w w' ∧ ∃ (v' : Value) (zs : List (List Value × α)), r = .returned v' ∧ zs.map (·.2) = l ∧ (∀ z ∈ zs, z.1.length = n ∧ R M w z.1 z.2) ∧ w'.ownsRow w.heap.size e n v' zs.length (zs.flatMap (·.1)) := by
  obtain ⟨iI, hiI, hz0, hz1, hz2⟩ := info_parts hinf
  have hur : ∀ V, (underlying a).run Tryz.prog V = .ok (.slice e) V := run_underlying hund
  have hsr : ∀ V, (sizeOf e).run Tryz.prog V = .ok n V := fun V => by simp [sizeOf, typeInfo, hiI, hz1, Sem.run_bind]
  obtain ⟨zs, hzm, hzR, hzc⟩ := SL_zs hn0 hv
  have hzl : zs.length = l.length := by rw [← hzm, List.length_map]
  have HLim := mkHid hl
  clear hl
  have HM := mkHid hzm
  have HR := mkHid hzR
  have HB0 := mkHid (fun o => (Below.refl w.heap.size w).alloc (Nat.le_refl _) o)
  obtain ⟨ao, cl, rfl, -, -, hel⟩ := hv
  cases ao with
  | none =>
    have hl0 : l = [] := by
      cases l with
      | nil => rfl
      | cons x l => obtain ⟨b, off, cs, e9, -⟩ := hel 0 (by simp); cases e9
    subst hl0
    have hz0' : zs = [] := List.eq_nil_of_length_eq_zero (by simpa using hzl)
    subst hz0'
    clear hel hzc hzm hzR hzl
    refine calls_of_wp hf hb ?_
    simp only [hn, List.size_toArray, List.length_cons, List.length_nil, Nat.reduceAdd, Nat.reduceSub, Array.replicate_succ, Array.replicate_zero, List.push_toArray, List.append_toArray, List.nil_append, List.cons_append]
    go_wp2_with fail
    refine bodyPost_ret (results_tmp hr _ _ _) rfl ?_
    exact ⟨Below.refl _ _, _, [], rfl, rfl, (fun z hz => by cases hz), World.ownsRow_nil _ _ _ _⟩
  | some ad =>
    cases l with
    | nil =>
      have hz0' : zs = [] := List.eq_nil_of_length_eq_zero (by simpa using hzl)
      subst hz0'
      have HE := mkHid (own_empty w e n)
      clear hel hzc hzm hzR hzl
      refine calls_of_wp hf hb ?_
      simp only [hn, List.size_toArray, List.length_cons, List.length_nil, Nat.reduceAdd, Nat.reduceSub, Array.replicate_succ, Array.replicate_zero, List.push_toArray, List.append_toArray, List.nil_append, List.cons_append]
      go_wp2_with (at_builtin; refine wpList_append_none _ rfl _ _ a rfl e iI hund hiI (some ⟨w.heap.size, 0, none⟩) 0 0 rfl (Nat.le_refl _) (Or.inr ⟨_, rfl⟩) (some ad) cl rfl ?_)
      refine bodyPost_ret (results_tmp hr _ _ _) rfl ?_
      exact ⟨HB0.out _, _, [], rfl, rfl, (fun z hz => by cases hz), HE.out⟩
    | cons x l0 =>
      generalize hL : x :: l0 = l at *
      have hpos : 0 < l.length := by rw [← hL]; simp
      clear hL
      obtain ⟨b, off, cs, e9, -, hbl, -⟩ := hel 0 hpos
      cases e9
      have HC := mkHid (hzc b off _ _ rfl)
      have HLN : Hid ((zs.flatMap (·.1)).length = l.length * n) := by show _ = _; rw [zs_len fun z hz => (hzR z hz).1, hzl]
      have H1 : Hid (∀ u ∈ zs.flatMap (·.1), u.oneCell' = true) := fun u hu => by
        obtain ⟨z, hz, hu⟩ := List.mem_flatMap.1 hu
        exact h1c (hzR z hz).2 u hu
      have HZL := mkHid hzl
      have hfull : 0 < 0 + l.length := by omega
      have HBB : Hid (0 + l.length ≤ maxLen ∧ (0 + l.length) * by8 ≤ 140737488355328) := (by have hl := HLim.out; exact ⟨by unfold maxLen; omega, by rw [Nat.zero_add]; exact Nat.le_trans (Nat.mul_le_mul hl h8) (by decide)⟩)
      clear hel hzc hzm hzR hzl
      refine calls_of_wp hf hb ?_
      simp only [hn, List.size_toArray, List.length_cons, List.length_nil, Nat.reduceAdd, Nat.reduceSub, Array.replicate_succ, Array.replicate_zero, List.push_toArray, List.append_toArray, List.nil_append, List.cons_append]
      go_wp2_with (at_builtin; refine wpList_append_grows _ rfl _ _ a rfl e iI Z n by8 hund hiI hz0 hz1 hz2 hZ hn0 (some ⟨w.heap.size, 0, none⟩) 0 0 [] rfl (fun e => by cases e) (by simp) (fun _ _ j u hu => by simp at hu) ⟨b, off, none⟩ l.length cl (zs.flatMap (·.1)) rfl HLN.out (fun j u hu => by rw [addr_add]; exact (World.cell?_alloc_past _ _ _ hbl).trans (by have := HC.out j u hu; rwa [addr_add] at this)) H1.out hfull HBB.out.1 HBB.out.2 ?_; intro v9 w9 hown9 hgr9; have HO9 : Hid (w9.ownsRow w.heap.size e n v9 zs.length (zs.flatMap (·.1))) := (by have h := own_lower hown9 (B' := w.heap.size) (by simp); rw [Nat.zero_add, List.nil_append, ← HZL.out] at h; exact h); have HB9 : Hid (Below w.heap.size w w9) := (HB0.out _).grown hgr9 (by simp) (fun q e => by cases e); obtain ⟨g9, c9, e9, -⟩ := hown9.form hfull; subst e9; have HO8 : Hid (w9.ownsRow w.heap.size e n (.slice (some ⟨g9, 0, none⟩) l.length c9) zs.length (zs.flatMap (·.1))) := (by have h := HO9.out; rwa [Nat.zero_add] at h); clear hown9 hgr9 HO9)
      refine bodyPost_ret (results_tmp hr _ _ _) rfl ?_
      exact ⟨HB9.out, _, zs, rfl, HM.out, HR.out, HO8.out⟩
theorem Tryz.infoClK : (Tryz.prog.info? 40).map (fun i => (i.zero, i.size, i.bytes)) = some (some (.agg #[.int .i64 0, .string ⟨#[]⟩]), 2, 24) := by kernel_rfl
theorem cloneK_any (w : World) (M : Nat → Prop) (v : Value) (l : List KindD) (hv : SL 2 RK M w v l) (hl : l.length ≤ 100000) :
    Calls Tryz.prog 82 #[v] w fun r w' => Below w.heap.size w w' ∧ ∃ (v' : Value) (zs : List (List Value × KindD)), r = .returned v' ∧ zs.map (·.2) = l ∧ (∀ z ∈ zs, z.1.length = 2 ∧ RK M w z.1 z.2) ∧ w'.ownsRow w.heap.size 40 2 v' zs.length (zs.flatMap (·.1)) :=
  cloneG Tryz.func82 rfl rfl rfl Tryz.underlying38 Tryz.infoClK rfl (by decide) (by decide) (fun _ _ => by kernel_rfl) (fun _ _ _ _ => by kernel_rfl) oneRK w M v l hv hl
theorem Tryz.infoClH : (Tryz.prog.info? 111).map (fun i => (i.zero, i.size, i.bytes)) = some (some (.agg #[.int .i64 0, .int .i64 0, .int .i64 0, .string ⟨#[]⟩]), 4, 40) := by kernel_rfl
theorem cloneH_any (w : World) (M : Nat → Prop) (v : Value) (l : List HandD) (hv : SL 4 RH M w v l) (hl : l.length ≤ 100000) :
    Calls Tryz.prog 83 #[v] w fun r w' => Below w.heap.size w w' ∧ ∃ (v' : Value) (zs : List (List Value × HandD)), r = .returned v' ∧ zs.map (·.2) = l ∧ (∀ z ∈ zs, z.1.length = 4 ∧ RH M w z.1 z.2) ∧ w'.ownsRow w.heap.size 111 4 v' zs.length (zs.flatMap (·.1)) :=
  cloneG Tryz.func83 rfl rfl rfl Tryz.underlying41 Tryz.infoClH rfl (by decide) (by decide) (fun _ _ => by kernel_rfl) (fun _ _ _ _ => by kernel_rfl) oneRH w M v l hv hl
theorem Tryz.infoClF : (Tryz.prog.info? 84).map (fun i => (i.zero, i.size, i.bytes)) = some (some (.agg #[.string ⟨#[]⟩, .int .i64 0, .string ⟨#[]⟩]), 3, 40) := by kernel_rfl
theorem cloneF_any (w : World) (M : Nat → Prop) (v : Value) (l : List FieldD) (hv : SL 3 RF M w v l) (hl : l.length ≤ 100000) :
    Calls Tryz.prog 40 #[v] w fun r w' => Below w.heap.size w w' ∧ ∃ (v' : Value) (zs : List (List Value × FieldD)), r = .returned v' ∧ zs.map (·.2) = l ∧ (∀ z ∈ zs, z.1.length = 3 ∧ RF M w z.1 z.2) ∧ w'.ownsRow w.heap.size 84 3 v' zs.length (zs.flatMap (·.1)) :=
  cloneG Tryz.func40 rfl rfl rfl Tryz.underlying34 Tryz.infoClF rfl (by decide) (by decide) (fun _ _ => by kernel_rfl) (fun _ _ _ _ => by kernel_rfl) oneRF w M v l hv hl
theorem Tryz.infoClM : (Tryz.prog.info? 43).map (fun i => (i.zero, i.size, i.bytes)) = some (some (.agg #[.string ⟨#[]⟩, .bool false, .slice none 0 0, .int .i64 0, .string ⟨#[]⟩, .int .i64 0, .int .i64 0, .string ⟨#[]⟩, .slice none 0 0]), 9, 128) := by kernel_rfl
theorem cloneM_any (w : World) (M : Nat → Prop) (v : Value) (l : List MethD) (hv : SL 9 RM M w v l) (hl : l.length ≤ 100000) :
    Calls Tryz.prog 81 #[v] w fun r w' => Below w.heap.size w w' ∧ ∃ (v' : Value) (zs : List (List Value × MethD)), r = .returned v' ∧ zs.map (·.2) = l ∧ (∀ z ∈ zs, z.1.length = 9 ∧ RM M w z.1 z.2) ∧ w'.ownsRow w.heap.size 43 9 v' zs.length (zs.flatMap (·.1)) :=
  cloneG Tryz.func81 rfl rfl rfl Tryz.underlying35 Tryz.infoClM rfl (by decide) (by decide) (fun _ _ => by kernel_rfl) (fun _ _ _ _ => by kernel_rfl) oneRM w M v l hv hl
theorem Tryz.infoClC : (Tryz.prog.info? 37).map (fun i => (i.zero, i.size, i.bytes)) = some (some (.agg #[.string ⟨#[]⟩, .string ⟨#[]⟩, .slice none 0 0, .slice none 0 0]), 4, 80) := by kernel_rfl
theorem cloneC_any (w : World) (M : Nat → Prop) (v : Value) (l : List ClassD) (hv : SL 4 RC M w v l) (hl : l.length ≤ 100000) :
    Calls Tryz.prog 39 #[v] w fun r w' => Below w.heap.size w w' ∧ ∃ (v' : Value) (zs : List (List Value × ClassD)), r = .returned v' ∧ zs.map (·.2) = l ∧ (∀ z ∈ zs, z.1.length = 4 ∧ RC M w z.1 z.2) ∧ w'.ownsRow w.heap.size 37 4 v' zs.length (zs.flatMap (·.1)) :=
  cloneG Tryz.func39 rfl rfl rfl Tryz.underlying22 Tryz.infoClC rfl (by decide) (by decide) (fun _ _ => by kernel_rfl) (fun _ _ _ _ => by kernel_rfl) oneRC w M v l hv hl
end Go.Proofs.YtfibgdcpbkaaoaaGreatDoor
/- What spoils rows: texts are written over texts, numbers over numbers, in blocks from one on alone. -/
namespace Go.Proofs.YtfibgdcpbkaaoaaGreatDoor
open Go.RowKit
def NF (B : Nat) (w : World) (k : Nat) : Prop := B ≤ k ∧ ∃ c t, w.heap[k]? = some (.cells c t (0, 0))
theorem MT.nf {B : Nat} {T : List Nat} {w : World} {k : Nat} (h : MT B T w k) : NF B w k := by
  obtain ⟨h1, c, t, fr, h2, _, h4⟩ := h
  subst h4
  exact ⟨h1, c, t, h2⟩
theorem NF.lt {B : Nat} {w : World} {k : Nat} (h : NF B w k) : k < w.heap.size := by
  obtain ⟨_, c, t, h⟩ := h
  exact lt_of h
theorem NF.kept {B : Nat} {w w' : World} {k : Nat} (h : NF B w k) (e : w'.heap[k]? = w.heap[k]?) : NF B w' k := by
  obtain ⟨h1, c, t, h2⟩ := h
  exact ⟨h1, c, t, e.trans h2⟩
theorem NF.more {B B' : Nat} {w : World} {k : Nat} (h : NF B w k) (hB : B' ≤ B) : NF B' w k := ⟨Nat.le_trans hB h.1, h.2⟩
def kin (v v' : Value) : Prop := v' = v ∨ (∃ s s', v = .string s ∧ v' = .string s') ∨ (∃ n n', v = .int .i64 n ∧ v' = .int .i64 n')
theorem kin.refl (v : Value) : kin v v := Or.inl rfl
theorem kin.trans {a b c : Value} (h : kin a b) (k : kin b c) : kin a c := by
  rcases h with rfl | ⟨s, s', rfl, rfl⟩ | ⟨s, s', rfl, rfl⟩
  · exact k
  · rcases k with rfl | ⟨t, t', -, rfl⟩ | ⟨t, t', e, -⟩
    · exact Or.inr (Or.inl ⟨_, _, rfl, rfl⟩)
    · exact Or.inr (Or.inl ⟨_, _, rfl, rfl⟩)
    · cases e
  · rcases k with rfl | ⟨t, t', e, -⟩ | ⟨t, t', -, rfl⟩
    · exact Or.inr (Or.inr ⟨_, _, rfl, rfl⟩)
    · cases e
    · exact Or.inr (Or.inr ⟨_, _, rfl, rfl⟩)
theorem kin.slice {a : Option Addr} {n c : Nat} {v : Value} (h : kin (.slice a n c) v) : v = .slice a n c := by
  rcases h with h | ⟨s, s', e, -⟩ | ⟨s, s', e, -⟩
  · exact h
  · cases e
  · cases e
theorem kin.bool {b : Bool} {v : Value} (h : kin (.bool b) v) : v = .bool b := by
  rcases h with h | ⟨s, s', e, -⟩ | ⟨s, s', e, -⟩
  · exact h
  · cases e
  · cases e
theorem kin.string {s : ByteArray} {v : Value} (h : kin (.string s) v) : ∃ s', v = .string s' := by
  rcases h with h | ⟨s, s', -, h⟩ | ⟨s, s', e, -⟩
  · exact ⟨_, h⟩
  · exact ⟨_, h⟩
  · cases e
theorem kin.int {n : Int} {v : Value} (h : kin (.int .i64 n) v) : ∃ n', v = .int .i64 n' := by
  rcases h with h | ⟨s, s', e, -⟩ | ⟨s, s', -, h⟩
  · exact ⟨_, h⟩
  · cases e
  · exact ⟨_, h⟩
structure Spo (B : Nat) (w w' : World) : Prop where
  below : Below B w w'
  nf : ∀ k, NF B w k → NF B w' k
  cell : ∀ p v, w.cell? p = some v → ∃ v', w'.cell? p = some v' ∧ kin v v'
theorem Spo.size {B : Nat} {w w' : World} (h : Spo B w w') : w.heap.size ≤ w'.heap.size := h.below.size
theorem Spo.refl (B : Nat) (w : World) : Spo B w w := ⟨Below.refl _ _, fun _ h => h, fun _ v h => ⟨v, h, kin.refl v⟩⟩
theorem Spo.trans {B : Nat} {a b c : World} (h : Spo B a b) (k : Spo B b c) : Spo B a c :=
  ⟨h.below.trans k.below, fun i hi => k.nf i (h.nf i hi), fun p v hv => by
    obtain ⟨v1, h1, k1⟩ := h.cell p v hv
    obtain ⟨v2, h2, k2⟩ := k.cell p v1 h1
    exact ⟨v2, h2, k1.trans k2⟩⟩
theorem Spo.behind {B : Nat} {a b c : World} (h : Spo B a b) (hB : B ≤ b.heap.size) (k : Below b.heap.size b c) : Spo B a c :=
  ⟨h.below.trans (k.mono hB), fun i hi => (h.nf i hi).kept (k.block i (h.nf i hi).lt), fun p v hv => by
    obtain ⟨v1, h1, k1⟩ := h.cell p v hv
    exact ⟨v1, (k.cell (World.block_lt_of_cell? _ _ h1)).trans h1, k1⟩⟩
theorem Spo.alloc {B : Nat} {a b : World} (h : Spo B a b) (hB : B ≤ b.heap.size) (o : Obj) : Spo B a (b.alloc o) := h.behind hB ((Below.refl _ _).alloc (Nat.le_refl _) o)
theorem Spo.set {B : Nat} {a b : World} (h : Spo B a b) {k j : Nat} {v u : Value} (hk : NF B b k) (hv : b.cell? ⟨k, j, none⟩ = some v) (hu : kin v u) : Spo B a (b.setCell ⟨k, j, none⟩ u) := by
  refine h.trans ⟨(Below.refl _ _).setCell hk.1 u, fun i hi => ?_, fun p x hx => ?_⟩
  · by_cases e : i = k
    · subst e
      obtain ⟨h1, c, t, h2⟩ := hi
      exact ⟨h1, _, t, by simp [World.setCell, Array.getElem?_modify, h2]; rfl⟩
    · exact hi.kept (Below.heap_setCell _ _ _ _ e)
  · by_cases e : p = ⟨k, j, none⟩
    · subst e
      rw [hv] at hx
      cases hx
      exact ⟨u, World.cell?_setCell_same _ _ _ hv, hu⟩
    · exact ⟨x, (World.cell?_setCell_other _ _ _ _ (Ne.symm e)).trans hx, kin.refl x⟩
theorem Spo.drewN {B : Nat} {a b : World} (h : Spo B a b) (n : Nat) : Spo B a (b.drewN n) := ⟨⟨h.below.os, h.below.tape, h.below.output, h.below.size, h.below.block⟩, h.nf, h.cell⟩
section
variable {B : Nat} {w W : World} {ao : Option Addr} {len cap k : Nat}
theorem Spo.slice (hp : Spo B w W) {p : Addr} {a : Option Addr} {n c : Nat} (h : w.cell? p = some (.slice a n c)) : W.cell? p = some (.slice a n c) := by
  obtain ⟨v, h1, h2⟩ := hp.cell p _ h
  rw [h1, h2.slice]
theorem Spo.int (hp : Spo B w W) {p : Addr} {n : Int} (h : w.cell? p = some (.int .i64 n)) : ∃ n', W.cell? p = some (.int .i64 n') := by
  obtain ⟨v, h1, h2⟩ := hp.cell p _ h
  obtain ⟨s', rfl⟩ := h2.int
  exact ⟨s', h1⟩
theorem Spo.bool (hp : Spo B w W) {p : Addr} {b : Bool} (h : w.cell? p = some (.bool b)) : W.cell? p = some (.bool b) := by
  obtain ⟨v, h1, h2⟩ := hp.cell p _ h
  rw [h1, h2.bool]
end
section
variable {B : Nat} {w : World} {ao : Option Addr} {len cap k : Nat}
end
end Go.Proofs.YtfibgdcpbkaaoaaGreatDoor
