/- No two of a list have one name. -/
import Derived.Test.YtkhconnebiiboaaGreatDoorJChkClassLAsk
import Derived.Test.YtkhconnebiiboaaGreatDoorGrow
import Derived.Deep.RegionWith
namespace Go.Proofs.YtkhconnebiiboaaGreatDoor
open Go.RowKit

theorem SL.take {α : Type} {n : Nat} {R : (Nat → Prop) → World → List Value → α → Prop} {M : Nat → Prop} {w : World} {ao : Option Addr} {len cap : Nat} {l : List α} (h : SL n R M w (.slice ao len cap) l) (k : Nat) (hk : k ≤ l.length) : SL n R M w (.slice ao k cap) (l.take k) := by
  obtain ⟨ao', cap', e, h1, h2, h3⟩ := h
  cases e
  have hl : (l.take k).length = k := by simp; omega
  refine ⟨ao, cap, by rw [hl], by omega, by omega, fun j hj => ?_⟩
  obtain ⟨b, off, cs, e, hM, hb, hn, hc, hr⟩ := h3 j (by omega)
  exact ⟨b, off, cs, e, hM, hb, hn, hc, by rw [List.getElem_take]; exact hr⟩
theorem differ_pre (l m : List ByteArray) (h : differB (l ++ m) = true) : differB l = true := by
  induction m using snoc_ind with
  | h0 => simpa using h
  | h1 m x ih =>
    rw [← List.append_assoc, differB_snoc] at h
    simp only [Bool.and_eq_true] at h
    exact ih h.1
theorem differ_stop {α : Type} {f : α → ByteArray} {l : List α} {k : Nat} (hk : k < l.length) (h : (l.take k).any (fun y => decide (f l[k] = f y)) = true) : differB (l.map f) = false := by
  cases hd : differB (l.map f)
  · rfl
  · have e : l = l.take (k + 1) ++ l.drop (k + 1) := (List.take_append_drop _ _).symm
    rw [e, List.map_append] at hd
    have h1 := differ_pre _ _ hd
    rw [List.take_succ_eq_append_getElem hk, List.map_append, List.map_cons, List.map_nil, differB_snoc] at h1
    simp only [Bool.and_eq_true, List.all_map] at h1
    rw [List.any_eq_true] at h
    obtain ⟨y, hy, hy2⟩ := h
    have := List.all_eq_true.1 h1.2 y hy
    simp at this hy2
    exact absurd hy2 this
theorem differ_go {α : Type} {f : α → ByteArray} {l : List α} {k : Nat} (hk : k < l.length) (hd : differB ((l.take k).map f) = true) (h : (l.take k).any (fun y => decide (f l[k] = f y)) = false) : differB ((l.take (k + 1)).map f) = true := by
  rw [List.take_succ_eq_append_getElem hk, List.map_append, List.map_cons, List.map_nil, differB_snoc, hd, Bool.true_and, List.all_map, List.all_eq_true]
  intro y hy
  rw [List.any_eq_false] at h
  have := h y hy
  simpa using this

set_option maxHeartbeats 1000000 in
theorem nameF_any (w : World) (B : Nat) (y : FieldD) (u : Value) (hu : ElF B w u y) : Calls Tryz.prog 122 #[u] w fun r w' => r = .returned (.string y.name) ∧ Below w.heap.size w w' := by
  obtain ⟨rfl, -, -⟩ := hu
  go_enter Tryz.func122, Tryz.ntmps122
  go_wp2_with fail
  go_ret
  exact ⟨rfl, (Below.refl _ _).alloc (Nat.le_refl _) _⟩
set_option maxHeartbeats 2000000 in
theorem differF1_any (w : World) (B Pn Px : Nat) (x y : FieldD) (u : Value) (hu : ElF B w u y) (hX : ElF B w (.agg #[.string x.name, .int .i64 x.kind.kind, .string x.kind.cls]) x) (hBw : B ≤ w.heap.size)
    (hn : w.cell? ⟨Pn, 0, none⟩ = some (.func (.func 122) #[] #[])) (hx0 : w.cell? ⟨Px, 0, none⟩ = some (.string x.name)) (hx1 : w.cell? ⟨Px, 1, none⟩ = some (.int .i64 x.kind.kind)) (hx2 : w.cell? ⟨Px, 2, none⟩ = some (.string x.kind.cls)) :
    Calls Tryz.prog 163 #[u, .pointer (some ⟨Pn, 0, none⟩), .pointer (some ⟨Px, 0, none⟩)] w fun r w' => r = .returned (.bool (decide (x.name = y.name))) ∧ Below w.heap.size w w' := by
  have hU := hu
  obtain ⟨rfl, -, -⟩ := hu
  have hPn : Pn < w.heap.size := World.block_lt_of_cell? w _ hn
  have hPx : Px < w.heap.size := World.block_lt_of_cell? w _ hx0
  have hB1 := (Below.refl w.heap.size w).alloc (Nat.le_refl _) (.cells #[.string y.name, .int .i64 y.kind.kind, .string y.kind.cls] 78)
  have hU1 := hU.below (hB1.mono hBw)
  have hX1 := hX.below (hB1.mono hBw)
  obtain ⟨W0, hW⟩ : ∃ W0, W0 = w.alloc (.cells #[.string y.name, .int .i64 y.kind.kind, .string y.kind.cls] 78) := ⟨_, rfl⟩
  have hz : w.heap.size + 1 ≤ W0.heap.size := by rw [hW]; simp
  rw [← hW] at hB1 hU1 hX1
  have hne : Nonempty (Gr (w.heap.size + 1) W0) := ⟨⟨W0, Below.refl _ _⟩⟩
  have kn : ∀ g : Gr (w.heap.size + 1) W0, g.w.cell? ⟨Pn, 0, none⟩ = some (.func (.func 122) #[] #[]) := fun g => (g.ok.cell (p := ⟨Pn, 0, none⟩) (by simp; omega)).trans ((hB1.cell (p := ⟨Pn, 0, none⟩) hPn).trans hn)
  have kx0 : ∀ g : Gr (w.heap.size + 1) W0, g.w.cell? ⟨Px, 0, none⟩ = some (.string x.name) := fun g => (g.ok.cell (p := ⟨Px, 0, none⟩) (by simp; omega)).trans ((hB1.cell (p := ⟨Px, 0, none⟩) hPx).trans hx0)
  have kx1 : ∀ g : Gr (w.heap.size + 1) W0, g.w.cell? ⟨Px, 1, none⟩ = some (.int .i64 x.kind.kind) := fun g => (g.ok.cell (p := ⟨Px, 1, none⟩) (by simp; omega)).trans ((hB1.cell (p := ⟨Px, 1, none⟩) hPx).trans hx1)
  have kx2 : ∀ g : Gr (w.heap.size + 1) W0, g.w.cell? ⟨Px, 2, none⟩ = some (.string x.kind.cls) := fun g => (g.ok.cell (p := ⟨Px, 2, none⟩) (by simp; omega)).trans ((hB1.cell (p := ⟨Px, 2, none⟩) hPx).trans hx2)
  have ky0 : ∀ g : Gr (w.heap.size + 1) W0, g.w.cell? ⟨w.heap.size, 0, none⟩ = some (.string y.name) := fun g => (g.ok.cell (p := ⟨w.heap.size, 0, none⟩) (by simp)).trans (by rw [hW]; simp [go_sem])
  have ky1 : ∀ g : Gr (w.heap.size + 1) W0, g.w.cell? ⟨w.heap.size, 1, none⟩ = some (.int .i64 y.kind.kind) := fun g => (g.ok.cell (p := ⟨w.heap.size, 1, none⟩) (by simp)).trans (by rw [hW]; simp [go_sem])
  have ky2 : ∀ g : Gr (w.heap.size + 1) W0, g.w.cell? ⟨w.heap.size, 2, none⟩ = some (.string y.kind.cls) := fun g => (g.ok.cell (p := ⟨w.heap.size, 2, none⟩) (by simp)).trans (by rw [hW]; simp [go_sem])
  have HCX : Hid (∀ g : Gr (w.heap.size + 1) W0, Calls Tryz.prog 122 #[.agg #[.string x.name, .int .i64 x.kind.kind, .string x.kind.cls]] g.w fun e w'' => e = .returned (.string x.name) ∧ ∃ g' : Gr (w.heap.size + 1) W0, w'' = g'.w) := fun g => Gr.calls g hz (nameF_any g.w B x _ (hX1.below (g.ok.mono (by omega))))
  have HCY : Hid (∀ g : Gr (w.heap.size + 1) W0, Calls Tryz.prog 122 #[.agg #[.string y.name, .int .i64 y.kind.kind, .string y.kind.cls]] g.w fun e w'' => e = .returned (.string y.name) ∧ ∃ g' : Gr (w.heap.size + 1) W0, w'' = g'.w) := fun g => Gr.calls g hz (nameF_any g.w B y _ (hU1.below (g.ok.mono (by omega))))
  have HB1 := mkHid hB1
  clear hU hX hU1 hX1 hB1 hn hx0 hx1 hx2
  go_enter Tryz.func163, Tryz.ntmps163
  go_wp2_with fail
  rw [← hW]
  clear hW
  refine wp_region_grow_lit (w.heap.size + 1) W0 (by kernel_rfl) (by kernel_rfl) (Below.refl _ _) ?_
  repeat (go_big_quiet_step (first | (go_at_call_of 122 x; exact HCX.out _) | (go_at_call_of 122 y; exact HCY.out _)))
  refine wpQuiet_nil ?_
  intro _ hw'
  obtain ⟨g, rfl⟩ := hw'
  have hg := HB1.out.trans (g.ok.mono (by omega))
  generalize g.w = w2 at *
  clear kn kx0 ky0 kx1 ky1 kx2 ky2 hne
  by_cases h : x.name = y.name
  · have t := congrArg ByteArray.toList h
    have HD : Hid (decide (x.name = y.name) = true) := by show decide (x.name = y.name) = true; simp [h]
    clear h
    go_wp2_with fail
    go_ret
    exact ⟨by rw [HD.out]; simp [t], hg⟩
  · have t : ¬ x.name.toList = y.name.toList := fun e => h (tl_inj e)
    have HD : Hid (decide (x.name = y.name) = false) := by show decide (x.name = y.name) = false; simp [h]
    clear h
    go_wp2_with fail
    go_ret
    exact ⟨by rw [HD.out]; simp [t], hg⟩

set_option maxHeartbeats 2000000 in
theorem differF_any (w : World) (B : Nat) (v : Value) (l : List FieldD) (hv : SL 3 RF (· < B) w v l) (hB : B ≤ w.heap.size) :
    Calls Tryz.prog 121 #[v, .func (.func 122) #[] #[]] w fun r w' => r = .returned (.bool (differB (l.map (·.name)))) ∧ Below w.heap.size w w' := by
  have hmf : ∀ (fn : Fn) (first cap : Array Value) (w : World), (Instr.makeFunc fn first cap).run Tryz.prog w = .ok (.func fn first cap) w := fun _ _ _ _ => rfl
  have HV := mkHid hv
  obtain ⟨ao0, cl, rfl, hcl, hll, -⟩ := hv
  unfold maxLen at hll
  have hB0 := (Below.refl w.heap.size w).alloc (Nat.le_refl _) (.cells #[.func (.func 122) #[] #[]] 170)
  have HB0 := mkHid hB0
  clear hB0
  go_enter Tryz.func121, Tryz.ntmps121
  go_wp2_with fail
  go_loopw [9] (fun i wr => ∃ k : Nat, k ≤ l.length ∧ i = .int .i64 k ∧ Hid (differB ((l.take k).map (·.name)) = true) ∧ Hid (Below (w.heap.size + 1) (w.alloc (.cells #[.func (.func 122) #[] #[]] 170)) wr)) (fun i _ => l.length - (intOf i).toNat)
  case atStart => exact ⟨0, Nat.zero_le _, rfl, rfl, Below.refl _ _⟩
  case round =>
    obtain ⟨k, hk, rfl, HP, HBB⟩ := hrel
    have hBr : Below w.heap.size w wr := HB0.out.trans (HBB.out.mono (by omega))
    have hzr : w.heap.size + 1 ≤ wr.heap.size := by have := HBB.out.size; simpa using this
    have HBR := mkHid hBr
    by_cases hlt : k < l.length
    · obtain ⟨b, off, rfl, hb, e0, e1, e2, es1, es2⟩ := (HV.out.keptF (Kp.below (hBr.mono hB))).atF k hlt
      have hkc : (k : Int) ≤ cl := by omega
      have hk0 : (0 : Int) ≤ k := by omega
      have hB1 := hBr.alloc hBr.size (.cells #[.string l[k].name, .int .i64 l[k].kind.kind, .string l[k].kind.cls] 78)
      have HEL : Hid (ElF B (wr.alloc (.cells #[.string l[k].name, .int .i64 l[k].kind.kind, .string l[k].kind.cls] 78)) (.agg #[.string l[k].name, .int .i64 l[k].kind.kind, .string l[k].kind.cls]) l[k]) := ⟨rfl, es1, es2⟩
      have HB1 := mkHid hB1
      clear hB1
      go_wp2_with fail
      refine (containsF_any _ B _ (l.take k) ((HV.out.keptF (Kp.below (HB1.out.mono hB))).take k hk) (by simp; omega) 163 _ (fun y => decide (l[k].name = y.name)) (fun args w => by kernel_rfl) ?_).mono ?_
      · intro y _ u W hW hu
        refine differF1_any W B w.heap.size wr.heap.size l[k] y u hu (HEL.out.below (hW.mono (by simp; omega))) (by have := hW.size; simp at this; omega) ?_ ?_ ?_ ?_
        · exact (hW.cell (p := ⟨w.heap.size, 0, none⟩) (by simp; omega)).trans (by rw [World.cell?_alloc_past _ _ _ (by omega)]; exact (HBB.out.cell (p := ⟨w.heap.size, 0, none⟩) (by simp)).trans (by simp [go_sem]))
        · exact (hW.cell (p := ⟨wr.heap.size, 0, none⟩) (by simp)).trans (by simp [go_sem])
        · exact (hW.cell (p := ⟨wr.heap.size, 1, none⟩) (by simp)).trans (by simp [go_sem])
        · exact (hW.cell (p := ⟨wr.heap.size, 2, none⟩) (by simp)).trans (by simp [go_sem])
      rintro r w2 ⟨rfl, hb2⟩
      have HB2 : Hid (Below (w.heap.size + 1) (w.alloc (.cells #[.func (.func 122) #[] #[]] 170)) w2) := (HBB.out.alloc (by omega) _).trans (hb2.mono (by simp; omega))
      have HBW := mkHid (HB1.out.trans (hb2.mono (by have := hBr.size; simp; omega)))
      clear hb2 e0 e1 e2
      cases hp : (l.take k).any (fun y => decide (l[k].name = y.name))
      · have HX := mkHid (differ_go (f := (·.name)) hlt HP.out hp)
        clear hp
        go_wp2_with fail
        go_roundw
        case rel => exact ⟨k + 1, by omega, by go_num, HX.out, HB2.out⟩
        case measure => simp [intOf]; omega
      · have HX := mkHid (differ_stop (f := (·.name)) hlt hp)
        clear hp
        go_wp2_with fail
        go_ret
        exact ⟨by rw [HX.out]; rfl, HBW.out⟩
    · have HX : Hid (differB (l.map (·.name)) = true) := by have := HP.out; rwa [List.take_of_length_le (by omega)] at this
      go_wp2_with fail
      go_ret
      exact ⟨by rw [HX.out]; rfl, HBR.out⟩

set_option maxHeartbeats 1000000 in
theorem nameM_any (w : World) (B : Nat) (y : MethD) (u : Value) (hu : ElM B w u y) : Calls Tryz.prog 125 #[u] w fun r w' => r = .returned (.string y.name) ∧ Below w.heap.size w w' := by
  obtain ⟨ao2, ca2, ho2, ch2, rfl, -, -, -, -, -⟩ := hu
  go_enter Tryz.func125, Tryz.ntmps125
  go_wp2_with fail
  go_ret
  exact ⟨rfl, (Below.refl _ _).alloc (Nat.le_refl _) _⟩
set_option maxHeartbeats 2000000 in
theorem differM1_any (w : World) (B Pn Px : Nat) (x y : MethD) (ao : Option Addr) (ca : Nat) (ho : Option Addr) (ch : Nat) (u : Value) (hu : ElM B w u y) (hX : ElM B w (.agg #[.string x.name, .bool x.static, .slice ao x.args.length ca, .int .i64 x.ret.kind, .string x.ret.cls, .int .i64 x.stack, .int .i64 x.locals, .string x.code, .slice ho x.hands.length ch]) x) (hBw : B ≤ w.heap.size)
    (hn : w.cell? ⟨Pn, 0, none⟩ = some (.func (.func 125) #[] #[])) (hx0 : w.cell? ⟨Px, 0, none⟩ = some (.string x.name)) (hx1 : w.cell? ⟨Px, 1, none⟩ = some (.bool x.static)) (hx2 : w.cell? ⟨Px, 2, none⟩ = some (.slice ao x.args.length ca)) (hx3 : w.cell? ⟨Px, 3, none⟩ = some (.int .i64 x.ret.kind)) (hx4 : w.cell? ⟨Px, 4, none⟩ = some (.string x.ret.cls)) (hx5 : w.cell? ⟨Px, 5, none⟩ = some (.int .i64 x.stack)) (hx6 : w.cell? ⟨Px, 6, none⟩ = some (.int .i64 x.locals)) (hx7 : w.cell? ⟨Px, 7, none⟩ = some (.string x.code)) (hx8 : w.cell? ⟨Px, 8, none⟩ = some (.slice ho x.hands.length ch)) :
    Calls Tryz.prog 164 #[u, .pointer (some ⟨Pn, 0, none⟩), .pointer (some ⟨Px, 0, none⟩)] w fun r w' => r = .returned (.bool (decide (x.name = y.name))) ∧ Below w.heap.size w w' := by
  have hU := hu
  obtain ⟨ao2, ca2, ho2, ch2, rfl, -, -, -, -, -⟩ := hu
  have hPn : Pn < w.heap.size := World.block_lt_of_cell? w _ hn
  have hPx : Px < w.heap.size := World.block_lt_of_cell? w _ hx0
  have hB1 := (Below.refl w.heap.size w).alloc (Nat.le_refl _) (.cells #[.string y.name, .bool y.static, .slice ao2 y.args.length ca2, .int .i64 y.ret.kind, .string y.ret.cls, .int .i64 y.stack, .int .i64 y.locals, .string y.code, .slice ho2 y.hands.length ch2] 72)
  have hU1 := hU.below (hB1.mono hBw)
  have hX1 := hX.below (hB1.mono hBw)
  obtain ⟨W0, hW⟩ : ∃ W0, W0 = w.alloc (.cells #[.string y.name, .bool y.static, .slice ao2 y.args.length ca2, .int .i64 y.ret.kind, .string y.ret.cls, .int .i64 y.stack, .int .i64 y.locals, .string y.code, .slice ho2 y.hands.length ch2] 72) := ⟨_, rfl⟩
  have hz : w.heap.size + 1 ≤ W0.heap.size := by rw [hW]; simp
  rw [← hW] at hB1 hU1 hX1
  have hne : Nonempty (Gr (w.heap.size + 1) W0) := ⟨⟨W0, Below.refl _ _⟩⟩
  have kn : ∀ g : Gr (w.heap.size + 1) W0, g.w.cell? ⟨Pn, 0, none⟩ = some (.func (.func 125) #[] #[]) := fun g => (g.ok.cell (p := ⟨Pn, 0, none⟩) (by simp; omega)).trans ((hB1.cell (p := ⟨Pn, 0, none⟩) hPn).trans hn)
  have kx0 : ∀ g : Gr (w.heap.size + 1) W0, g.w.cell? ⟨Px, 0, none⟩ = some (.string x.name) := fun g => (g.ok.cell (p := ⟨Px, 0, none⟩) (by simp; omega)).trans ((hB1.cell (p := ⟨Px, 0, none⟩) hPx).trans hx0)
  have kx1 : ∀ g : Gr (w.heap.size + 1) W0, g.w.cell? ⟨Px, 1, none⟩ = some (.bool x.static) := fun g => (g.ok.cell (p := ⟨Px, 1, none⟩) (by simp; omega)).trans ((hB1.cell (p := ⟨Px, 1, none⟩) hPx).trans hx1)
  have kx2 : ∀ g : Gr (w.heap.size + 1) W0, g.w.cell? ⟨Px, 2, none⟩ = some (.slice ao x.args.length ca) := fun g => (g.ok.cell (p := ⟨Px, 2, none⟩) (by simp; omega)).trans ((hB1.cell (p := ⟨Px, 2, none⟩) hPx).trans hx2)
  have kx3 : ∀ g : Gr (w.heap.size + 1) W0, g.w.cell? ⟨Px, 3, none⟩ = some (.int .i64 x.ret.kind) := fun g => (g.ok.cell (p := ⟨Px, 3, none⟩) (by simp; omega)).trans ((hB1.cell (p := ⟨Px, 3, none⟩) hPx).trans hx3)
  have kx4 : ∀ g : Gr (w.heap.size + 1) W0, g.w.cell? ⟨Px, 4, none⟩ = some (.string x.ret.cls) := fun g => (g.ok.cell (p := ⟨Px, 4, none⟩) (by simp; omega)).trans ((hB1.cell (p := ⟨Px, 4, none⟩) hPx).trans hx4)
  have kx5 : ∀ g : Gr (w.heap.size + 1) W0, g.w.cell? ⟨Px, 5, none⟩ = some (.int .i64 x.stack) := fun g => (g.ok.cell (p := ⟨Px, 5, none⟩) (by simp; omega)).trans ((hB1.cell (p := ⟨Px, 5, none⟩) hPx).trans hx5)
  have kx6 : ∀ g : Gr (w.heap.size + 1) W0, g.w.cell? ⟨Px, 6, none⟩ = some (.int .i64 x.locals) := fun g => (g.ok.cell (p := ⟨Px, 6, none⟩) (by simp; omega)).trans ((hB1.cell (p := ⟨Px, 6, none⟩) hPx).trans hx6)
  have kx7 : ∀ g : Gr (w.heap.size + 1) W0, g.w.cell? ⟨Px, 7, none⟩ = some (.string x.code) := fun g => (g.ok.cell (p := ⟨Px, 7, none⟩) (by simp; omega)).trans ((hB1.cell (p := ⟨Px, 7, none⟩) hPx).trans hx7)
  have kx8 : ∀ g : Gr (w.heap.size + 1) W0, g.w.cell? ⟨Px, 8, none⟩ = some (.slice ho x.hands.length ch) := fun g => (g.ok.cell (p := ⟨Px, 8, none⟩) (by simp; omega)).trans ((hB1.cell (p := ⟨Px, 8, none⟩) hPx).trans hx8)
  have ky0 : ∀ g : Gr (w.heap.size + 1) W0, g.w.cell? ⟨w.heap.size, 0, none⟩ = some (.string y.name) := fun g => (g.ok.cell (p := ⟨w.heap.size, 0, none⟩) (by simp)).trans (by rw [hW]; simp [go_sem])
  have ky1 : ∀ g : Gr (w.heap.size + 1) W0, g.w.cell? ⟨w.heap.size, 1, none⟩ = some (.bool y.static) := fun g => (g.ok.cell (p := ⟨w.heap.size, 1, none⟩) (by simp)).trans (by rw [hW]; simp [go_sem])
  have ky2 : ∀ g : Gr (w.heap.size + 1) W0, g.w.cell? ⟨w.heap.size, 2, none⟩ = some (.slice ao2 y.args.length ca2) := fun g => (g.ok.cell (p := ⟨w.heap.size, 2, none⟩) (by simp)).trans (by rw [hW]; simp [go_sem])
  have ky3 : ∀ g : Gr (w.heap.size + 1) W0, g.w.cell? ⟨w.heap.size, 3, none⟩ = some (.int .i64 y.ret.kind) := fun g => (g.ok.cell (p := ⟨w.heap.size, 3, none⟩) (by simp)).trans (by rw [hW]; simp [go_sem])
  have ky4 : ∀ g : Gr (w.heap.size + 1) W0, g.w.cell? ⟨w.heap.size, 4, none⟩ = some (.string y.ret.cls) := fun g => (g.ok.cell (p := ⟨w.heap.size, 4, none⟩) (by simp)).trans (by rw [hW]; simp [go_sem])
  have ky5 : ∀ g : Gr (w.heap.size + 1) W0, g.w.cell? ⟨w.heap.size, 5, none⟩ = some (.int .i64 y.stack) := fun g => (g.ok.cell (p := ⟨w.heap.size, 5, none⟩) (by simp)).trans (by rw [hW]; simp [go_sem])
  have ky6 : ∀ g : Gr (w.heap.size + 1) W0, g.w.cell? ⟨w.heap.size, 6, none⟩ = some (.int .i64 y.locals) := fun g => (g.ok.cell (p := ⟨w.heap.size, 6, none⟩) (by simp)).trans (by rw [hW]; simp [go_sem])
  have ky7 : ∀ g : Gr (w.heap.size + 1) W0, g.w.cell? ⟨w.heap.size, 7, none⟩ = some (.string y.code) := fun g => (g.ok.cell (p := ⟨w.heap.size, 7, none⟩) (by simp)).trans (by rw [hW]; simp [go_sem])
  have ky8 : ∀ g : Gr (w.heap.size + 1) W0, g.w.cell? ⟨w.heap.size, 8, none⟩ = some (.slice ho2 y.hands.length ch2) := fun g => (g.ok.cell (p := ⟨w.heap.size, 8, none⟩) (by simp)).trans (by rw [hW]; simp [go_sem])
  have HCX : Hid (∀ g : Gr (w.heap.size + 1) W0, Calls Tryz.prog 125 #[.agg #[.string x.name, .bool x.static, .slice ao x.args.length ca, .int .i64 x.ret.kind, .string x.ret.cls, .int .i64 x.stack, .int .i64 x.locals, .string x.code, .slice ho x.hands.length ch]] g.w fun e w'' => e = .returned (.string x.name) ∧ ∃ g' : Gr (w.heap.size + 1) W0, w'' = g'.w) := fun g => Gr.calls g hz (nameM_any g.w B x _ (hX1.below (g.ok.mono (by omega))))
  have HCY : Hid (∀ g : Gr (w.heap.size + 1) W0, Calls Tryz.prog 125 #[.agg #[.string y.name, .bool y.static, .slice ao2 y.args.length ca2, .int .i64 y.ret.kind, .string y.ret.cls, .int .i64 y.stack, .int .i64 y.locals, .string y.code, .slice ho2 y.hands.length ch2]] g.w fun e w'' => e = .returned (.string y.name) ∧ ∃ g' : Gr (w.heap.size + 1) W0, w'' = g'.w) := fun g => Gr.calls g hz (nameM_any g.w B y _ (hU1.below (g.ok.mono (by omega))))
  have HB1 := mkHid hB1
  clear hU hX hU1 hX1 hB1 hn hx0 hx1 hx2 hx3 hx4 hx5 hx6 hx7 hx8
  go_enter Tryz.func164, Tryz.ntmps164
  go_wp2_with fail
  rw [← hW]
  clear hW
  refine wp_region_grow_lit (w.heap.size + 1) W0 (by kernel_rfl) (by kernel_rfl) (Below.refl _ _) ?_
  repeat (go_big_quiet_step (first | (go_at_call_of 125 x; exact HCX.out _) | (go_at_call_of 125 y; exact HCY.out _)))
  refine wpQuiet_nil ?_
  intro _ hw'
  obtain ⟨g, rfl⟩ := hw'
  have hg := HB1.out.trans (g.ok.mono (by omega))
  generalize g.w = w2 at *
  clear kn kx0 ky0 kx1 ky1 kx2 ky2 kx3 ky3 kx4 ky4 kx5 ky5 kx6 ky6 kx7 ky7 kx8 ky8 hne
  by_cases h : x.name = y.name
  · have t := congrArg ByteArray.toList h
    have HD : Hid (decide (x.name = y.name) = true) := by show decide (x.name = y.name) = true; simp [h]
    clear h
    go_wp2_with fail
    go_ret
    exact ⟨by rw [HD.out]; simp [t], hg⟩
  · have t : ¬ x.name.toList = y.name.toList := fun e => h (tl_inj e)
    have HD : Hid (decide (x.name = y.name) = false) := by show decide (x.name = y.name) = false; simp [h]
    clear h
    go_wp2_with fail
    go_ret
    exact ⟨by rw [HD.out]; simp [t], hg⟩

set_option maxHeartbeats 2000000 in
theorem differM_any (w : World) (B : Nat) (v : Value) (l : List MethD) (hv : SL 9 RM (· < B) w v l) (hB : B ≤ w.heap.size) :
    Calls Tryz.prog 124 #[v, .func (.func 125) #[] #[]] w fun r w' => r = .returned (.bool (differB (l.map (·.name)))) ∧ Below w.heap.size w w' := by
  have hmf : ∀ (fn : Fn) (first cap : Array Value) (w : World), (Instr.makeFunc fn first cap).run Tryz.prog w = .ok (.func fn first cap) w := fun _ _ _ _ => rfl
  have HV := mkHid hv
  obtain ⟨ao0, cl, rfl, hcl, hll, -⟩ := hv
  unfold maxLen at hll
  have hB0 := (Below.refl w.heap.size w).alloc (Nat.le_refl _) (.cells #[.func (.func 125) #[] #[]] 173)
  have HB0 := mkHid hB0
  clear hB0
  go_enter Tryz.func124, Tryz.ntmps124
  go_wp2_with fail
  go_loopw [9] (fun i wr => ∃ k : Nat, k ≤ l.length ∧ i = .int .i64 k ∧ Hid (differB ((l.take k).map (·.name)) = true) ∧ Hid (Below (w.heap.size + 1) (w.alloc (.cells #[.func (.func 125) #[] #[]] 173)) wr)) (fun i _ => l.length - (intOf i).toNat)
  case atStart => exact ⟨0, Nat.zero_le _, rfl, rfl, Below.refl _ _⟩
  case round =>
    obtain ⟨k, hk, rfl, HP, HBB⟩ := hrel
    have hBr : Below w.heap.size w wr := HB0.out.trans (HBB.out.mono (by omega))
    have hzr : w.heap.size + 1 ≤ wr.heap.size := by have := HBB.out.size; simpa using this
    have HBR := mkHid hBr
    by_cases hlt : k < l.length
    · obtain ⟨b, off, va, vh, rfl, hb, e0, e1, e2, e3, e4, e5, e6, e7, e8, ea, eh, es1, es2, es3⟩ := (HV.out.keptM (Kp.below (hBr.mono hB))).atM k hlt
      have EA := mkHid ea
      have EH := mkHid eh
      obtain ⟨ao, ca, rfl, -⟩ := ea
      obtain ⟨ho, ch, rfl, -⟩ := eh
      have hkc : (k : Int) ≤ cl := by omega
      have hk0 : (0 : Int) ≤ k := by omega
      have hB1 := hBr.alloc hBr.size (.cells #[.string l[k].name, .bool l[k].static, .slice ao l[k].args.length ca, .int .i64 l[k].ret.kind, .string l[k].ret.cls, .int .i64 l[k].stack, .int .i64 l[k].locals, .string l[k].code, .slice ho l[k].hands.length ch] 72)
      have HEL : Hid (ElM B (wr.alloc (.cells #[.string l[k].name, .bool l[k].static, .slice ao l[k].args.length ca, .int .i64 l[k].ret.kind, .string l[k].ret.cls, .int .i64 l[k].stack, .int .i64 l[k].locals, .string l[k].code, .slice ho l[k].hands.length ch] 72)) (.agg #[.string l[k].name, .bool l[k].static, .slice ao l[k].args.length ca, .int .i64 l[k].ret.kind, .string l[k].ret.cls, .int .i64 l[k].stack, .int .i64 l[k].locals, .string l[k].code, .slice ho l[k].hands.length ch]) l[k]) := ⟨ao, ca, ho, ch, rfl, EA.out.keptK (Kp.below ((Below.refl _ _).alloc (by have := hBr.size; omega) _)), EH.out.keptH (Kp.below ((Below.refl _ _).alloc (by have := hBr.size; omega) _)), es1, es2, es3⟩
      have HB1 := mkHid hB1
      clear hB1
      go_wp2_with fail
      refine (containsM_any _ B _ (l.take k) ((HV.out.keptM (Kp.below (HB1.out.mono hB))).take k hk) (by simp; omega) 164 _ (fun y => decide (l[k].name = y.name)) (fun args w => by kernel_rfl) ?_).mono ?_
      · intro y _ u W hW hu
        refine differM1_any W B w.heap.size wr.heap.size l[k] y ao ca ho ch u hu (HEL.out.below (hW.mono (by simp; omega))) (by have := hW.size; simp at this; omega) ?_ ?_ ?_ ?_ ?_ ?_ ?_ ?_ ?_ ?_
        · exact (hW.cell (p := ⟨w.heap.size, 0, none⟩) (by simp; omega)).trans (by rw [World.cell?_alloc_past _ _ _ (by omega)]; exact (HBB.out.cell (p := ⟨w.heap.size, 0, none⟩) (by simp)).trans (by simp [go_sem]))
        · exact (hW.cell (p := ⟨wr.heap.size, 0, none⟩) (by simp)).trans (by simp [go_sem])
        · exact (hW.cell (p := ⟨wr.heap.size, 1, none⟩) (by simp)).trans (by simp [go_sem])
        · exact (hW.cell (p := ⟨wr.heap.size, 2, none⟩) (by simp)).trans (by simp [go_sem])
        · exact (hW.cell (p := ⟨wr.heap.size, 3, none⟩) (by simp)).trans (by simp [go_sem])
        · exact (hW.cell (p := ⟨wr.heap.size, 4, none⟩) (by simp)).trans (by simp [go_sem])
        · exact (hW.cell (p := ⟨wr.heap.size, 5, none⟩) (by simp)).trans (by simp [go_sem])
        · exact (hW.cell (p := ⟨wr.heap.size, 6, none⟩) (by simp)).trans (by simp [go_sem])
        · exact (hW.cell (p := ⟨wr.heap.size, 7, none⟩) (by simp)).trans (by simp [go_sem])
        · exact (hW.cell (p := ⟨wr.heap.size, 8, none⟩) (by simp)).trans (by simp [go_sem])
      rintro r w2 ⟨rfl, hb2⟩
      have HB2 : Hid (Below (w.heap.size + 1) (w.alloc (.cells #[.func (.func 125) #[] #[]] 173)) w2) := (HBB.out.alloc (by omega) _).trans (hb2.mono (by simp; omega))
      have HBW := mkHid (HB1.out.trans (hb2.mono (by have := hBr.size; simp; omega)))
      clear hb2 e0 e1 e2 e3 e4 e5 e6 e7 e8
      cases hp : (l.take k).any (fun y => decide (l[k].name = y.name))
      · have HX := mkHid (differ_go (f := (·.name)) hlt HP.out hp)
        clear hp
        go_wp2_with fail
        go_roundw
        case rel => exact ⟨k + 1, by omega, by go_num, HX.out, HB2.out⟩
        case measure => simp [intOf]; omega
      · have HX := mkHid (differ_stop (f := (·.name)) hlt hp)
        clear hp
        go_wp2_with fail
        go_ret
        exact ⟨by rw [HX.out]; rfl, HBW.out⟩
    · have HX : Hid (differB (l.map (·.name)) = true) := by have := HP.out; rwa [List.take_of_length_le (by omega)] at this
      go_wp2_with fail
      go_ret
      exact ⟨by rw [HX.out]; rfl, HBR.out⟩

set_option maxHeartbeats 1000000 in
theorem parts1_any (w : World) (B : Nat) (x : List FieldD) (u : Value) (hu : ElFs B w u x) (hB : B ≤ w.heap.size) : Calls Tryz.prog 120 #[u] w fun r w' => r = .returned (.bool (differB (x.map (·.name)))) ∧ Below w.heap.size w w' := by
  obtain ⟨ai, ci, rfl, ea⟩ := hu
  have EA := mkHid ea
  clear ea
  go_enter Tryz.func120, Tryz.ntmps120
  go_wp2_with fail
  refine (differF_any _ B _ x EA.out hB).mono ?_
  rintro r w1 ⟨rfl, hb⟩
  go_wp2_with fail
  go_ret
  exact ⟨rfl, hb⟩
set_option maxHeartbeats 1000000 in
theorem parts2_any (w : World) (B : Nat) (x : ClassD) (u : Value) (hu : ElC B w u x) (hB : B ≤ w.heap.size) : Calls Tryz.prog 123 #[u] w fun r w' => r = .returned (.bool (differB (x.meths.map (·.name)))) ∧ Below w.heap.size w w' := by
  obtain ⟨fo, cf, mo, cm, rfl, -, em, -, -⟩ := hu
  have EM := mkHid em
  have HB0 := mkHid (fun o => (Below.refl w.heap.size w).alloc (Nat.le_refl _) o)
  clear em
  go_enter Tryz.func123, Tryz.ntmps123
  go_wp2_with fail
  refine (differM_any _ B _ x.meths (EM.out.keptM (Kp.below ((HB0.out _).mono hB))) (by simp; omega)).mono ?_
  rintro r w1 ⟨rfl, hb⟩
  have hb2 : Below w.heap.size w w1 := (HB0.out _).trans (hb.mono (by simp))
  clear hb
  go_wp2_with fail
  go_ret
  exact ⟨rfl, hb2⟩
set_option maxHeartbeats 1000000 in
theorem partsDiffer_any (w : World) (B b : Nat) (l : List ClassD) (vC vS vF vN vT vL : Value) (Bm : Nat) (hw : Web B w b l vC vS vF vN vT vL Bm) :
    Calls Tryz.prog 77 #[.pointer (some ⟨b, 0, none⟩)] w fun r w' => r = .returned (.bool (askParts l)) ∧ Below w.heap.size w w' := by
  have c2 := cell_of hw.blk 2 (x := vF) rfl
  have c0 := hw.cell0
  have hbl := lt_of hw.blk
  have sF := hw.sF
  have HC := mkHid hw.sC
  have hle := hw.le
  obtain ⟨ac, cc, rfl, -⟩ := hw.sC
  have HM : Hid (askParts l = ((((List.range l.length).map (fieldsOf l)).all fun x => differB (x.map (·.name))) && (l.all fun c => differB (c.meths.map (·.name))))) := by
    show askParts l = _
    rw [askParts, List.all_map]
    rfl
  clear hw
  generalize (List.range l.length).map (fieldsOf l) = LF at *
  have HF := mkHid sF
  obtain ⟨af, cf, rfl, -⟩ := sF
  go_enter Tryz.func77, Tryz.ntmps77
  go_wp2_with fail
  refine (everyFs_any _ B _ _ HF.out hle 120 #[] #[] (fun x => differB (x.map (·.name))) (fun args w => by kernel_rfl) ?_).mono ?_
  · intro x _ u W hW hu
    exact parts1_any W B x u hu (by have := hW.size; omega)
  rintro r w1 ⟨rfl, hb⟩
  have d0 : w1.cell? ⟨b, 0, none⟩ = some (.slice ac l.length cc) := (hb.cell (p := ⟨b, 0, none⟩) hbl).trans c0
  cases ha : LF.all fun x => differB (x.map (·.name))
  · have HR : Hid (askParts l = false) := by rw [HM.out, ha]; rfl
    clear ha
    go_wp2_with fail
    go_ret
    exact ⟨by rw [HR.out]; rfl, hb⟩
  have HR : Hid (askParts l = (l.all fun c => differB (c.meths.map (·.name)))) := by rw [HM.out, ha]; rfl
  clear ha
  go_wp2_with fail
  refine (everyC_any _ B _ _ (HC.out.keptC (Kp.below (hb.mono hle))) (by have := hb.size; omega) 123 #[] #[] (fun c => differB (c.meths.map (·.name))) (fun args w => by kernel_rfl) ?_).mono ?_
  · intro x _ u W hW hu
    exact parts2_any W B x u hu (by have := hW.size; have := hb.size; omega)
  rintro r w2 ⟨rfl, hb2⟩
  have hb3 := hb.trans (hb2.mono hb.size)
  clear hb hb2
  go_wp2_with fail
  go_ret
  exact ⟨by rw [HR.out]; rfl, hb3⟩

end Go.Proofs.YtkhconnebiiboaaGreatDoor
