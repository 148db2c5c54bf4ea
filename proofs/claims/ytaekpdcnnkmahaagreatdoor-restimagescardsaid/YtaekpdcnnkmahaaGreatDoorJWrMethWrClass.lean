/- The contract of the writer's method on methods. -/
import Derived.Test.YtaekpdcnnkmahaaGreatDoorJWrWrAll
namespace Go.Proofs.YtaekpdcnnkmahaaGreatDoor
open Go.RowKit

theorem len_wMeth (m : MethD) : (wMeth m).length = m.name.size + 1 + 1 + (wCounted wKind m.args).length + (wKind m.ret).length + 1 + 1 + 2 + m.code.size + (wCounted wHand m.hands).length := by
  simp only [wMeth, List.length_append, len_wText, len_wFlag, len_wTwo, len_data, List.length_cons, List.length_nil]

set_option maxHeartbeats 8000000 in
theorem method_w (w : World) (q base : Nat) (bs : List UInt8) (x : MethD) (va vh : Value) (B : Nat) (ha : SL 2 RK (· < B) w va x.args) (hh : SL 4 RH (· < B) w vh x.hands) (hB : B ≤ q) (h : Bd w q base bs) (hl : bs.length + (wMeth x).length ≤ 70368744177664) :
    Calls Tryz.prog 96 #[.pointer (some ⟨q, 0, none⟩), .agg #[.string x.name, .bool x.static, va, .int .i64 x.ret.kind, .string x.ret.cls, .int .i64 x.stack, .int .i64 x.locals, .string x.code, vh]] w fun r w' => r = .returned (.tuple #[]) ∧ KB base q w w' ∧ Bd w' q base (bs ++ wMeth x) := by
  have hlt := h.lt
  have hle := h.le
  have hq : q < w.heap.size := by omega
  have hmf : ∀ (fn : Fn) (first cap : Array Value) (w : World), (Instr.makeFunc fn first cap).run Tryz.prog w = .ok (.func fn first cap) w := fun _ _ _ _ => rfl
  rw [len_wMeth] at hl
  have HA := mkHid ha
  have HH := mkHid hh
  obtain ⟨ao, ca, rfl, -⟩ := ha
  obtain ⟨ho, ch, rfl, -⟩ := hh
  have M0 := Mid.start h #[.string x.name, .bool x.static, .slice ao x.args.length ca, .int .i64 x.ret.kind, .string x.ret.cls, .int .i64 x.stack, .int .i64 x.locals, .string x.code, .slice ho x.hands.length ch] 76
  go_enter Tryz.func96, Tryz.ntmps96
  go_wp2_with fail
  generalize w.alloc (.cells #[.string x.name, .bool x.static, .slice ao x.args.length ca, .int .i64 x.ret.kind, .string x.ret.cls, .int .i64 x.stack, .int .i64 x.locals, .string x.code, .slice ho x.hands.length ch] 76) = W0 at *
  have y0 := M0.cell 0 (x := .string x.name) rfl
  have hbd0 := M0.drewBd
  have HM0 := mkHid M0
  clear M0
  go_wp2_with fail
  go_cut [] (fun W => Mid w W q base (bs ++ wText x.name) #[.string x.name, .bool x.static, .slice ao x.args.length ca, .int .i64 x.ret.kind, .string x.ret.cls, .int .i64 x.stack, .int .i64 x.locals, .string x.code, .slice ho x.hands.length ch] 76)
  case first =>
    go_region_with (go_at_call 92; refine (text_b _ q base (bs) x.name hbd0 (by have q1 := len_wText x.name; have q2 := len_wFlag x.static; have q3 := len_wTwo x.code.size; have q4 := len_data x.code; first | omega | (simp only [List.length_append]; omega) | (simp only [List.length_append, List.length_cons, List.length_nil]; omega))).mono ?_; rintro e w5 ⟨rfl, hk5, hb5⟩)
    all_goals
      go_wp2_with fail
      go_meet
      exact HM0.out.drew.step hk5 hb5 (by decide) hq
  case rest =>
    have M1 := hcut
    clear hcut y0 hbd0 HM0
    have y1_0 := M1.cell 1 (x := .bool x.static) rfl
    have hbd1 := M1.bd
    go_wp2_with fail
    refine (flag_w _ q base (bs ++ wText x.name) x.static hbd1 (by have q1 := len_wText x.name; have q2 := len_wFlag x.static; have q3 := len_wTwo x.code.size; have q4 := len_data x.code; first | omega | (simp only [List.length_append]; omega) | (simp only [List.length_append, List.length_cons, List.length_nil]; omega))).mono ?_
    rintro r w1 ⟨rfl, hk5, hb5⟩
    have M2 : Mid w w1 q base (bs ++ wText x.name ++ wFlag x.static) #[.string x.name, .bool x.static, .slice ao x.args.length ca, .int .i64 x.ret.kind, .string x.ret.cls, .int .i64 x.stack, .int .i64 x.locals, .string x.code, .slice ho x.hands.length ch] 76 := M1.step hk5 hb5 (by decide) hq
    clear M1 hbd1 hk5 hb5 y1_0
    have y2 := M2.cell 2 (x := .slice ao x.args.length ca) rfl
    have hbd2 := M2.drewBd
    have HM2 := mkHid M2
    clear M2
    go_wp2_with fail
    go_cut [] (fun W => Mid w W q base (bs ++ wText x.name ++ wFlag x.static ++ wCounted wKind x.args) #[.string x.name, .bool x.static, .slice ao x.args.length ca, .int .i64 x.ret.kind, .string x.ret.cls, .int .i64 x.stack, .int .i64 x.locals, .string x.code, .slice ho x.hands.length ch] 76)
    case first =>
      go_region_with (go_at_call 137; refine (writeCountedK _ q base B (bs ++ wText x.name ++ wFlag x.static) x.args _ (HA.out.keptK (HM2.out.drew.kp hB)) hB hbd2 (by have q1 := len_wText x.name; have q2 := len_wFlag x.static; have q3 := len_wTwo x.code.size; have q4 := len_data x.code; first | omega | (simp only [List.length_append]; omega) | (simp only [List.length_append, List.length_cons, List.length_nil]; omega))).mono ?_; rintro e w5 ⟨rfl, hk5, hb5⟩)
      all_goals
        go_wp2_with fail
        go_meet
        exact HM2.out.drew.step hk5 hb5 (by decide) hq
    case rest =>
      have M3 := hcut
      clear hcut y2 hbd2 HM2
      have y3_0 := M3.cell 3 (x := .int .i64 x.ret.kind) rfl
      have y3_1 := M3.cell 4 (x := .string x.ret.cls) rfl
      have hbd3 := M3.bd
      go_wp2_with fail
      refine (kind_w _ q base (bs ++ wText x.name ++ wFlag x.static ++ wCounted wKind x.args) x.ret hbd3 (by have q1 := len_wText x.name; have q2 := len_wFlag x.static; have q3 := len_wTwo x.code.size; have q4 := len_data x.code; first | omega | (simp only [List.length_append]; omega) | (simp only [List.length_append, List.length_cons, List.length_nil]; omega))).mono ?_
      rintro r w3 ⟨rfl, hk5, hb5⟩
      have M4 : Mid w w3 q base (bs ++ wText x.name ++ wFlag x.static ++ wCounted wKind x.args ++ wKind x.ret) #[.string x.name, .bool x.static, .slice ao x.args.length ca, .int .i64 x.ret.kind, .string x.ret.cls, .int .i64 x.stack, .int .i64 x.locals, .string x.code, .slice ho x.hands.length ch] 76 := M3.step hk5 hb5 (by decide) hq
      clear M3 hbd3 hk5 hb5 y3_0 y3_1
      have y4 := M4.cell 5 (x := .int .i64 x.stack) rfl
      have hbd4 := M4.drewBd
      have HM4 := mkHid M4
      clear M4
      go_wp2_with fail
      go_cut [] (fun W => Mid w W q base (bs ++ wText x.name ++ wFlag x.static ++ wCounted wKind x.args ++ wKind x.ret ++ [toB x.stack]) #[.string x.name, .bool x.static, .slice ao x.args.length ca, .int .i64 x.ret.kind, .string x.ret.cls, .int .i64 x.stack, .int .i64 x.locals, .string x.code, .slice ho x.hands.length ch] 76)
      case first =>
        go_region_with (go_at_call 90; refine (count_b _ q base (bs ++ wText x.name ++ wFlag x.static ++ wCounted wKind x.args ++ wKind x.ret) x.stack hbd4 (by have q1 := len_wText x.name; have q2 := len_wFlag x.static; have q3 := len_wTwo x.code.size; have q4 := len_data x.code; first | omega | (simp only [List.length_append]; omega) | (simp only [List.length_append, List.length_cons, List.length_nil]; omega))).mono ?_; rintro e w5 ⟨rfl, hk5, hb5⟩)
        all_goals
          go_wp2_with fail
          go_meet
          exact HM4.out.drew.step hk5 hb5 (by decide) hq
      case rest =>
        have M5 := hcut
        clear hcut y4 hbd4 HM4
        have y5 := M5.cell 6 (x := .int .i64 x.locals) rfl
        have hbd5 := M5.drewBd
        have HM5 := mkHid M5
        clear M5
        go_wp2_with fail
        go_cut [] (fun W => Mid w W q base (bs ++ wText x.name ++ wFlag x.static ++ wCounted wKind x.args ++ wKind x.ret ++ [toB x.stack] ++ [toB x.locals]) #[.string x.name, .bool x.static, .slice ao x.args.length ca, .int .i64 x.ret.kind, .string x.ret.cls, .int .i64 x.stack, .int .i64 x.locals, .string x.code, .slice ho x.hands.length ch] 76)
        case first =>
          go_region_with (go_at_call 90; refine (count_b _ q base (bs ++ wText x.name ++ wFlag x.static ++ wCounted wKind x.args ++ wKind x.ret ++ [toB x.stack]) x.locals hbd5 (by have q1 := len_wText x.name; have q2 := len_wFlag x.static; have q3 := len_wTwo x.code.size; have q4 := len_data x.code; first | omega | (simp only [List.length_append]; omega) | (simp only [List.length_append, List.length_cons, List.length_nil]; omega))).mono ?_; rintro e w5 ⟨rfl, hk5, hb5⟩)
          all_goals
            go_wp2_with fail
            go_meet
            exact HM5.out.drew.step hk5 hb5 (by decide) hq
        case rest =>
          have M6 := hcut
          clear hcut y5 hbd5 HM5
          have y6 := M6.cell 7 (x := .string x.code) rfl
          have hbd6 := M6.drewBd
          have HM6 := mkHid M6
          clear M6
          go_wp2_with fail
          go_cut [] (fun W => Mid w W q base (bs ++ wText x.name ++ wFlag x.static ++ wCounted wKind x.args ++ wKind x.ret ++ [toB x.stack] ++ [toB x.locals] ++ wTwo x.code.size) #[.string x.name, .bool x.static, .slice ao x.args.length ca, .int .i64 x.ret.kind, .string x.ret.cls, .int .i64 x.stack, .int .i64 x.locals, .string x.code, .slice ho x.hands.length ch] 76)
          case first =>
            go_region_with (go_at_call 138; refine (number_b _ q base (bs ++ wText x.name ++ wFlag x.static ++ wCounted wKind x.args ++ wKind x.ret ++ [toB x.stack] ++ [toB x.locals]) x.code.size hbd6 (by have q1 := len_wText x.name; have q2 := len_wFlag x.static; have q3 := len_wTwo x.code.size; have q4 := len_data x.code; first | omega | (simp only [List.length_append]; omega) | (simp only [List.length_append, List.length_cons, List.length_nil]; omega))).mono ?_; rintro e w5 ⟨rfl, hk5, hb5⟩)
            all_goals
              go_wp2_with fail
              go_meet
              exact HM6.out.drew.step hk5 hb5 (by decide) hq
          case rest =>
            have M7 := hcut
            clear hcut y6 hbd6 HM6
            have y7 := M7.cell 7 (x := .string x.code) rfl
            have hbd7 := M7.drewBd
            have HM7 := mkHid M7
            clear M7
            go_wp2_with fail
            go_cut [] (fun W => Mid w W q base (bs ++ wText x.name ++ wFlag x.static ++ wCounted wKind x.args ++ wKind x.ret ++ [toB x.stack] ++ [toB x.locals] ++ wTwo x.code.size ++ x.code.data.toList) #[.string x.name, .bool x.static, .slice ao x.args.length ca, .int .i64 x.ret.kind, .string x.ret.cls, .int .i64 x.stack, .int .i64 x.locals, .string x.code, .slice ho x.hands.length ch] 76)
            case first =>
              go_region_with (go_at_call 132; refine (bytes_b _ q base (bs ++ wText x.name ++ wFlag x.static ++ wCounted wKind x.args ++ wKind x.ret ++ [toB x.stack] ++ [toB x.locals] ++ wTwo x.code.size) x.code hbd7 (by have q1 := len_wText x.name; have q2 := len_wFlag x.static; have q3 := len_wTwo x.code.size; have q4 := len_data x.code; first | omega | (simp only [List.length_append]; omega) | (simp only [List.length_append, List.length_cons, List.length_nil]; omega))).mono ?_; rintro e w5 ⟨rfl, hk5, hb5⟩)
              all_goals
                go_wp2_with fail
                go_meet
                exact HM7.out.drew.step hk5 hb5 (by decide) hq
            case rest =>
              have M8 := hcut
              clear hcut y7 hbd7 HM7
              have y8 := M8.cell 8 (x := .slice ho x.hands.length ch) rfl
              have hbd8 := M8.drewBd
              have HM8 := mkHid M8
              clear M8
              go_wp2_with fail
              go_region_with (go_at_call 139; refine (writeCountedH _ q base B (bs ++ wText x.name ++ wFlag x.static ++ wCounted wKind x.args ++ wKind x.ret ++ [toB x.stack] ++ [toB x.locals] ++ wTwo x.code.size ++ x.code.data.toList) x.hands _ (HH.out.keptH (HM8.out.drew.kp hB)) hB hbd8 (by have q1 := len_wText x.name; have q2 := len_wFlag x.static; have q3 := len_wTwo x.code.size; have q4 := len_data x.code; first | omega | (simp only [List.length_append]; omega) | (simp only [List.length_append, List.length_cons, List.length_nil]; omega))).mono ?_; rintro e w5 ⟨rfl, hk5, hb5⟩)
              all_goals
                go_wp2_with fail
                go_end0
                exact ⟨rfl, HM8.out.kb.drew.trans hk5, by simpa only [wMeth, List.append_assoc] using hb5⟩

set_option maxHeartbeats 1000000 in
theorem writeAllM (w : World) (q base B : Nat) (bs : List UInt8) (l : List MethD) (v : Value) (hv : SL 9 RM (· < B) w v l) (hB : B ≤ q) (h : Bd w q base bs) (hl : bs.length + (l.flatMap wMeth).length ≤ 70368744177664) :
    Calls Tryz.prog 135 #[v, .func (.func 96) #[.pointer (some ⟨q, 0, none⟩)] #[]] w fun r w' => r = .returned (.tuple #[]) ∧ KB base q w w' ∧ Bd w' q base (bs ++ l.flatMap wMeth) := by
  have hlt := h.lt
  have hle := h.le
  have HV := mkHid hv
  obtain ⟨ao, cl, rfl, hcl, hll, -⟩ := hv
  unfold maxLen at hll
  go_enter Tryz.func135, Tryz.ntmps135
  go_wp2
  go_loopw [8] (fun i wr => ∃ k : Nat, k ≤ l.length ∧ i = .int .i64 k ∧ KB base q w wr ∧ Bd wr q base (bs ++ (l.take k).flatMap wMeth)) (fun i _ => l.length - (intOf i).toNat)
  case atStart => exact ⟨0, Nat.zero_le _, rfl, KB.refl _ _ _, by simpa using h⟩
  case round =>
    obtain ⟨k, hk, rfl, hkb, hbd⟩ := hrel
    have hszr := hkb.size
    by_cases hltk : k < l.length
    · have hkp : Kp (· < B) w wr := ⟨hkb.size, fun b hb _ => hkb.block b (by omega) (by omega)⟩
      have hfl := flat_len wMeth l k hltk
      have hfs := flat_snoc wMeth l k hltk
      obtain ⟨b, off, va, vh, rfl, hbl, e0, e1, e2, e3, e4, e5, e6, e7, e8, ea, eh, es1, es2, es3⟩ := (HV.out.keptM hkp).atM k hltk
      have EA := mkHid ea
      have EH := mkHid eh
      obtain ⟨ao, ca, rfl, -⟩ := ea
      obtain ⟨ho, ch, rfl, -⟩ := eh
      have hBr : ∀ o, Below wr.heap.size wr (wr.alloc o) := fun o => (Below.refl _ _).alloc (Nat.le_refl _) o
      have HBR := mkHid hBr
      have HBD := mkHid hbd
      have hler := hbd.le
      have HFS := mkHid hfs
      clear hBr hbd hfs hkp
      go_wp2_with fail
      refine (method_w _ q base (bs ++ (l.take k).flatMap wMeth) l[k] _ _ B (EA.out.keptK (Kp.below ((Below.refl _ _).alloc (by omega) _))) (EH.out.keptH (Kp.below ((Below.refl _ _).alloc (by omega) _))) hB (HBD.out.below (HBR.out _)) (by rw [List.length_append]; omega)).mono ?_
      rintro r w1 ⟨rfl, hk1, hb1⟩
      have hkb1 : KB base q w w1 := hkb.trans ((KB.below (HBR.out _) hler).trans hk1)
      clear hk1 hkb HBD HBR e0 e1 e2 e3 e4 e5 e6 e7 e8
      go_wp2_with fail
      go_roundw
      case rel => exact ⟨k + 1, by omega, by go_num, hkb1, by rw [HFS.out, ← List.append_assoc]; exact hb1⟩
      case measure => simp [intOf]; omega
    · go_wp2_with fail
      go_end0
      exact ⟨rfl, hkb, by rw [List.take_of_length_le (by omega)] at hbd; exact hbd⟩

theorem writeCountedM (w : World) (q base B : Nat) (bs : List UInt8) (l : List MethD) (v : Value) (hv : SL 9 RM (· < B) w v l) (hB : B ≤ q) (h : Bd w q base bs) (hl : bs.length + (wCounted wMeth l).length ≤ 70368744177664) :
    Calls Tryz.prog 95 #[.pointer (some ⟨q, 0, none⟩), v, .func (.func 96) #[.pointer (some ⟨q, 0, none⟩)] #[]] w fun r w' => r = .returned (.tuple #[]) ∧ KB base q w w' ∧ Bd w' q base (bs ++ wCounted wMeth l) := by
  have hlt := h.lt
  have hle := h.le
  rw [wCounted, List.length_cons] at hl
  have HV := mkHid hv
  obtain ⟨ao, cl, rfl, hcl, hll, -⟩ := hv
  go_enter Tryz.func95, Tryz.ntmps95
  go_wp2_with fail
  refine (count_b _ q base bs l.length h (by omega)).mono ?_
  rintro r w1 ⟨rfl, hk1, hb1⟩
  go_wp2_with fail
  refine (writeAllM _ q base B (bs ++ [toB l.length]) l _ (HV.out.keptM ⟨hk1.size, fun b hb _ => hk1.block b (by omega) (by omega)⟩) hB hb1 (by simp only [List.length_append, List.length_cons, List.length_nil]; omega)).mono ?_
  rintro r w2 ⟨rfl, hk2, hb2⟩
  go_wp2_with fail
  go_end0
  exact ⟨rfl, hk1.trans hk2, by rw [wCounted, List.append_cons]; exact hb2⟩

end Go.Proofs.YtaekpdcnnkmahaaGreatDoor
/- The contract of the writer's method on classes. -/
namespace Go.Proofs.YtaekpdcnnkmahaaGreatDoor
open Go.RowKit

theorem len_wClass (c : ClassD) : (wClass c).length = c.name.size + 1 + (c.super.size + 1) + (wCounted wField c.fields).length + (wCounted wMeth c.meths).length := by
  simp only [wClass, List.length_append, len_wText]

set_option maxHeartbeats 4000000 in
theorem class_w (w : World) (q base : Nat) (bs : List UInt8) (x : ClassD) (vf vm : Value) (B : Nat) (ha : SL 3 RF (· < B) w vf x.fields) (hh : SL 9 RM (· < B) w vm x.meths) (hB : B ≤ q) (h : Bd w q base bs) (hl : bs.length + (wClass x).length ≤ 70368744177664) :
    Calls Tryz.prog 57 #[.pointer (some ⟨q, 0, none⟩), .agg #[.string x.name, .string x.super, vf, vm]] w fun r w' => r = .returned (.tuple #[]) ∧ KB base q w w' ∧ Bd w' q base (bs ++ wClass x) := by
  have hlt := h.lt
  have hle := h.le
  have hq : q < w.heap.size := by omega
  have hmf : ∀ (fn : Fn) (first cap : Array Value) (w : World), (Instr.makeFunc fn first cap).run Tryz.prog w = .ok (.func fn first cap) w := fun _ _ _ _ => rfl
  rw [len_wClass] at hl
  have HA := mkHid ha
  have HH := mkHid hh
  obtain ⟨fo, cf, rfl, -⟩ := ha
  obtain ⟨mo, cm, rfl, -⟩ := hh
  have M0 := Mid.start h #[.string x.name, .string x.super, .slice fo x.fields.length cf, .slice mo x.meths.length cm] 61
  go_enter Tryz.func57, Tryz.ntmps57
  go_wp2_with fail
  generalize w.alloc (.cells #[.string x.name, .string x.super, .slice fo x.fields.length cf, .slice mo x.meths.length cm] 61) = W0 at *
  have y0 := M0.cell 0 (x := .string x.name) rfl
  have hbd0 := M0.drewBd
  have HM0 := mkHid M0
  clear M0
  go_wp2_with fail
  go_cut [] (fun W => Mid w W q base (bs ++ wText x.name) #[.string x.name, .string x.super, .slice fo x.fields.length cf, .slice mo x.meths.length cm] 61)
  case first =>
    go_region_with (go_at_call 92; refine (text_b _ q base (bs) x.name hbd0 (by have q1 := len_wText x.name; have q2 := len_wText x.super; first | omega | (simp only [List.length_append]; omega))).mono ?_; rintro e w5 ⟨rfl, hk5, hb5⟩)
    all_goals
      go_wp2_with fail
      go_meet
      exact HM0.out.drew.step hk5 hb5 (by decide) hq
  case rest =>
    have M1 := hcut
    clear hcut y0 hbd0 HM0
    have y1 := M1.cell 1 (x := .string x.super) rfl
    have hbd1 := M1.drewBd
    have HM1 := mkHid M1
    clear M1
    go_wp2_with fail
    go_cut [] (fun W => Mid w W q base (bs ++ wText x.name ++ wText x.super) #[.string x.name, .string x.super, .slice fo x.fields.length cf, .slice mo x.meths.length cm] 61)
    case first =>
      go_region_with (go_at_call 92; refine (text_b _ q base (bs ++ wText x.name) x.super hbd1 (by have q1 := len_wText x.name; have q2 := len_wText x.super; first | omega | (simp only [List.length_append]; omega))).mono ?_; rintro e w5 ⟨rfl, hk5, hb5⟩)
      all_goals
        go_wp2_with fail
        go_meet
        exact HM1.out.drew.step hk5 hb5 (by decide) hq
    case rest =>
      have M2 := hcut
      clear hcut y1 hbd1 HM1
      have y2 := M2.cell 2 (x := .slice fo x.fields.length cf) rfl
      have hbd2 := M2.drewBd
      have HM2 := mkHid M2
      clear M2
      go_wp2_with fail
      go_cut [] (fun W => Mid w W q base (bs ++ wText x.name ++ wText x.super ++ wCounted wField x.fields) #[.string x.name, .string x.super, .slice fo x.fields.length cf, .slice mo x.meths.length cm] 61)
      case first =>
        go_region_with (go_at_call 93; refine (writeCountedF _ q base B (bs ++ wText x.name ++ wText x.super) x.fields _ (HA.out.keptF (HM2.out.drew.kp hB)) hB hbd2 (by have q1 := len_wText x.name; have q2 := len_wText x.super; first | omega | (simp only [List.length_append]; omega))).mono ?_; rintro e w5 ⟨rfl, hk5, hb5⟩)
        all_goals
          go_wp2_with fail
          go_meet
          exact HM2.out.drew.step hk5 hb5 (by decide) hq
      case rest =>
        have M3 := hcut
        clear hcut y2 hbd2 HM2
        have y3 := M3.cell 3 (x := .slice mo x.meths.length cm) rfl
        have hbd3 := M3.drewBd
        have HM3 := mkHid M3
        clear M3
        go_wp2_with fail
        go_region_with (go_at_call 95; refine (writeCountedM _ q base B (bs ++ wText x.name ++ wText x.super ++ wCounted wField x.fields) x.meths _ (HH.out.keptM (HM3.out.drew.kp hB)) hB hbd3 (by have q1 := len_wText x.name; have q2 := len_wText x.super; first | omega | (simp only [List.length_append]; omega))).mono ?_; rintro e w5 ⟨rfl, hk5, hb5⟩)
        all_goals
          go_wp2_with fail
          go_end0
          exact ⟨rfl, HM3.out.kb.drew.trans hk5, by simpa only [wClass, List.append_assoc] using hb5⟩

set_option maxHeartbeats 1000000 in
theorem writeAllC (w : World) (q base B : Nat) (bs : List UInt8) (l : List ClassD) (v : Value) (hv : SL 4 RC (· < B) w v l) (hB : B ≤ q) (h : Bd w q base bs) (hl : bs.length + (l.flatMap wClass).length ≤ 70368744177664) :
    Calls Tryz.prog 91 #[v, .func (.func 57) #[.pointer (some ⟨q, 0, none⟩)] #[]] w fun r w' => r = .returned (.tuple #[]) ∧ KB base q w w' ∧ Bd w' q base (bs ++ l.flatMap wClass) := by
  have hlt := h.lt
  have hle := h.le
  have HV := mkHid hv
  obtain ⟨ao, cl, rfl, hcl, hll, -⟩ := hv
  unfold maxLen at hll
  go_enter Tryz.func91, Tryz.ntmps91
  go_wp2
  go_loopw [8] (fun i wr => ∃ k : Nat, k ≤ l.length ∧ i = .int .i64 k ∧ KB base q w wr ∧ Bd wr q base (bs ++ (l.take k).flatMap wClass)) (fun i _ => l.length - (intOf i).toNat)
  case atStart => exact ⟨0, Nat.zero_le _, rfl, KB.refl _ _ _, by simpa using h⟩
  case round =>
    obtain ⟨k, hk, rfl, hkb, hbd⟩ := hrel
    have hszr := hkb.size
    by_cases hltk : k < l.length
    · have hkp : Kp (· < B) w wr := ⟨hkb.size, fun b hb _ => hkb.block b (by omega) (by omega)⟩
      have hfl := flat_len wClass l k hltk
      have hfs := flat_snoc wClass l k hltk
      obtain ⟨b, off, vf, vm, rfl, hbl, e0, e1, e2, e3, ef, em, es1, es2⟩ := (HV.out.keptC hkp).atC k hltk
      have EF := mkHid ef
      have EM := mkHid em
      obtain ⟨fo, cf, rfl, -⟩ := ef
      obtain ⟨mo, cm, rfl, -⟩ := em
      have hBr : ∀ o, Below wr.heap.size wr (wr.alloc o) := fun o => (Below.refl _ _).alloc (Nat.le_refl _) o
      have HBR := mkHid hBr
      have HBD := mkHid hbd
      have hler := hbd.le
      have HFS := mkHid hfs
      clear hBr hbd hfs hkp
      go_wp2_with fail
      refine (class_w _ q base (bs ++ (l.take k).flatMap wClass) l[k] _ _ B (EF.out.keptF (Kp.below ((Below.refl _ _).alloc (by omega) _))) (EM.out.keptM (Kp.below ((Below.refl _ _).alloc (by omega) _))) hB (HBD.out.below (HBR.out _)) (by rw [List.length_append]; omega)).mono ?_
      rintro r w1 ⟨rfl, hk1, hb1⟩
      have hkb1 : KB base q w w1 := hkb.trans ((KB.below (HBR.out _) hler).trans hk1)
      clear hk1 hkb HBD HBR e0 e1 e2 e3
      go_wp2_with fail
      go_roundw
      case rel => exact ⟨k + 1, by omega, by go_num, hkb1, by rw [HFS.out, ← List.append_assoc]; exact hb1⟩
      case measure => simp [intOf]; omega
    · go_wp2_with fail
      go_end0
      exact ⟨rfl, hkb, by rw [List.take_of_length_le (by omega)] at hbd; exact hbd⟩

theorem writeCountedC (w : World) (q base B : Nat) (bs : List UInt8) (l : List ClassD) (v : Value) (hv : SL 4 RC (· < B) w v l) (hB : B ≤ q) (h : Bd w q base bs) (hl : bs.length + (wCounted wClass l).length ≤ 70368744177664) :
    Calls Tryz.prog 56 #[.pointer (some ⟨q, 0, none⟩), v, .func (.func 57) #[.pointer (some ⟨q, 0, none⟩)] #[]] w fun r w' => r = .returned (.tuple #[]) ∧ KB base q w w' ∧ Bd w' q base (bs ++ wCounted wClass l) := by
  have hlt := h.lt
  have hle := h.le
  rw [wCounted, List.length_cons] at hl
  have HV := mkHid hv
  obtain ⟨ao, cl, rfl, hcl, hll, -⟩ := hv
  go_enter Tryz.func56, Tryz.ntmps56
  go_wp2_with fail
  refine (count_b _ q base bs l.length h (by omega)).mono ?_
  rintro r w1 ⟨rfl, hk1, hb1⟩
  go_wp2_with fail
  refine (writeAllC _ q base B (bs ++ [toB l.length]) l _ (HV.out.keptC ⟨hk1.size, fun b hb _ => hk1.block b (by omega) (by omega)⟩) hB hb1 (by simp only [List.length_append, List.length_cons, List.length_nil]; omega)).mono ?_
  rintro r w2 ⟨rfl, hk2, hb2⟩
  go_wp2_with fail
  go_end0
  exact ⟨rfl, hk1.trans hk2, by rw [wCounted, List.append_cons]; exact hb2⟩

end Go.Proofs.YtaekpdcnnkmahaaGreatDoor
