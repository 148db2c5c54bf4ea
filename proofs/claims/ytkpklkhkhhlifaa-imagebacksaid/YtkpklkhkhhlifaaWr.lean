/- The contracts of the writer's methods on kinds, fields and handlers. -/
import Derived.Test.YtkpklkhkhhlifaaBuild
import Derived.Test.YtkpklkhkhhlifaaChkKind
import Derived.Deep.RegionWith
import Derived.Deep.DeepCutAuto
namespace Go.Proofs.Ytkpklkhkhhlifaa
open Go.RowKit

theorem heap_alloc_new (w : World) (o : Obj) : (w.alloc o).heap[w.heap.size]? = some o := by
  show (w.heap.push o)[w.heap.size]? = _
  exact Array.getElem?_push_size
theorem len_wText (s : ByteArray) : (wText s).length = s.size + 1 := by
  rw [wText, List.length_cons, Array.length_toList]
  rfl
theorem len_data (s : ByteArray) : s.data.toList.length = s.size := by
  rw [Array.length_toList]
  rfl
theorem len_wTwo (n : Int) : (wTwo n).length = 2 := rfl
theorem len_wFlag (b : Bool) : (wFlag b).length = 1 := rfl
theorem wKind_yes {k : KindD} (h : hasCls k.kind = true) : wKind k = toB k.kind :: wText k.cls := by rw [wKind, if_pos h]
theorem wKind_no {k : KindD} (h : hasCls k.kind = false) : wKind k = [toB k.kind] := by rw [wKind, if_neg (by rw [h]; decide)]

/-- The state in the middle of a writer's method: its argument in its own block, the builder. -/
structure Mid (w W : World) (q base : Nat) (bs : List UInt8) (cs : Array Value) (t : Nat) : Prop where
  kb : KB base q w W
  bd : Bd W q base bs
  bx : W.heap[w.heap.size]? = some (.cells cs t (0, 0))
theorem Mid.step {w W W' : World} {q base : Nat} {bs bs' : List UInt8} {cs : Array Value} {t : Nat} (h : Mid w W q base bs cs t) (hk : KB base q W W') (hb : Bd W' q base bs') (ht : t ≠ 5) (hqw : q < w.heap.size) : Mid w W' q base bs' cs t :=
  ⟨h.kb.trans hk, hb, (hk.other w.heap.size (by omega) ⟨cs, t, _, h.bx, ht⟩).trans h.bx⟩
theorem Mid.drew {w W : World} {q base : Nat} {bs : List UInt8} {cs : Array Value} {t : Nat} (h : Mid w W q base bs cs t) : Mid w W.drew q base bs cs t := ⟨h.kb.drew, ⟨h.bd.own, h.bd.fz, h.bd.lt, h.bd.le⟩, h.bx⟩
theorem Mid.cell {w W : World} {q base : Nat} {bs : List UInt8} {cs : Array Value} {t : Nat} (h : Mid w W q base bs cs t) (j : Nat) {x : Value} (hx : cs[j]? = some x) : W.cell? ⟨w.heap.size, j, none⟩ = some x := by
  simp [World.cell?, h.bx, hx]
theorem Mid.start {w : World} {q base : Nat} {bs : List UInt8} (h : Bd w q base bs) (cs : Array Value) (t : Nat) : Mid w (w.alloc (.cells cs t)) q base bs cs t :=
  have hb : Below w.heap.size w (w.alloc (.cells cs t)) := (Below.refl _ _).alloc (Nat.le_refl _) _
  ⟨KB.below hb h.le, h.below hb, heap_alloc_new w _⟩
theorem Mid.drewBd {w W : World} {q base : Nat} {bs : List UInt8} {cs : Array Value} {t : Nat} (h : Mid w W q base bs cs t) : Bd W.drew q base bs := ⟨h.bd.own, h.bd.fz, h.bd.lt, h.bd.le⟩
theorem Mid.kp {w W : World} {q base : Nat} {bs : List UInt8} {cs : Array Value} {t B : Nat} (h : Mid w W q base bs cs t) (hB : B ≤ q) : Kp (· < B) w W := ⟨h.kb.size, fun b hb _ => h.kb.block b (by have := h.bd.lt; omega) (by omega)⟩

set_option maxHeartbeats 1000000 in
theorem kind_w (w : World) (q base : Nat) (bs : List UInt8) (x : KindD) (h : Bd w q base bs) (hl : bs.length + (wKind x).length ≤ 70368744177664) :
    Calls Try.prog 58 #[.pointer (some ⟨q, 0, none⟩), .agg #[.int .i64 x.kind, .string x.cls]] w fun r w' => r = .returned (.tuple #[]) ∧ KB base q w w' ∧ Bd w' q base (bs ++ wKind x) := by
  have hlt := h.lt
  have hle := h.le
  have hq : q < w.heap.size := by omega
  have HL := mkHid hl
  have M0 := Mid.start h #[.int .i64 x.kind, .string x.cls] 51
  clear hl
  go_enter Try.func58, Try.ntmps58
  go_wp2_with fail
  generalize w.alloc (.cells #[.int .i64 x.kind, .string x.cls] 51) = W0 at *
  have y0 := M0.cell 0 (x := .int .i64 x.kind) rfl
  have hbd0 := M0.drewBd
  have HM0 := mkHid M0
  clear M0
  go_wp2_with fail
  go_cut [] (fun W => Mid w W q base (bs ++ [toB x.kind]) #[.int .i64 x.kind, .string x.cls] 51)
  case first =>
    go_region_with (go_at_call 40; refine (count_b _ q base bs x.kind hbd0 (by have := HL.out; omega)).mono ?_; rintro e w5 ⟨rfl, hk5, hb5⟩)
    all_goals
      go_wp2_with fail
      go_meet
      exact HM0.out.drew.step hk5 hb5 (by decide) hq
  case rest =>
    have M1 := hcut
    clear hcut y0 hbd0 HM0
    have y1 := M1.cell 0 (x := .int .i64 x.kind) rfl
    go_wp2_with fail
    refine (hasClass_any _ _).mono ?_
    rintro r w1 ⟨rfl, rfl⟩
    clear y1
    cases hc : hasCls x.kind
    · have HC := mkHid (wKind_no hc)
      have HM := mkHid M1
      clear hc M1
      go_wp2_with fail
      go_end0
      exact ⟨rfl, HM.out.kb, by rw [HC.out]; exact HM.out.bd⟩
    · have HC := mkHid (wKind_yes hc)
      have hl2 : bs.length + 1 + x.cls.size + 1 ≤ 70368744177664 := by
        have := HL.out
        rw [HC.out, List.length_cons, len_wText] at this
        omega
      have y1 := M1.cell 1 (x := .string x.cls) rfl
      have hbd1 := M1.drewBd
      have HM := mkHid M1
      clear hc M1
      go_wp2_with fail
      go_region_with (go_at_call 42; refine (text_b _ q base (bs ++ [toB x.kind]) x.cls hbd1 (by simp; omega)).mono ?_; rintro e w5 ⟨rfl, hk5, hb5⟩)
      all_goals
        go_wp2_with fail
        go_end0
        exact ⟨rfl, HM.out.kb.drew.trans hk5, by rw [HC.out, List.append_cons]; exact hb5⟩

set_option maxHeartbeats 1000000 in
theorem field_w (w : World) (q base : Nat) (bs : List UInt8) (x : FieldD) (h : Bd w q base bs) (hl : bs.length + (wField x).length ≤ 70368744177664) :
    Calls Try.prog 44 #[.pointer (some ⟨q, 0, none⟩), .agg #[.string x.name, .int .i64 x.kind.kind, .string x.kind.cls]] w fun r w' => r = .returned (.tuple #[]) ∧ KB base q w w' ∧ Bd w' q base (bs ++ wField x) := by
  have hlt := h.lt
  have hle := h.le
  have hq : q < w.heap.size := by omega
  rw [wField, List.length_append, len_wText] at hl
  have M0 := Mid.start h #[.string x.name, .int .i64 x.kind.kind, .string x.kind.cls] 53
  go_enter Try.func44, Try.ntmps44
  go_wp2_with fail
  generalize w.alloc (.cells #[.string x.name, .int .i64 x.kind.kind, .string x.kind.cls] 53) = W0 at *
  have y0 := M0.cell 0 (x := .string x.name) rfl
  have hbd0 := M0.drewBd
  have HM0 := mkHid M0
  clear M0
  go_wp2_with fail
  go_cut [] (fun W => Mid w W q base (bs ++ wText x.name) #[.string x.name, .int .i64 x.kind.kind, .string x.kind.cls] 53)
  case first =>
    go_region_with (go_at_call 42; refine (text_b _ q base bs x.name hbd0 (by omega)).mono ?_; rintro e w5 ⟨rfl, hk5, hb5⟩)
    all_goals
      go_wp2_with fail
      go_meet
      exact HM0.out.drew.step hk5 hb5 (by decide) hq
  case rest =>
    have M1 := hcut
    clear hcut y0 hbd0 HM0
    have y1 := M1.cell 1 (x := .int .i64 x.kind.kind) rfl
    have y2 := M1.cell 2 (x := .string x.kind.cls) rfl
    have HM := mkHid M1
    have hbd1 := M1.bd
    clear M1
    go_wp2_with fail
    refine (kind_w _ q base (bs ++ wText x.name) x.kind hbd1 (by rw [List.length_append, len_wText]; omega)).mono ?_
    rintro r w1 ⟨rfl, hk5, hb5⟩
    go_wp2_with fail
    go_end0
    exact ⟨rfl, HM.out.kb.trans hk5, by rw [wField, ← List.append_assoc]; exact hb5⟩

set_option maxHeartbeats 2000000 in
theorem handler_w (w : World) (q base : Nat) (bs : List UInt8) (x : HandD) (h : Bd w q base bs) (hl : bs.length + (wHand x).length ≤ 70368744177664) :
    Calls Try.prog 64 #[.pointer (some ⟨q, 0, none⟩), .agg #[.int .i64 x.frm, .int .i64 x.upto, .int .i64 x.loc, .string x.cls]] w fun r w' => r = .returned (.tuple #[]) ∧ KB base q w w' ∧ Bd w' q base (bs ++ wHand x) := by
  have hlt := h.lt
  have hle := h.le
  have hq : q < w.heap.size := by omega
  rw [wHand, List.length_append, List.length_append, List.length_append, len_wText, len_wTwo, len_wTwo, len_wTwo] at hl
  have M0 := Mid.start h #[.int .i64 x.frm, .int .i64 x.upto, .int .i64 x.loc, .string x.cls] 64
  go_enter Try.func64, Try.ntmps64
  go_wp2_with fail
  generalize w.alloc (.cells #[.int .i64 x.frm, .int .i64 x.upto, .int .i64 x.loc, .string x.cls] 64) = W0 at *
  have y0 := M0.cell 0 (x := .int .i64 x.frm) rfl
  have hbd0 := M0.drewBd
  have HM0 := mkHid M0
  clear M0
  go_wp2_with fail
  go_cut [] (fun W => Mid w W q base (bs ++ wTwo x.frm) #[.int .i64 x.frm, .int .i64 x.upto, .int .i64 x.loc, .string x.cls] 64)
  case first =>
    go_region_with (go_at_call 62; refine (number_b _ q base bs x.frm hbd0 (by omega)).mono ?_; rintro e w5 ⟨rfl, hk5, hb5⟩)
    all_goals
      go_wp2_with fail
      go_meet
      exact HM0.out.drew.step hk5 hb5 (by decide) hq
  case rest =>
    have M1 := hcut
    clear hcut y0 hbd0 HM0
    have y1 := M1.cell 1 (x := .int .i64 x.upto) rfl
    have hbd1 := M1.drewBd
    have HM1 := mkHid M1
    clear M1
    go_wp2_with fail
    go_cut [] (fun W => Mid w W q base (bs ++ wTwo x.frm ++ wTwo x.upto) #[.int .i64 x.frm, .int .i64 x.upto, .int .i64 x.loc, .string x.cls] 64)
    case first =>
      go_region_with (go_at_call 62; refine (number_b _ q base (bs ++ wTwo x.frm) x.upto hbd1 (by simp only [List.length_append, len_wTwo]; omega)).mono ?_; rintro e w5 ⟨rfl, hk5, hb5⟩)
      all_goals
        go_wp2_with fail
        go_meet
        exact HM1.out.drew.step hk5 hb5 (by decide) hq
    case rest =>
      have M2 := hcut
      clear hcut y1 hbd1 HM1
      have y2 := M2.cell 2 (x := .int .i64 x.loc) rfl
      have hbd2 := M2.drewBd
      have HM2 := mkHid M2
      clear M2
      go_wp2_with fail
      go_cut [] (fun W => Mid w W q base (bs ++ wTwo x.frm ++ wTwo x.upto ++ wTwo x.loc) #[.int .i64 x.frm, .int .i64 x.upto, .int .i64 x.loc, .string x.cls] 64)
      case first =>
        go_region_with (go_at_call 62; refine (number_b _ q base (bs ++ wTwo x.frm ++ wTwo x.upto) x.loc hbd2 (by simp only [List.length_append, len_wTwo]; omega)).mono ?_; rintro e w5 ⟨rfl, hk5, hb5⟩)
        all_goals
          go_wp2_with fail
          go_meet
          exact HM2.out.drew.step hk5 hb5 (by decide) hq
      case rest =>
        have M3 := hcut
        clear hcut y2 hbd2 HM2
        have y3 := M3.cell 3 (x := .string x.cls) rfl
        have hbd3 := M3.drewBd
        have HM := mkHid M3
        clear M3
        go_wp2_with fail
        go_region_with (go_at_call 42; refine (text_b _ q base (bs ++ wTwo x.frm ++ wTwo x.upto ++ wTwo x.loc) x.cls hbd3 (by simp only [List.length_append, len_wTwo]; omega)).mono ?_; rintro e w5 ⟨rfl, hk5, hb5⟩)
        all_goals
          go_wp2_with fail
          go_end0
          exact ⟨rfl, HM.out.kb.drew.trans hk5, by simpa only [wHand, List.append_assoc] using hb5⟩
theorem flag_w (w : World) (q base : Nat) (bs : List UInt8) (x : Bool) (h : Bd w q base bs) (hl : bs.length + 1 ≤ 70368744177664) :
    Calls Try.prog 60 #[.pointer (some ⟨q, 0, none⟩), .bool x] w fun r w' => r = .returned (.tuple #[]) ∧ KB base q w w' ∧ Bd w' q base (bs ++ wFlag x) := by
  have hlt := h.lt
  have hle := h.le
  have hq : q < w.heap.size := by omega
  cases x
  · go_enter Try.func60, Try.ntmps60
    go_wp2_with fail
    refine (count_b _ q base bs 0 h (by omega)).mono ?_
    rintro r w1 ⟨rfl, hk5, hb5⟩
    go_wp2_with fail
    go_end0
    exact ⟨rfl, hk5, hb5⟩
  · go_enter Try.func60, Try.ntmps60
    go_wp2_with fail
    refine (count_b _ q base bs 1 h (by omega)).mono ?_
    rintro r w1 ⟨rfl, hk5, hb5⟩
    go_wp2_with fail
    go_end0
    exact ⟨rfl, hk5, hb5⟩
end Go.Proofs.Ytkpklkhkhhlifaa
