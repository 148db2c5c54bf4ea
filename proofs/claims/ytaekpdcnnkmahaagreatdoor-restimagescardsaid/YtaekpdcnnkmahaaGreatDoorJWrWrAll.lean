/- The contracts of the writer's methods on kinds, fields and handlers. -/
import Derived.Test.YtaekpdcnnkmahaaGreatDoorBuild
import Derived.Test.YtaekpdcnnkmahaaGreatDoorJChkLeafChkClass
import Derived.Deep.RegionWith
import Derived.Deep.DeepCutAuto
namespace Go.Proofs.YtaekpdcnnkmahaaGreatDoor
open Go.RowKit

theorem heap_alloc_new (w : World) (o : Obj) : (w.alloc o).heap[w.heap.size]? = some o := by
  show (w.heap.push o)[w.heap.size]? = _
  exact Array.getElem?_push_size
theorem len_wText (s : ByteArray) : (wText s).length = s.size + 1 := by
  rw [wText, List.length_cons, Array.length_toList]
  rfl
theorem len_data (s : ByteArray) : s.data.toList.length = s.size := by
  rw [Array.length_toList]
  rfl
theorem len_wTwo (n : Int) : (wTwo n).length = 2 := rfl
theorem len_wFlag (b : Bool) : (wFlag b).length = 1 := rfl
theorem wKind_yes {k : KindD} (h : hasCls k.kind = true) : wKind k = toB k.kind :: wText k.cls := by rw [wKind, if_pos h]
theorem wKind_no {k : KindD} (h : hasCls k.kind = false) : wKind k = [toB k.kind] := by rw [wKind, if_neg (by rw [h]; decide)]

/-- The state in the middle of a writer's method: its argument in its own block, the builder. -/
structure Mid (w W : World) (q base : Nat) (bs : List UInt8) (cs : Array Value) (t : Nat) : Prop where
  kb : KB base q w W
  bd : Bd W q base bs
  bx : W.heap[w.heap.size]? = some (.cells cs t (0, 0))
theorem Mid.step {w W W' : World} {q base : Nat} {bs bs' : List UInt8} {cs : Array Value} {t : Nat} (h : Mid w W q base bs cs t) (hk : KB base q W W') (hb : Bd W' q base bs') (ht : t ≠ 5) (hqw : q < w.heap.size) : Mid w W' q base bs' cs t :=
  ⟨h.kb.trans hk, hb, (hk.other w.heap.size (by omega) ⟨cs, t, _, h.bx, ht⟩).trans h.bx⟩
theorem Mid.drew {w W : World} {q base : Nat} {bs : List UInt8} {cs : Array Value} {t : Nat} (h : Mid w W q base bs cs t) : Mid w W.drew q base bs cs t := ⟨h.kb.drew, ⟨h.bd.own, h.bd.fz, h.bd.lt, h.bd.le⟩, h.bx⟩
theorem Mid.cell {w W : World} {q base : Nat} {bs : List UInt8} {cs : Array Value} {t : Nat} (h : Mid w W q base bs cs t) (j : Nat) {x : Value} (hx : cs[j]? = some x) : W.cell? ⟨w.heap.size, j, none⟩ = some x := by
  simp [World.cell?, h.bx, hx]
theorem Mid.start {w : World} {q base : Nat} {bs : List UInt8} (h : Bd w q base bs) (cs : Array Value) (t : Nat) : Mid w (w.alloc (.cells cs t)) q base bs cs t :=
  have hb : Below w.heap.size w (w.alloc (.cells cs t)) := (Below.refl _ _).alloc (Nat.le_refl _) _
  ⟨KB.below hb h.le, h.below hb, heap_alloc_new w _⟩
theorem Mid.drewBd {w W : World} {q base : Nat} {bs : List UInt8} {cs : Array Value} {t : Nat} (h : Mid w W q base bs cs t) : Bd W.drew q base bs := ⟨h.bd.own, h.bd.fz, h.bd.lt, h.bd.le⟩
theorem Mid.kp {w W : World} {q base : Nat} {bs : List UInt8} {cs : Array Value} {t B : Nat} (h : Mid w W q base bs cs t) (hB : B ≤ q) : Kp (· < B) w W := ⟨h.kb.size, fun b hb _ => h.kb.block b (by have := h.bd.lt; omega) (by omega)⟩

set_option maxHeartbeats 1000000 in
theorem kind_w (w : World) (q base : Nat) (bs : List UInt8) (x : KindD) (h : Bd w q base bs) (hl : bs.length + (wKind x).length ≤ 70368744177664) :
    Calls Tryz.prog 134 #[.pointer (some ⟨q, 0, none⟩), .agg #[.int .i64 x.kind, .string x.cls]] w fun r w' => r = .returned (.tuple #[]) ∧ KB base q w w' ∧ Bd w' q base (bs ++ wKind x) := by
  have hlt := h.lt
  have hle := h.le
  have hq : q < w.heap.size := by omega
  have HL := mkHid hl
  have M0 := Mid.start h #[.int .i64 x.kind, .string x.cls] 51
  clear hl
  go_enter Tryz.func134, Tryz.ntmps134
  go_wp2_with fail
  generalize w.alloc (.cells #[.int .i64 x.kind, .string x.cls] 51) = W0 at *
  have y0 := M0.cell 0 (x := .int .i64 x.kind) rfl
  have hbd0 := M0.drewBd
  have HM0 := mkHid M0
  clear M0
  go_wp2_with fail
  go_cut [] (fun W => Mid w W q base (bs ++ [toB x.kind]) #[.int .i64 x.kind, .string x.cls] 51)
  case first =>
    go_region_with (go_at_call 90; refine (count_b _ q base bs x.kind hbd0 (by have := HL.out; omega)).mono ?_; rintro e w5 ⟨rfl, hk5, hb5⟩)
    all_goals
      go_wp2_with fail
      go_meet
      exact HM0.out.drew.step hk5 hb5 (by decide) hq
  case rest =>
    have M1 := hcut
    clear hcut y0 hbd0 HM0
    have y1 := M1.cell 0 (x := .int .i64 x.kind) rfl
    go_wp2_with fail
    refine (hasClass_any _ _).mono ?_
    rintro r w1 ⟨rfl, rfl⟩
    clear y1
    cases hc : hasCls x.kind
    · have HC := mkHid (wKind_no hc)
      have HM := mkHid M1
      clear hc M1
      go_wp2_with fail
      go_end0
      exact ⟨rfl, HM.out.kb, by rw [HC.out]; exact HM.out.bd⟩
    · have HC := mkHid (wKind_yes hc)
      have hl2 : bs.length + 1 + x.cls.size + 1 ≤ 70368744177664 := by
        have := HL.out
        rw [HC.out, List.length_cons, len_wText] at this
        omega
      have y1 := M1.cell 1 (x := .string x.cls) rfl
      have hbd1 := M1.drewBd
      have HM := mkHid M1
      clear hc M1
      go_wp2_with fail
      go_region_with (go_at_call 92; refine (text_b _ q base (bs ++ [toB x.kind]) x.cls hbd1 (by simp; omega)).mono ?_; rintro e w5 ⟨rfl, hk5, hb5⟩)
      all_goals
        go_wp2_with fail
        go_end0
        exact ⟨rfl, HM.out.kb.drew.trans hk5, by rw [HC.out, List.append_cons]; exact hb5⟩

set_option maxHeartbeats 1000000 in
theorem field_w (w : World) (q base : Nat) (bs : List UInt8) (x : FieldD) (h : Bd w q base bs) (hl : bs.length + (wField x).length ≤ 70368744177664) :
    Calls Tryz.prog 94 #[.pointer (some ⟨q, 0, none⟩), .agg #[.string x.name, .int .i64 x.kind.kind, .string x.kind.cls]] w fun r w' => r = .returned (.tuple #[]) ∧ KB base q w w' ∧ Bd w' q base (bs ++ wField x) := by
  have hlt := h.lt
  have hle := h.le
  have hq : q < w.heap.size := by omega
  rw [wField, List.length_append, len_wText] at hl
  have M0 := Mid.start h #[.string x.name, .int .i64 x.kind.kind, .string x.kind.cls] 53
  go_enter Tryz.func94, Tryz.ntmps94
  go_wp2_with fail
  generalize w.alloc (.cells #[.string x.name, .int .i64 x.kind.kind, .string x.kind.cls] 53) = W0 at *
  have y0 := M0.cell 0 (x := .string x.name) rfl
  have hbd0 := M0.drewBd
  have HM0 := mkHid M0
  clear M0
  go_wp2_with fail
  go_cut [] (fun W => Mid w W q base (bs ++ wText x.name) #[.string x.name, .int .i64 x.kind.kind, .string x.kind.cls] 53)
  case first =>
    go_region_with (go_at_call 92; refine (text_b _ q base bs x.name hbd0 (by omega)).mono ?_; rintro e w5 ⟨rfl, hk5, hb5⟩)
    all_goals
      go_wp2_with fail
      go_meet
      exact HM0.out.drew.step hk5 hb5 (by decide) hq
  case rest =>
    have M1 := hcut
    clear hcut y0 hbd0 HM0
    have y1 := M1.cell 1 (x := .int .i64 x.kind.kind) rfl
    have y2 := M1.cell 2 (x := .string x.kind.cls) rfl
    have HM := mkHid M1
    have hbd1 := M1.bd
    clear M1
    go_wp2_with fail
    refine (kind_w _ q base (bs ++ wText x.name) x.kind hbd1 (by rw [List.length_append, len_wText]; omega)).mono ?_
    rintro r w1 ⟨rfl, hk5, hb5⟩
    go_wp2_with fail
    go_end0
    exact ⟨rfl, HM.out.kb.trans hk5, by rw [wField, ← List.append_assoc]; exact hb5⟩

set_option maxHeartbeats 2000000 in
theorem handler_w (w : World) (q base : Nat) (bs : List UInt8) (x : HandD) (h : Bd w q base bs) (hl : bs.length + (wHand x).length ≤ 70368744177664) :
    Calls Tryz.prog 140 #[.pointer (some ⟨q, 0, none⟩), .agg #[.int .i64 x.frm, .int .i64 x.upto, .int .i64 x.loc, .string x.cls]] w fun r w' => r = .returned (.tuple #[]) ∧ KB base q w w' ∧ Bd w' q base (bs ++ wHand x) := by
  have hlt := h.lt
  have hle := h.le
  have hq : q < w.heap.size := by omega
  rw [wHand, List.length_append, List.length_append, List.length_append, len_wText, len_wTwo, len_wTwo, len_wTwo] at hl
  have M0 := Mid.start h #[.int .i64 x.frm, .int .i64 x.upto, .int .i64 x.loc, .string x.cls] 79
  go_enter Tryz.func140, Tryz.ntmps140
  go_wp2_with fail
  generalize w.alloc (.cells #[.int .i64 x.frm, .int .i64 x.upto, .int .i64 x.loc, .string x.cls] 79) = W0 at *
  have y0 := M0.cell 0 (x := .int .i64 x.frm) rfl
  have hbd0 := M0.drewBd
  have HM0 := mkHid M0
  clear M0
  go_wp2_with fail
  go_cut [] (fun W => Mid w W q base (bs ++ wTwo x.frm) #[.int .i64 x.frm, .int .i64 x.upto, .int .i64 x.loc, .string x.cls] 79)
  case first =>
    go_region_with (go_at_call 138; refine (number_b _ q base bs x.frm hbd0 (by omega)).mono ?_; rintro e w5 ⟨rfl, hk5, hb5⟩)
    all_goals
      go_wp2_with fail
      go_meet
      exact HM0.out.drew.step hk5 hb5 (by decide) hq
  case rest =>
    have M1 := hcut
    clear hcut y0 hbd0 HM0
    have y1 := M1.cell 1 (x := .int .i64 x.upto) rfl
    have hbd1 := M1.drewBd
    have HM1 := mkHid M1
    clear M1
    go_wp2_with fail
    go_cut [] (fun W => Mid w W q base (bs ++ wTwo x.frm ++ wTwo x.upto) #[.int .i64 x.frm, .int .i64 x.upto, .int .i64 x.loc, .string x.cls] 79)
    case first =>
      go_region_with (go_at_call 138; refine (number_b _ q base (bs ++ wTwo x.frm) x.upto hbd1 (by simp only [List.length_append, len_wTwo]; omega)).mono ?_; rintro e w5 ⟨rfl, hk5, hb5⟩)
      all_goals
        go_wp2_with fail
        go_meet
        exact HM1.out.drew.step hk5 hb5 (by decide) hq
    case rest =>
      have M2 := hcut
      clear hcut y1 hbd1 HM1
      have y2 := M2.cell 2 (x := .int .i64 x.loc) rfl
      have hbd2 := M2.drewBd
      have HM2 := mkHid M2
      clear M2
      go_wp2_with fail
      go_cut [] (fun W => Mid w W q base (bs ++ wTwo x.frm ++ wTwo x.upto ++ wTwo x.loc) #[.int .i64 x.frm, .int .i64 x.upto, .int .i64 x.loc, .string x.cls] 79)
      case first =>
        go_region_with (go_at_call 138; refine (number_b _ q base (bs ++ wTwo x.frm ++ wTwo x.upto) x.loc hbd2 (by simp only [List.length_append, len_wTwo]; omega)).mono ?_; rintro e w5 ⟨rfl, hk5, hb5⟩)
        all_goals
          go_wp2_with fail
          go_meet
          exact HM2.out.drew.step hk5 hb5 (by decide) hq
      case rest =>
        have M3 := hcut
        clear hcut y2 hbd2 HM2
        have y3 := M3.cell 3 (x := .string x.cls) rfl
        have hbd3 := M3.drewBd
        have HM := mkHid M3
        clear M3
        go_wp2_with fail
        go_region_with (go_at_call 92; refine (text_b _ q base (bs ++ wTwo x.frm ++ wTwo x.upto ++ wTwo x.loc) x.cls hbd3 (by simp only [List.length_append, len_wTwo]; omega)).mono ?_; rintro e w5 ⟨rfl, hk5, hb5⟩)
        all_goals
          go_wp2_with fail
          go_end0
          exact ⟨rfl, HM.out.kb.drew.trans hk5, by simpa only [wHand, List.append_assoc] using hb5⟩
theorem flag_w (w : World) (q base : Nat) (bs : List UInt8) (x : Bool) (h : Bd w q base bs) (hl : bs.length + 1 ≤ 70368744177664) :
    Calls Tryz.prog 136 #[.pointer (some ⟨q, 0, none⟩), .bool x] w fun r w' => r = .returned (.tuple #[]) ∧ KB base q w w' ∧ Bd w' q base (bs ++ wFlag x) := by
  have hlt := h.lt
  have hle := h.le
  have hq : q < w.heap.size := by omega
  cases x
  · go_enter Tryz.func136, Tryz.ntmps136
    go_wp2_with fail
    refine (count_b _ q base bs 0 h (by omega)).mono ?_
    rintro r w1 ⟨rfl, hk5, hb5⟩
    go_wp2_with fail
    go_end0
    exact ⟨rfl, hk5, hb5⟩
  · go_enter Tryz.func136, Tryz.ntmps136
    go_wp2_with fail
    refine (count_b _ q base bs 1 h (by omega)).mono ?_
    rintro r w1 ⟨rfl, hk5, hb5⟩
    go_wp2_with fail
    go_end0
    exact ⟨rfl, hk5, hb5⟩
end Go.Proofs.YtaekpdcnnkmahaaGreatDoor
/- The contracts of what writes lists of kinds, fields and handlers. -/
namespace Go.Proofs.YtaekpdcnnkmahaaGreatDoor
open Go.RowKit

theorem flat_len {α : Type} (f : α → List UInt8) (l : List α) (k : Nat) (hk : k < l.length) : ((l.take k).flatMap f).length + (f l[k]).length ≤ (l.flatMap f).length := by
  have e : l.flatMap f = (l.take (k + 1)).flatMap f ++ (l.drop (k + 1)).flatMap f := by rw [← List.flatMap_append, List.take_append_drop]
  have e2 : l.take (k + 1) = l.take k ++ [l[k]] := (List.take_append_getElem hk).symm
  rw [e, e2, List.flatMap_append, List.length_append, List.length_append]
  simp
theorem flat_snoc {α : Type} (f : α → List UInt8) (l : List α) (k : Nat) (hk : k < l.length) : (l.take (k + 1)).flatMap f = (l.take k).flatMap f ++ f l[k] := by
  rw [← List.take_append_getElem hk, List.flatMap_append]
  simp

set_option maxHeartbeats 1000000 in
theorem writeAllK (w : World) (q base B : Nat) (bs : List UInt8) (l : List KindD) (v : Value) (hv : SL 2 RK (· < B) w v l) (hB : B ≤ q) (h : Bd w q base bs) (hl : bs.length + (l.flatMap wKind).length ≤ 70368744177664) :
    Calls Tryz.prog 186 #[v, .func (.func 134) #[.pointer (some ⟨q, 0, none⟩)] #[]] w fun r w' => r = .returned (.tuple #[]) ∧ KB base q w w' ∧ Bd w' q base (bs ++ l.flatMap wKind) := by
  have hlt := h.lt
  have hle := h.le
  have HV := mkHid hv
  obtain ⟨ao, cl, rfl, hcl, hll, -⟩ := hv
  unfold maxLen at hll
  go_enter Tryz.func186, Tryz.ntmps186
  go_wp2
  go_loopw [8] (fun i wr => ∃ k : Nat, k ≤ l.length ∧ i = .int .i64 k ∧ KB base q w wr ∧ Bd wr q base (bs ++ (l.take k).flatMap wKind)) (fun i _ => l.length - (intOf i).toNat)
  case atStart => exact ⟨0, Nat.zero_le _, rfl, KB.refl _ _ _, by simpa using h⟩
  case round =>
    obtain ⟨k, hk, rfl, hkb, hbd⟩ := hrel
    have hszr := hkb.size
    by_cases hltk : k < l.length
    · have hkp : Kp (· < B) w wr := ⟨hkb.size, fun b hb _ => hkb.block b (by omega) (by omega)⟩
      have hfl := flat_len wKind l k hltk
      have hfs := flat_snoc wKind l k hltk
      obtain ⟨b, off, rfl, hbl, e0, e1, es⟩ := (HV.out.keptK hkp).atK k hltk
      have hBr : ∀ o, Below wr.heap.size wr (wr.alloc o) := fun o => (Below.refl _ _).alloc (Nat.le_refl _) o
      have HBR := mkHid hBr
      have HBD := mkHid hbd
      have hler := hbd.le
      have HFS := mkHid hfs
      clear hBr hbd hfs hkp
      go_wp2_with fail
      refine (kind_w _ q base (bs ++ (l.take k).flatMap wKind) l[k] (HBD.out.below (HBR.out _)) (by rw [List.length_append]; omega)).mono ?_
      rintro r w1 ⟨rfl, hk1, hb1⟩
      have hkb1 : KB base q w w1 := hkb.trans ((KB.below (HBR.out _) hler).trans hk1)
      clear hk1 hkb HBD HBR e0 e1
      go_wp2_with fail
      go_roundw
      case rel => exact ⟨k + 1, by omega, by go_num, hkb1, by rw [HFS.out, ← List.append_assoc]; exact hb1⟩
      case measure => simp [intOf]; omega
    · go_wp2_with fail
      go_end0
      exact ⟨rfl, hkb, by rw [List.take_of_length_le (by omega)] at hbd; exact hbd⟩

theorem writeCountedK (w : World) (q base B : Nat) (bs : List UInt8) (l : List KindD) (v : Value) (hv : SL 2 RK (· < B) w v l) (hB : B ≤ q) (h : Bd w q base bs) (hl : bs.length + (wCounted wKind l).length ≤ 70368744177664) :
    Calls Tryz.prog 137 #[.pointer (some ⟨q, 0, none⟩), v, .func (.func 134) #[.pointer (some ⟨q, 0, none⟩)] #[]] w fun r w' => r = .returned (.tuple #[]) ∧ KB base q w w' ∧ Bd w' q base (bs ++ wCounted wKind l) := by
  have hlt := h.lt
  have hle := h.le
  rw [wCounted, List.length_cons] at hl
  have HV := mkHid hv
  obtain ⟨ao, cl, rfl, hcl, hll, -⟩ := hv
  go_enter Tryz.func137, Tryz.ntmps137
  go_wp2_with fail
  refine (count_b _ q base bs l.length h (by omega)).mono ?_
  rintro r w1 ⟨rfl, hk1, hb1⟩
  go_wp2_with fail
  refine (writeAllK _ q base B (bs ++ [toB l.length]) l _ (HV.out.keptK ⟨hk1.size, fun b hb _ => hk1.block b (by omega) (by omega)⟩) hB hb1 (by simp only [List.length_append, List.length_cons, List.length_nil]; omega)).mono ?_
  rintro r w2 ⟨rfl, hk2, hb2⟩
  go_wp2_with fail
  go_end0
  exact ⟨rfl, hk1.trans hk2, by rw [wCounted, List.append_cons]; exact hb2⟩

set_option maxHeartbeats 1000000 in
theorem writeAllF (w : World) (q base B : Nat) (bs : List UInt8) (l : List FieldD) (v : Value) (hv : SL 3 RF (· < B) w v l) (hB : B ≤ q) (h : Bd w q base bs) (hl : bs.length + (l.flatMap wField).length ≤ 70368744177664) :
    Calls Tryz.prog 133 #[v, .func (.func 94) #[.pointer (some ⟨q, 0, none⟩)] #[]] w fun r w' => r = .returned (.tuple #[]) ∧ KB base q w w' ∧ Bd w' q base (bs ++ l.flatMap wField) := by
  have hlt := h.lt
  have hle := h.le
  have HV := mkHid hv
  obtain ⟨ao, cl, rfl, hcl, hll, -⟩ := hv
  unfold maxLen at hll
  go_enter Tryz.func133, Tryz.ntmps133
  go_wp2
  go_loopw [8] (fun i wr => ∃ k : Nat, k ≤ l.length ∧ i = .int .i64 k ∧ KB base q w wr ∧ Bd wr q base (bs ++ (l.take k).flatMap wField)) (fun i _ => l.length - (intOf i).toNat)
  case atStart => exact ⟨0, Nat.zero_le _, rfl, KB.refl _ _ _, by simpa using h⟩
  case round =>
    obtain ⟨k, hk, rfl, hkb, hbd⟩ := hrel
    have hszr := hkb.size
    by_cases hltk : k < l.length
    · have hkp : Kp (· < B) w wr := ⟨hkb.size, fun b hb _ => hkb.block b (by omega) (by omega)⟩
      have hfl := flat_len wField l k hltk
      have hfs := flat_snoc wField l k hltk
      obtain ⟨b, off, rfl, hbl, e0, e1, e2, es, es2⟩ := (HV.out.keptF hkp).atF k hltk
      have hBr : ∀ o, Below wr.heap.size wr (wr.alloc o) := fun o => (Below.refl _ _).alloc (Nat.le_refl _) o
      have HBR := mkHid hBr
      have HBD := mkHid hbd
      have hler := hbd.le
      have HFS := mkHid hfs
      clear hBr hbd hfs hkp
      go_wp2_with fail
      refine (field_w _ q base (bs ++ (l.take k).flatMap wField) l[k] (HBD.out.below (HBR.out _)) (by rw [List.length_append]; omega)).mono ?_
      rintro r w1 ⟨rfl, hk1, hb1⟩
      have hkb1 : KB base q w w1 := hkb.trans ((KB.below (HBR.out _) hler).trans hk1)
      clear hk1 hkb HBD HBR e0 e1 e2
      go_wp2_with fail
      go_roundw
      case rel => exact ⟨k + 1, by omega, by go_num, hkb1, by rw [HFS.out, ← List.append_assoc]; exact hb1⟩
      case measure => simp [intOf]; omega
    · go_wp2_with fail
      go_end0
      exact ⟨rfl, hkb, by rw [List.take_of_length_le (by omega)] at hbd; exact hbd⟩

theorem writeCountedF (w : World) (q base B : Nat) (bs : List UInt8) (l : List FieldD) (v : Value) (hv : SL 3 RF (· < B) w v l) (hB : B ≤ q) (h : Bd w q base bs) (hl : bs.length + (wCounted wField l).length ≤ 70368744177664) :
    Calls Tryz.prog 93 #[.pointer (some ⟨q, 0, none⟩), v, .func (.func 94) #[.pointer (some ⟨q, 0, none⟩)] #[]] w fun r w' => r = .returned (.tuple #[]) ∧ KB base q w w' ∧ Bd w' q base (bs ++ wCounted wField l) := by
  have hlt := h.lt
  have hle := h.le
  rw [wCounted, List.length_cons] at hl
  have HV := mkHid hv
  obtain ⟨ao, cl, rfl, hcl, hll, -⟩ := hv
  go_enter Tryz.func93, Tryz.ntmps93
  go_wp2_with fail
  refine (count_b _ q base bs l.length h (by omega)).mono ?_
  rintro r w1 ⟨rfl, hk1, hb1⟩
  go_wp2_with fail
  refine (writeAllF _ q base B (bs ++ [toB l.length]) l _ (HV.out.keptF ⟨hk1.size, fun b hb _ => hk1.block b (by omega) (by omega)⟩) hB hb1 (by simp only [List.length_append, List.length_cons, List.length_nil]; omega)).mono ?_
  rintro r w2 ⟨rfl, hk2, hb2⟩
  go_wp2_with fail
  go_end0
  exact ⟨rfl, hk1.trans hk2, by rw [wCounted, List.append_cons]; exact hb2⟩

set_option maxHeartbeats 1000000 in
theorem writeAllH (w : World) (q base B : Nat) (bs : List UInt8) (l : List HandD) (v : Value) (hv : SL 4 RH (· < B) w v l) (hB : B ≤ q) (h : Bd w q base bs) (hl : bs.length + (l.flatMap wHand).length ≤ 70368744177664) :
    Calls Tryz.prog 187 #[v, .func (.func 140) #[.pointer (some ⟨q, 0, none⟩)] #[]] w fun r w' => r = .returned (.tuple #[]) ∧ KB base q w w' ∧ Bd w' q base (bs ++ l.flatMap wHand) := by
  have hlt := h.lt
  have hle := h.le
  have HV := mkHid hv
  obtain ⟨ao, cl, rfl, hcl, hll, -⟩ := hv
  unfold maxLen at hll
  go_enter Tryz.func187, Tryz.ntmps187
  go_wp2
  go_loopw [8] (fun i wr => ∃ k : Nat, k ≤ l.length ∧ i = .int .i64 k ∧ KB base q w wr ∧ Bd wr q base (bs ++ (l.take k).flatMap wHand)) (fun i _ => l.length - (intOf i).toNat)
  case atStart => exact ⟨0, Nat.zero_le _, rfl, KB.refl _ _ _, by simpa using h⟩
  case round =>
    obtain ⟨k, hk, rfl, hkb, hbd⟩ := hrel
    have hszr := hkb.size
    by_cases hltk : k < l.length
    · have hkp : Kp (· < B) w wr := ⟨hkb.size, fun b hb _ => hkb.block b (by omega) (by omega)⟩
      have hfl := flat_len wHand l k hltk
      have hfs := flat_snoc wHand l k hltk
      obtain ⟨b, off, rfl, hbl, e0, e1, e2, e3, es⟩ := (HV.out.keptH hkp).atH k hltk
      have hBr : ∀ o, Below wr.heap.size wr (wr.alloc o) := fun o => (Below.refl _ _).alloc (Nat.le_refl _) o
      have HBR := mkHid hBr
      have HBD := mkHid hbd
      have hler := hbd.le
      have HFS := mkHid hfs
      clear hBr hbd hfs hkp
      go_wp2_with fail
      refine (handler_w _ q base (bs ++ (l.take k).flatMap wHand) l[k] (HBD.out.below (HBR.out _)) (by rw [List.length_append]; omega)).mono ?_
      rintro r w1 ⟨rfl, hk1, hb1⟩
      have hkb1 : KB base q w w1 := hkb.trans ((KB.below (HBR.out _) hler).trans hk1)
      clear hk1 hkb HBD HBR e0 e1 e2 e3
      go_wp2_with fail
      go_roundw
      case rel => exact ⟨k + 1, by omega, by go_num, hkb1, by rw [HFS.out, ← List.append_assoc]; exact hb1⟩
      case measure => simp [intOf]; omega
    · go_wp2_with fail
      go_end0
      exact ⟨rfl, hkb, by rw [List.take_of_length_le (by omega)] at hbd; exact hbd⟩

theorem writeCountedH (w : World) (q base B : Nat) (bs : List UInt8) (l : List HandD) (v : Value) (hv : SL 4 RH (· < B) w v l) (hB : B ≤ q) (h : Bd w q base bs) (hl : bs.length + (wCounted wHand l).length ≤ 70368744177664) :
    Calls Tryz.prog 139 #[.pointer (some ⟨q, 0, none⟩), v, .func (.func 140) #[.pointer (some ⟨q, 0, none⟩)] #[]] w fun r w' => r = .returned (.tuple #[]) ∧ KB base q w w' ∧ Bd w' q base (bs ++ wCounted wHand l) := by
  have hlt := h.lt
  have hle := h.le
  rw [wCounted, List.length_cons] at hl
  have HV := mkHid hv
  obtain ⟨ao, cl, rfl, hcl, hll, -⟩ := hv
  go_enter Tryz.func139, Tryz.ntmps139
  go_wp2_with fail
  refine (count_b _ q base bs l.length h (by omega)).mono ?_
  rintro r w1 ⟨rfl, hk1, hb1⟩
  go_wp2_with fail
  refine (writeAllH _ q base B (bs ++ [toB l.length]) l _ (HV.out.keptH ⟨hk1.size, fun b hb _ => hk1.block b (by omega) (by omega)⟩) hB hb1 (by simp only [List.length_append, List.length_cons, List.length_nil]; omega)).mono ?_
  rintro r w2 ⟨rfl, hk2, hb2⟩
  go_wp2_with fail
  go_end0
  exact ⟨rfl, hk1.trans hk2, by rw [wCounted, List.append_cons]; exact hb2⟩

end Go.Proofs.YtaekpdcnnkmahaaGreatDoor
