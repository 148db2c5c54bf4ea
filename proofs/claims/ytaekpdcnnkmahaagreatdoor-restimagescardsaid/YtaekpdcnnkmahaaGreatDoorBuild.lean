/- The contracts of the builder's methods. -/
import Derived.Test.YtaekpdcnnkmahaaGreatDoorGrown
import Derived.Lib.AppendStr
import Derived.Lib.BufferRead
namespace Go.Proofs.YtaekpdcnnkmahaaGreatDoor
open Go.RowKit

theorem Tryz.info5 : (Tryz.prog.info? 5).map (fun i => (i.zero, i.size, i.bytes)) = some (some (.int .u8 0), 1, 1) := by kernel_rfl

/-- A byte's cell. -/
def b8 (b : UInt8) : Value := .int .u8 (b.toNat : Int)
theorem toB_toNat (n : Int) : ((toB n).toNat : Int) = n % 256 := by
  unfold toB
  have h0 : 0 ≤ n % 256 := Int.emod_nonneg _ (by omega)
  have h1 : n % 256 < 256 := Int.emod_lt_of_pos _ (by omega)
  rw [UInt8.toNat_ofNat_of_lt' (by show (n % 256).toNat < 256; omega)]
  omega
theorem b8_toB (n : Int) : b8 (toB n) = .int .u8 (n % 256) := by
  unfold b8
  rw [toB_toNat]

/-- A builder at block q: what it has gathered. -/
structure Bd (w : World) (q base : Nat) (bs : List UInt8) : Prop where
  own : ∃ v, w.cell? ⟨q, 0, none⟩ = some v ∧ w.ownsRow base 5 1 v bs.length (bs.map b8)
  fz : w.frozen? ⟨q, 0, none⟩ = false
  lt : q < base
  le : base ≤ w.heap.size

/-- A block that holds no bytes. -/
def Other (w : World) (k : Nat) : Prop := ∃ c t fr, w.heap[k]? = some (.cells c t fr) ∧ t ≠ 5
/-- Below a block all is as it was, but for one block; so is what holds no bytes. -/
structure KB (base q : Nat) (w w' : World) : Prop where
  os : w'.os = w.os
  tape : w'.tape = w.tape
  output : w'.output = w.output
  size : w.heap.size ≤ w'.heap.size
  block : ∀ k, k < base → k ≠ q → w'.heap[k]? = w.heap[k]?
  other : ∀ k, k ≠ q → Other w k → w'.heap[k]? = w.heap[k]?
theorem KB.refl (base q : Nat) (w : World) : KB base q w w := ⟨rfl, rfl, rfl, Nat.le_refl _, fun _ _ _ => rfl, fun _ _ _ => rfl⟩
theorem KB.trans {base q : Nat} {a b c : World} (h : KB base q a b) (k : KB base q b c) : KB base q a c :=
  ⟨k.os.trans h.os, k.tape.trans h.tape, k.output.trans h.output, Nat.le_trans h.size k.size, fun i hi hq => (k.block i hi hq).trans (h.block i hi hq), fun i hq ho => by
    have e := h.other i hq ho
    obtain ⟨c, t, fr, h1, h2⟩ := ho
    exact (k.other i hq ⟨c, t, fr, e.trans h1, h2⟩).trans e⟩
theorem Other.lt {w : World} {k : Nat} (h : Other w k) : k < w.heap.size := by
  obtain ⟨c, t, fr, h1, _⟩ := h
  exact (Array.getElem?_eq_some_iff.1 h1).1
theorem KB.below {base q : Nat} {w w' : World} (h : Below w.heap.size w w') (hb : base ≤ w.heap.size) : KB base q w w' := ⟨h.os, h.tape, h.output, h.size, fun k hk _ => h.block k (by omega), fun k _ ho => h.block k ho.lt⟩
theorem KB.drewN {base q : Nat} {w w' : World} (h : KB base q w w') (n : Nat) : KB base q w (w'.drewN n) := ⟨h.os, h.tape, h.output, h.size, h.block, h.other⟩
theorem KB.drew {base q : Nat} {w w' : World} (h : KB base q w w') : KB base q w w'.drew := ⟨h.os, h.tape, h.output, h.size, h.block, h.other⟩
theorem KB.drew_left {base q : Nat} {w w' : World} (h : KB base q w.drew w') : KB base q w w' := ⟨h.os, h.tape, h.output, h.size, h.block, h.other⟩
theorem KB.toBelow {base q : Nat} {w w' : World} (h : KB base q w w') : Below (min base q) w w' := ⟨h.os, h.tape, h.output, h.size, fun k hk => h.block k (by omega) (by omega)⟩

theorem Bd.below {w w' : World} {q base : Nat} {bs : List UInt8} (h : Bd w q base bs) (hb : Below w.heap.size w w') : Bd w' q base bs := by
  obtain ⟨⟨v, hv, ho⟩, hf, hlt, hle⟩ := h
  exact ⟨⟨v, (hb.cell (p := ⟨q, 0, none⟩) (by show q < _; omega)).trans hv, own_below ho hb⟩, (hb.frozen (p := ⟨q, 0, none⟩) (by show q < _; omega)).trans hf, hlt, Nat.le_trans hle hb.size⟩

theorem len_b (w : World) (q base : Nat) (bs : List UInt8) (h : Bd w q base bs) :
    Calls Tryz.prog 58 #[.pointer (some ⟨q, 0, none⟩)] w fun r w' => r = .returned (.int .i64 bs.length) ∧ w' = w := by
  obtain ⟨⟨v, hv, ho⟩, hf, hlt, hle⟩ := h
  rcases ho.2 with ⟨rfl, hn⟩ | ⟨g, cap, cur, rfl, hrest⟩
  · clear ho
    go_enter Tryz.func58, Tryz.ntmps58
    go_wp2
    go_ret
    exact ⟨by rw [hn]; rfl, rfl⟩
  · clear ho hrest
    go_enter Tryz.func58, Tryz.ntmps58
    go_wp2
    go_ret
    exact ⟨rfl, rfl⟩

/-- What an append onto the builder's bytes, and the store of them, leave. -/
theorem appended {w W w1 : World} {q base : Nat} {bs cs : List UInt8} {v v' : Value} (h : Bd w q base bs) (hv : w.cell? ⟨q, 0, none⟩ = some v) (ho : w.ownsRow base 5 1 v bs.length (bs.map b8))
    (hW : Below w.heap.size w W) (hg : W.grownBy w1 v.ownBlock) (hown : w1.ownsRow base 5 1 v' (bs ++ cs).length ((bs ++ cs).map b8)) :
    w1.cell? ⟨q, 0, none⟩ = some v ∧ w1.frozen? ⟨q, 0, none⟩ = false ∧ KB base q w (w1.setCell ⟨q, 0, none⟩ v') ∧ Bd (w1.setCell ⟨q, 0, none⟩ v') q base (bs ++ cs) := by
  have hlt := h.lt
  have hle := h.le
  have hqW : q < W.heap.size := Nat.lt_of_lt_of_le (show q < w.heap.size by omega) hW.size
  have hne : some q ≠ v.ownBlock := fun e => by have := (ho.lt q e.symm).1; omega
  have hc : w1.cell? ⟨q, 0, none⟩ = some v := by
    rw [World.cell?_of_block (a := ⟨q, 0, none⟩) (hg.block q hqW hne)]
    exact (hW.cell (p := ⟨q, 0, none⟩) (by show q < _; omega)).trans hv
  have hz : w1.frozen? ⟨q, 0, none⟩ = false := by
    rw [World.frozen?_of_block (a := ⟨q, 0, none⟩) (hg.block q hqW hne)]
    exact (hW.frozen (p := ⟨q, 0, none⟩) (by show q < _; omega)).trans h.fz
  refine ⟨hc, hz, ⟨hg.os.trans hW.os, hg.tape.trans hW.tape, hg.output.trans hW.output, ?_, fun k hk hkq => ?_, fun k hkq ho2 => ?_⟩, ⟨⟨v', World.cell?_setCell_same _ _ _ hc, ownsRow_setCell_below hown (by exact hlt) _⟩, by rw [World.frozen?_setCell]; exact hz, hlt, ?_⟩⟩
  · have := Nat.le_trans hW.size hg.size
    simpa [World.setCell] using this
  · rw [Below.heap_setCell _ _ _ _ (by exact hkq), hg.block k (by have := hW.size; omega) (fun e => by have := (ho.lt k e.symm).1; omega), hW.block k (by omega)]
  · have hkl := ho2.lt
    have hk5 : some k ≠ v.ownBlock := fun e => by
      obtain ⟨c, t, fr, h1, h2⟩ := ho2
      rcases ho.2 with ⟨rfl, _⟩ | ⟨g, cap, cur, rfl, _, h3, _⟩
      · cases e
      · cases e
        rw [h3] at h1
        cases h1
        exact h2 rfl
    rw [Below.heap_setCell _ _ _ _ (by exact hkq), hg.block k (by have := hW.size; omega) hk5, hW.block k hkl]
  · have := Nat.le_trans hW.size hg.size
    have : base ≤ w1.heap.size := by omega
    simpa [World.setCell] using this

set_option maxHeartbeats 400000 in
theorem count_b (w : World) (q base : Nat) (bs : List UInt8) (n : Int) (h : Bd w q base bs) (hl : bs.length ≤ 70368744177664) :
    Calls Tryz.prog 90 #[.pointer (some ⟨q, 0, none⟩), .int .i64 n] w fun r w' => r = .returned (.tuple #[]) ∧ KB base q w w' ∧ Bd w' q base (bs ++ [toB n]) := by
  obtain ⟨i0, hi, hz0, hz1, hz2⟩ := info_parts Tryz.info5
  have h' := h
  obtain ⟨⟨v, hv, ho⟩, hf, hlt, hle⟩ := h
  have hq : q < w.heap.size := by omega
  have ew : IntKind.u8.wrap n = n % 256 := by
    simp [IntKind.wrap, IntKind.bits, IntKind.signed]
  rcases ho.2 with ⟨rfl, hn⟩ | ⟨g, cap, cur, rfl, hrest⟩
  all_goals
    try clear hrest
    try clear hn
    go_enter Tryz.func90, Tryz.ntmps90
    go_wp2_with (at_builtin; refine wpList_append_own _ rfl _ _ 111 rfl base 5 i0 (.int .u8 0) 1 1 Tryz.underlying111 hi hz0 hz1 hz2 rfl (by decide) _ _ _ rfl (ho.alloc _) ⟨w.heap.size, 0, none⟩ 1 1 [.int .u8 (n % 256)] rfl rfl (by intro j u hj; match j, hj with | 0, hj => simp at hj; subst hj; simp [Addr.add]) (by intro u hu; simp at hu; subst hu; rfl) (by unfold maxLen; omega) (by omega) (by simp; omega) ?_)
    intro v' w1 hown hg _
    obtain ⟨a1, a2, a3, a4⟩ := appended (cs := [toB n]) h' hv ho ((Below.refl _ _).alloc (Nat.le_refl _) _) hg (by simpa [b8_toB] using hown)
    have HK := mkHid a3
    have HB := mkHid a4
    have hown2 := hown.2
    clear a3 a4 hown hg ho hv
    rcases hown2 with ⟨_, hbad⟩ | ⟨g', cap', cur', rfl, hrest⟩
    · omega
    · clear hrest
      go_wp2
      go_end0
      exact ⟨rfl, HK.out, HB.out⟩

set_option maxHeartbeats 400000 in
theorem number_b (w : World) (q base : Nat) (bs : List UInt8) (n : Int) (h : Bd w q base bs) (hl : bs.length ≤ 70368744177664) :
    Calls Tryz.prog 138 #[.pointer (some ⟨q, 0, none⟩), .int .i64 n] w fun r w' => r = .returned (.tuple #[]) ∧ KB base q w w' ∧ Bd w' q base (bs ++ [toB (n / 256), toB n]) := by
  obtain ⟨i0, hi, hz0, hz1, hz2⟩ := info_parts Tryz.info5
  have h' := h
  obtain ⟨⟨v, hv, ho⟩, hf, hlt, hle⟩ := h
  have hq : q < w.heap.size := by omega
  have ew : IntKind.u8.wrap n = n % 256 := by
    simp [IntKind.wrap, IntKind.bits, IntKind.signed]
  rcases ho.2 with ⟨rfl, hn⟩ | ⟨g, cap, cur, rfl, hrest⟩
  all_goals
    try clear hrest
    try clear hn
    go_enter Tryz.func138, Tryz.ntmps138
    go_wp2_with (at_builtin; refine wpList_append_own _ rfl _ _ 111 rfl base 5 i0 (.int .u8 0) 1 1 Tryz.underlying111 hi hz0 hz1 hz2 rfl (by decide) _ _ _ rfl (ho.alloc _) ⟨w.heap.size, 0, none⟩ 2 2 [.int .u8 (n / 256 % 256), .int .u8 (n % 256)] rfl rfl (by intro j u hj; match j, hj with | 0, hj => simp at hj; subst hj; simp [Addr.add] | 1, hj => simp at hj; subst hj; simp [Addr.add]) (by intro u hu; simp at hu; rcases hu with rfl | rfl <;> rfl) (by unfold maxLen; omega) (by omega) (by simp; omega) ?_)
    intro v' w1 hown hg _
    obtain ⟨a1, a2, a3, a4⟩ := appended (cs := [toB (n / 256), toB n]) h' hv ho ((Below.refl _ _).alloc (Nat.le_refl _) _) hg (by simpa [b8_toB] using hown)
    have HK := mkHid a3
    have HB := mkHid a4
    have hown2 := hown.2
    clear a3 a4 hown hg ho hv
    rcases hown2 with ⟨_, hbad⟩ | ⟨g', cap', cur', rfl, hrest⟩
    · omega
    · clear hrest
      go_wp2
      go_end0
      exact ⟨rfl, HK.out, HB.out⟩

theorem strCells_b8 (s : ByteArray) : Lib.strCells s = s.data.toList.map b8 := by
  rfl

set_option maxHeartbeats 400000 in
theorem bytes_b (w : World) (q base : Nat) (bs : List UInt8) (s : ByteArray) (h : Bd w q base bs) (hl : bs.length + s.size ≤ 70368744177664) :
    Calls Tryz.prog 132 #[.pointer (some ⟨q, 0, none⟩), .string s] w fun r w' => r = .returned (.tuple #[]) ∧ KB base q w w' ∧ Bd w' q base (bs ++ s.data.toList) := by
  obtain ⟨i0, hi, hz0, hz1, hz2⟩ := info_parts Tryz.info5
  have h' := h
  obtain ⟨⟨v, hv, ho⟩, hf, hlt, hle⟩ := h
  have hq : q < w.heap.size := by omega
  rcases ho.2 with ⟨rfl, hn⟩ | ⟨g, cap, cur, rfl, hrest⟩
  all_goals
    try clear hrest
    try clear hn
    go_enter Tryz.func132, Tryz.ntmps132
    go_wp2_with (at_builtin; refine Lib.wpList_append_own_string _ rfl _ _ 111 9 rfl base 5 i0 Tryz.underlying111 Tryz.underlying9 hi hz0 hz1 hz2 _ _ _ rfl ho s rfl (by unfold maxLen; omega) (by omega) hle ?_)
    intro v' w1 hown hg hnil
    obtain ⟨a1, a2, a3, a4⟩ := appended (cs := s.data.toList) h' hv ho (Below.refl _ _) hg (by rw [List.length_append, List.map_append, ← strCells_b8]; exact hown)
    have HK := mkHid a3
    have HB := mkHid a4
    have hown2 := hown.2
    clear a3 a4 hown hg ho hv hnil
    rcases hown2 with ⟨rfl, hbad⟩ | ⟨g', cap', cur', rfl, hrest⟩
    · go_wp2
      go_end0
      exact ⟨rfl, HK.out, HB.out⟩
    · clear hrest
      go_wp2
      go_end0
      exact ⟨rfl, HK.out, HB.out⟩

theorem text_b (w : World) (q base : Nat) (bs : List UInt8) (s : ByteArray) (h : Bd w q base bs) (hl : bs.length + s.size + 1 ≤ 70368744177664) :
    Calls Tryz.prog 92 #[.pointer (some ⟨q, 0, none⟩), .string s] w fun r w' => r = .returned (.tuple #[]) ∧ KB base q w w' ∧ Bd w' q base (bs ++ wText s) := by
  go_enter Tryz.func92, Tryz.ntmps92
  go_wp2_with fail
  refine (count_b _ q base bs s.size h (by omega)).mono ?_
  rintro r w1 ⟨rfl, hk1, hb1⟩
  go_wp2_with fail
  refine (bytes_b _ q base (bs ++ [toB s.size]) s hb1 (by simp; omega)).mono ?_
  rintro r w2 ⟨rfl, hk2, hb2⟩
  go_wp2_with fail
  go_end0
  exact ⟨rfl, hk1.trans hk2, by rw [wText, List.append_cons]; exact hb2⟩

theorem string_b (w : World) (q base : Nat) (bs : List UInt8) (h : Bd w q base bs) :
    Calls Tryz.prog 59 #[.pointer (some ⟨q, 0, none⟩)] w fun r w' => r = .returned (.string ⟨bs.toArray⟩) ∧ w' = w := by
  obtain ⟨⟨v, hv, ho⟩, hf, hlt, hle⟩ := h
  rcases ho.2 with ⟨rfl, hn⟩ | ⟨g, cap, cur, rfl, hrest⟩
  · have hb : bs = [] := List.eq_nil_of_length_eq_zero hn
    subst hb
    clear ho
    have hcv := fun w => Lib.run_convert_nil_bytes (P := Tryz.prog) w 111 9 5 0 Tryz.underlying111 Tryz.underlying5 Tryz.underlying9
    go_enter Tryz.func59, Tryz.ntmps59
    go_wp2
    go_ret
    exact ⟨rfl, rfl⟩
  · have hcv := run_convert_bytes_back (P := Tryz.prog) w 111 9 5 ⟨g, 0, none⟩ cap bs Tryz.underlying111 Tryz.underlying5 Tryz.underlying9 (fun j hj => by
      have := ho.cells (g := g) rfl j (b8 bs[j]) (by simp [hj])
      exact this)
    clear ho hrest
    go_enter Tryz.func59, Tryz.ntmps59
    go_wp2
    go_ret
    exact ⟨rfl, rfl⟩
end Go.Proofs.YtaekpdcnnkmahaaGreatDoor
