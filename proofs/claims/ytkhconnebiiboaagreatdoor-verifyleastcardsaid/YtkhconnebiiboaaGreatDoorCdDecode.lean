/- The contract of Decode, whatever text it is handed. -/
import Derived.Test.YtkhconnebiiboaaGreatDoorCdCaught
namespace Go.Proofs.YtkhconnebiiboaaGreatDoor.Cd
set_option maxRecDepth 100000
open Go.RowKit

theorem mkHid {p : Prop} (h : p) : Hid p := h

set_option maxHeartbeats 400000 in
theorem decode1_any (w : World) (s : ByteArray) (Ps : Nat) (hT : Tabs w) (hs : s.size ≤ 200) (hp : w.cell? ⟨Ps, 0, none⟩ = some (.string s)) :
    Calls Tryz.prog 132 #[.pointer (some ⟨Ps, 0, none⟩)] w fun r w' => Below w.heap.size w w' ∧
      ((∃ l v, dec s = .ok l ∧ l.length ≤ s.size ∧ r = .returned v ∧ w'.ownsRow w.heap.size 139 4 v l.length (cellsOf l)) ∨ (∃ e p, dec s = .error (e, p) ∧ r = .panicked [wrongV e p])) := by
  go_enter Tryz.func132, Tryz.ntmps132
  go_wp2_with fail
  refine (decode_any _ s hT hs).mono ?_
  rintro r w1 ⟨hB, hr⟩
  rcases hr with ⟨l, v, hd, hl, rfl, hown⟩ | ⟨e, p, hd, rfl⟩
  · have HD := mkHid hd
    have HB := mkHid hB
    have HO := mkHid hown
    have ho := hown.2
    clear hd hB hown
    rcases ho with ⟨rfl, hn⟩ | ⟨g, cap, cur, rfl, hrest⟩
    all_goals
      try clear hrest
      go_wp2_with fail
      go_ret
      exact ⟨HB.out, Or.inl ⟨l, _, HD.out, hl, rfl, HO.out⟩⟩
  · exact ⟨rfl, hB, Or.inr ⟨e, p, hd, rfl⟩⟩

set_option maxHeartbeats 400000 in
theorem made1_any (w : World) (s : ByteArray) (Pf Q Ps : Nat) (x : Value) (hT : Tabs w) (hs : s.size ≤ 200) (hpf : w.cell? ⟨Pf, 0, none⟩ = some (.func (.func 132) #[] #[.pointer (some ⟨Ps, 0, none⟩)])) (hps : w.cell? ⟨Ps, 0, none⟩ = some (.string s)) (hq : w.cell? ⟨Q, 0, none⟩ = some x) (hz : w.frozen? ⟨Q, 0, none⟩ = false) :
    Calls Tryz.prog 168 #[.pointer (some ⟨Pf, 0, none⟩), .pointer (some ⟨Q, 0, none⟩)] w fun r w' =>
      (r = .returned (.tuple #[]) ∧ ∃ l v, dec s = .ok l ∧ l.length ≤ s.size ∧ w'.cell? ⟨Q, 0, none⟩ = some v ∧ w'.ownsRow w.heap.size 139 4 v l.length (cellsOf l) ∧ w.grownBy w' (some Q)) ∨
      (∃ e p, r = .panicked [wrongV e p] ∧ dec s = .error (e, p) ∧ Below w.heap.size w w') := by
  have hQ : Q < w.heap.size := World.block_lt_of_cell? w _ hq
  go_enter Tryz.func168, Tryz.ntmps168
  go_wp2_with fail
  refine (decode1_any _ s Ps hT hs hps).mono ?_
  rintro r w1 ⟨hB, hr⟩
  rcases hr with ⟨l, v, hd, hl, rfl, hown⟩ | ⟨e, p, hd, rfl⟩
  · have hq1 : w1.cell? ⟨Q, 0, none⟩ = some x := (hB.cell (p := ⟨Q, 0, none⟩) hQ).trans hq
    have hz1 : w1.frozen? ⟨Q, 0, none⟩ = false := (hB.frozen (p := ⟨Q, 0, none⟩) hQ).trans hz
    have hg : w.grownBy (w1.setCell ⟨Q, 0, none⟩ v) (some Q) := grown_set ⟨hB.os, hB.tape, hB.output, hB.size, fun k hk _ => hB.block k hk⟩ _ _ (by simp)
    have hown' : (w1.setCell ⟨Q, 0, none⟩ v).ownsRow w.heap.size 139 4 v l.length (cellsOf l) := ownsRow_setCell_below hown (by simpa using hQ) _
    have hd' : Hid (dec s = .ok l) := hd
    have hc' := World.cell?_setCell_same w1 ⟨Q, 0, none⟩ v hq1
    rcases hown.2 with ⟨rfl, hn⟩ | ⟨g, cap, cur, rfl, hrest⟩
    all_goals
      clear hd hown
      have HG := mkHid hg
      have HO := mkHid hown'
      have HC := mkHid hc'
      clear hg hown' hc'
      go_wp2
      go_end0
      exact Or.inl ⟨rfl, l, _, hd'.out, hl, HC.out, HO.out, HG.out⟩
  · exact ⟨rfl, Or.inr ⟨e, p, rfl, hd, hB⟩⟩

theorem callMade1 (args : Array Value) (w : World) : (callFunc 168 args).run Tryz.prog w = .ok (.enter 168 args) w := by kernel_rfl

theorem own_lower {w : World} {B B' e size n : Nat} {v : Value} {xs : List Value} (h : w.ownsRow B e size v n xs) (hB : B' ≤ B) : w.ownsRow B' e size v n xs := by
  refine ⟨h.1, ?_⟩
  rcases h.2 with h | ⟨g, cap, cur, h1, h2, h3⟩
  · exact Or.inl h
  · exact Or.inr ⟨g, cap, cur, h1, Nat.le_trans hB h2, h3⟩

theorem afterMade (w w1 : World) (x : Value) (h : ((((w.alloc (.cells #[x] 179)).alloc (.cells #[.int .i64 0, .int .i64 0] 43)).alloc (.cells #[.slice none 0 0] 105)).alloc (.cells #[.int .i64 0, .int .i64 0] 43)).grownBy w1 (some (w.heap.size + 2))) :
    w1.heap[w.heap.size + 3]? = some (.cells #[.int .i64 0, .int .i64 0] 43 (0, 0)) ∧ Below w.heap.size w w1 ∧ w1.cell? ⟨w.heap.size + 1, 0, none⟩ = some (.int .i64 0) ∧ w1.cell? ⟨w.heap.size + 1, 1, none⟩ = some (.int .i64 0) ∧
      (∀ j, w1.frozen? ⟨w.heap.size + 1, j, none⟩ = false) ∧ w.heap.size + 4 ≤ w1.heap.size := by
  have hB0 : Below w.heap.size w ((((w.alloc (.cells #[x] 179)).alloc (.cells #[.int .i64 0, .int .i64 0] 43)).alloc (.cells #[.slice none 0 0] 105)).alloc (.cells #[.int .i64 0, .int .i64 0] 43)) :=
    ((((Below.refl _ _).alloc (Nat.le_refl _) _).alloc (by simp) _).alloc (by simp; omega) _).alloc (by simp; omega) _
  have hz : ((((w.alloc (.cells #[x] 179)).alloc (.cells #[.int .i64 0, .int .i64 0] 43)).alloc (.cells #[.slice none 0 0] 105)).alloc (.cells #[.int .i64 0, .int .i64 0] 43)).heap.size = w.heap.size + 4 := by simp
  refine ⟨?_, below_of_grown hB0 h (by omega), ?_, ?_, ?_, by rw [← hz]; exact h.size⟩
  · rw [h.block (w.heap.size + 3) (by omega) (by simp)]
    show ((((w.heap.push _).push _).push _).push _)[w.heap.size + 3]? = _
    rw [Array.getElem?_push, if_pos (by simp)]
  · exact h.cell (a := ⟨w.heap.size + 1, 0, none⟩) (by simp [go_sem]) (by simp)
  · exact h.cell (a := ⟨w.heap.size + 1, 1, none⟩) (by simp [go_sem]) (by simp)
  · intro j
    rw [World.frozen?_of_block (a := ⟨w.heap.size + 1, j, none⟩) (h.block (w.heap.size + 1) (by omega) (by simp))]
    simp [go_sem]


set_option maxHeartbeats 1000000 in
theorem Made_any (w : World) (s : ByteArray) (Ps : Nat) (hT : Tabs w) (hs : s.size ≤ 200) (hps : w.cell? ⟨Ps, 0, none⟩ = some (.string s)) :
    Calls Tryz.prog 131 #[.func (.func 132) #[] #[.pointer (some ⟨Ps, 0, none⟩)]] w fun r w' => Below w.heap.size w w' ∧
      ((∃ l v, dec s = .ok l ∧ l.length ≤ s.size ∧ r = .returned (.tuple #[v, .agg #[.int .i64 0, .int .i64 0]]) ∧ w'.ownsRow w.heap.size 139 4 v l.length (cellsOf l)) ∨
       (∃ e p, dec s = .error (e, p) ∧ r = .returned (.tuple #[.slice none 0 0, .agg #[.int .i64 e, .int .i64 p]]))) := by
  have hmf : ∀ (fn : Fn) (first cap : Array Value) (w : World), (Instr.makeFunc fn first cap).run Tryz.prog w = .ok (.func fn first cap) w := fun _ _ _ _ => rfl
  have hP : Ps < w.heap.size := World.block_lt_of_cell? w _ hps
  have hB0 : Below w.heap.size w (((w.alloc (.cells #[.func (.func 132) #[] #[.pointer (some ⟨Ps, 0, none⟩)]] 179)).alloc (.cells #[.int .i64 0, .int .i64 0] 43)).alloc (.cells #[.slice none 0 0] 105)) := (((Below.refl _ _).alloc (Nat.le_refl _) _).alloc (by simp) _).alloc (by simp; omega) _
  have hB1 := hB0.alloc hB0.size (.cells #[.int .i64 0, .int .i64 0] 43)
  go_enter Tryz.func131, Tryz.ntmps131
  go_wp2_with fail
  refine (caught_any 168 _ _ (fun w1 => ∃ l v, dec s = .ok l ∧ l.length ≤ s.size ∧ w1.cell? ⟨w.heap.size + 2, 0, none⟩ = some v ∧ w1.ownsRow (w.heap.size + 4) 139 4 v l.length (cellsOf l) ∧ Below w.heap.size w w1 ∧
    (∃ x y, w1.cell? ⟨w.heap.size + 1, 0, none⟩ = some x ∧ w1.cell? ⟨w.heap.size + 1, 1, none⟩ = some y) ∧ (∀ j, w1.frozen? ⟨w.heap.size + 1, j, none⟩ = false) ∧ w.heap.size + 4 ≤ w1.heap.size)
    (fun e p w1 => dec s = .error (e, p) ∧ w1.cell? ⟨w.heap.size + 2, 0, none⟩ = some (.slice none 0 0) ∧ Below w.heap.size w w1 ∧
    (∃ x y, w1.cell? ⟨w.heap.size + 1, 0, none⟩ = some x ∧ w1.cell? ⟨w.heap.size + 1, 1, none⟩ = some y) ∧ (∀ j, w1.frozen? ⟨w.heap.size + 1, j, none⟩ = false) ∧ w.heap.size + 4 ≤ w1.heap.size) (callMade1 _) ?hc).mono ?_
  case hc =>
    refine (made1_any _ s w.heap.size (w.heap.size + 2) Ps (.slice none 0 0) (hT.below hB1) hs (by simp [go_sem]) ((hB1.cell (p := ⟨Ps, 0, none⟩) hP).trans hps) (by simp [go_sem]) (by simp [go_sem])).mono ?_
    rintro r w1 (⟨rfl, l, v, hd, hl, hc, ho, hg⟩ | ⟨e, p, rfl, hd, hb⟩)
    · obtain ⟨a1, a2, a3, a4, a5, a6⟩ := afterMade w w1 _ hg
      refine ⟨by simpa using a1, Or.inl ⟨rfl, l, v, hd, hl, hc, ?_, a2, ⟨.int .i64 0, .int .i64 0, a3, a4⟩, a5, a6⟩⟩
      exact own_lower ho (by simp)
    · have hg2 : World.grownBy _ w1 (some (w.heap.size + 2)) := ⟨hb.os, hb.tape, hb.output, hb.size, fun k hk _ => hb.block k hk⟩
      obtain ⟨a1, a2, a3, a4, a5, a6⟩ := afterMade w w1 _ hg2
      refine ⟨by simpa using a1, Or.inr ⟨e, p, rfl, hd, ?_, a2, ⟨.int .i64 0, .int .i64 0, a3, a4⟩, a5, a6⟩⟩
      exact (hb.cell (p := ⟨w.heap.size + 2, 0, none⟩) (by simp)).trans (by simp [go_sem])
  rintro r w2 ⟨w1, hg, hr⟩
  have hz : (((w.alloc (.cells #[.func (.func 132) #[] #[.pointer (some ⟨Ps, 0, none⟩)]] 179)).alloc (.cells #[.int .i64 0, .int .i64 0] 43)).alloc (.cells #[.slice none 0 0] 105)).heap.size = w.heap.size + 3 := by simp
  rw [hz] at hg
  clear hB0 hB1 hz
  rcases hr with ⟨rfl, l, v, hd, hl, hc, ho, hB, ⟨x, y, hx, hy⟩, hfz, hsz⟩ | ⟨e, p, rfl, hd, hc, hB, ⟨x, y, hx, hy⟩, hfz, hsz⟩
  · have c4 : w2.cell? ⟨w.heap.size + 1 + 1, 0, none⟩ = some v := hg.cell hc (by simp)
    have c30 : w2.cell? ⟨w.heap.size + 1, 0, none⟩ = some x := hg.cell hx (by simp)
    have c31 : w2.cell? ⟨w.heap.size + 1, 1, none⟩ = some y := hg.cell hy (by simp)
    have z3 : ∀ j, w2.frozen? ⟨w.heap.size + 1, j, none⟩ = false := fun j => (World.frozen?_of_block (a := ⟨w.heap.size + 1, j, none⟩) (hg.block (w.heap.size + 1) (by omega) (by simp))).trans (hfz j)
    have hsz2 : w.heap.size + 4 ≤ w2.heap.size := Nat.le_trans hsz hg.size
    have hlt1 : w.heap.size + 1 < w2.heap.size := by omega
    have hlt2 : w.heap.size + 1 + 1 < w2.heap.size := by omega
    have HD := mkHid hd
    have hB2 : Below w.heap.size w w2 := below_of_grown hB hg (by omega)
    have ho2 : w2.ownsRow w.heap.size 139 4 v l.length (cellsOf l) := own_lower (ho.kept hg (own_ne ho (by omega))) (by omega)
    have HO := mkHid ho2
    have HO4 := mkHid ho
    have ho3 := ho2.2
    clear hd hc hx hy hfz hg hB ho ho2
    rcases ho3 with ⟨rfl, hn⟩ | ⟨g, cap, cur, rfl, hrest⟩
    all_goals
      try clear hrest
      go_wp2_with fail
      go_region
      all_goals
        go_wp2
        obtain ⟨hg, q0, q1⟩ := fault_world w2 (w.heap.size + 1) 0 0 (.cells #[.int .i64 0, .int .i64 0] 43) c30 c31
        have hB3 := below_of_grown hB2 hg (by omega)
        have ho3 := World.ownsRow.kept HO.out hg (own_ne HO4.out (by omega))
        generalize ((w2.setCell ⟨w.heap.size + 1, 0, none⟩ (.int .i64 0)).setCell ⟨w.heap.size + 1, 1, none⟩ (.int .i64 0)).alloc (.cells #[.int .i64 0, .int .i64 0] 43) = W3 at *
        exact bodyPost_ret (v := .tuple #[_, .agg #[.int .i64 0, .int .i64 0]]) (by simp [results, Tryz.results131, go_sem, q0, q1]) rfl ⟨hB3.drew, Or.inl ⟨l, _, HD.out, hl, rfl, ho3⟩⟩
  · have c4 : w2.cell? ⟨w.heap.size + 1 + 1, 0, none⟩ = some (.slice none 0 0) := hg.cell hc (by simp)
    have c30 : w2.cell? ⟨w.heap.size + 1, 0, none⟩ = some x := hg.cell hx (by simp)
    have c31 : w2.cell? ⟨w.heap.size + 1, 1, none⟩ = some y := hg.cell hy (by simp)
    have z3 : ∀ j, w2.frozen? ⟨w.heap.size + 1, j, none⟩ = false := fun j => (World.frozen?_of_block (a := ⟨w.heap.size + 1, j, none⟩) (hg.block (w.heap.size + 1) (by omega) (by simp))).trans (hfz j)
    have hsz2 : w.heap.size + 4 ≤ w2.heap.size := Nat.le_trans hsz hg.size
    have hlt1 : w.heap.size + 1 < w2.heap.size := by omega
    have hlt2 : w.heap.size + 1 + 1 < w2.heap.size := by omega
    have HD := mkHid hd
    have hB2 : Below w.heap.size w w2 := below_of_grown hB hg (by omega)
    clear hd hc hx hy hfz hg hB
    go_wp2_with fail
    go_region
    all_goals
      go_wp2
      obtain ⟨hg, q0, q1⟩ := fault_world w2 (w.heap.size + 1) e p (.cells #[.int .i64 e, .int .i64 p] 43) c30 c31
      have hB3 := below_of_grown hB2 hg (by omega)
      generalize ((w2.setCell ⟨w.heap.size + 1, 0, none⟩ (.int .i64 e)).setCell ⟨w.heap.size + 1, 1, none⟩ (.int .i64 p)).alloc (.cells #[.int .i64 e, .int .i64 p] 43) = W3 at *
      exact bodyPost_ret (v := .tuple #[.slice none 0 0, .agg #[.int .i64 e, .int .i64 p]]) (by simp [results, Tryz.results131, go_sem, q0, q1]) rfl ⟨hB3.drew, Or.inr ⟨e, p, HD.out, rfl⟩⟩

/-- The answer of Decode. -/
def full (s : ByteArray) : Except (Int × Int) (List Op4) := if 200 < s.size then .error (2, 0) else if s.size = 0 then .error (1, 0) else dec s

theorem fault_set (w1 : World) (N : Nat) (e p : Int) {x y : Value} (n0 : w1.cell? ⟨N, 0, none⟩ = some x) (n1 : w1.cell? ⟨N, 1, none⟩ = some y) :
    w1.grownBy ((w1.setCell ⟨N, 0, none⟩ (.int .i64 e)).setCell ⟨N, 1, none⟩ (.int .i64 p)) (some N) ∧
    ((w1.setCell ⟨N, 0, none⟩ (.int .i64 e)).setCell ⟨N, 1, none⟩ (.int .i64 p)).cell? ⟨N, 0, none⟩ = some (.int .i64 e) ∧
    ((w1.setCell ⟨N, 0, none⟩ (.int .i64 e)).setCell ⟨N, 1, none⟩ (.int .i64 p)).cell? ⟨N, 1, none⟩ = some (.int .i64 p) := by
  refine ⟨?_, ?_, ?_⟩
  · refine grown_set ?_ _ _ (Or.inl rfl)
    refine grown_set ?_ _ _ (Or.inl rfl)
    exact World.grownBy.refl _ _
  · rw [World.cell?_setCell_other _ _ _ _ (by simp), World.cell?_setCell_same _ _ _ n0]
  · exact World.cell?_setCell_same _ _ _ ((World.cell?_setCell_other _ _ _ _ (by simp)).trans n1)

set_option maxHeartbeats 1000000 in
theorem Decode_any (w : World) (s : ByteArray) (hT : Tabs w) (hs : s.size ≤ maxLen) :
    Calls Tryz.prog 86 #[.string s] w fun r w' => Below w.heap.size w w' ∧
      ((∃ l v, full s = .ok l ∧ l.length ≤ 200 ∧ r = .returned (.tuple #[v, .agg #[.int .i64 0, .int .i64 0]]) ∧ w'.ownsRow w.heap.size 139 4 v l.length (cellsOf l)) ∨
       (∃ e p, full s = .error (e, p) ∧ r = .returned (.tuple #[.slice none 0 0, .agg #[.int .i64 e, .int .i64 p]]))) := by
  have hmf : ∀ (fn : Fn) (first cap : Array Value) (w : World), (Instr.makeFunc fn first cap).run Tryz.prog w = .ok (.func fn first cap) w := fun _ _ _ _ => rfl
  have hs' := hs
  unfold maxLen at hs'
  have hB0 : Below w.heap.size w ((w.alloc (.cells #[.string s] 9)).alloc (.cells #[.int .i64 0, .int .i64 0] 43)) := ((Below.refl _ _).alloc (Nat.le_refl _) _).alloc (by simp) _
  by_cases h1 : 200 < s.size
  · have hf : Hid (full s = .error (2, 0)) := by show full s = _; simp [full, h1]
    have h1' : (200 : Int) < s.size := by omega
    go_enter Tryz.func86, Tryz.ntmps86
    go_wp2
    refine bodyPost_ret (v := .tuple #[.slice none 0 0, .agg #[.int .i64 2, .int .i64 0]]) (by simp [results, Tryz.results86, go_sem]) rfl ⟨?_, Or.inr ⟨_, _, hf.out, rfl⟩⟩
    exact ((Below.refl _ _).alloc (Nat.le_refl _) _).alloc (by simp) _
  · by_cases h2 : s.size = 0
    · have hf : Hid (full s = .error (1, 0)) := by show full s = _; simp [full, h2]
      have h2' : ((s.size : Int) == 0) = true := beq_iff_eq.2 (by omega)
      have h1' : ¬ (200 : Int) < s.size := by omega
      clear h2
      go_enter Tryz.func86, Tryz.ntmps86
      go_wp2
      refine bodyPost_ret (v := .tuple #[.slice none 0 0, .agg #[.int .i64 1, .int .i64 0]]) (by simp [results, Tryz.results86, go_sem]) rfl ⟨?_, Or.inr ⟨_, _, hf.out, rfl⟩⟩
      exact ((Below.refl _ _).alloc (Nat.le_refl _) _).alloc (by simp) _
    · have HF : Hid (full s = dec s) := by show full s = _; simp only [full, h1, h2, if_false]
      have h2' : ((s.size : Int) == 0) = false := beq_eq_false_iff_ne.2 (by omega)
      have h1' : ¬ (200 : Int) < s.size := by omega
      clear h2
      go_enter Tryz.func86, Tryz.ntmps86
      go_wp2_with fail
      refine (Made_any _ s w.heap.size (hT.below hB0) (by omega) (by simp [go_sem])).mono ?_
      rintro r w1 ⟨hb, hr⟩
      have c0 : w1.cell? ⟨w.heap.size + 1, 0, none⟩ = some (.int .i64 0) := (hb.cell (p := ⟨w.heap.size + 1, 0, none⟩) (by simp)).trans (by simp [go_sem])
      have c1 : w1.cell? ⟨w.heap.size + 1, 1, none⟩ = some (.int .i64 0) := (hb.cell (p := ⟨w.heap.size + 1, 1, none⟩) (by simp)).trans (by simp [go_sem])
      have z0 : w1.frozen? ⟨w.heap.size + 1, 0, none⟩ = false := (hb.frozen (p := ⟨w.heap.size + 1, 0, none⟩) (by simp)).trans (by simp [go_sem])
      have z1 : w1.frozen? ⟨w.heap.size + 1, 1, none⟩ = false := (hb.frozen (p := ⟨w.heap.size + 1, 1, none⟩) (by simp)).trans (by simp [go_sem])
      have hsz : w.heap.size + 1 < w1.heap.size := World.block_lt_of_cell? w1 _ c0
      have hB : Below w.heap.size w w1 := hB0.trans (hb.mono (by simp; omega))
      rcases hr with ⟨l, v, hd, hl, rfl, ho⟩ | ⟨e, p, hd, rfl⟩
      · obtain ⟨hg, q0, q1⟩ := fault_set w1 (w.heap.size + 1) 0 0 c0 c1
        have HD := mkHid hd
        have HO := mkHid (own_lower (ho.kept hg (own_ne ho (by simp))) (B' := w.heap.size) (by simp; omega))
        have HB := mkHid (below_of_grown hB hg (by omega))
        have HQ := mkHid (And.intro q0 q1)
        have ho3 := ho.2
        clear hd hb hB hg ho q0 q1 hB0
        rcases ho3 with ⟨rfl, hn⟩ | ⟨g, cap, cur, rfl, hrest⟩
        all_goals
          try clear hrest
          go_wp2
          obtain ⟨q0, q1⟩ := HQ.out
          refine bodyPost_ret (v := .tuple #[_, .agg #[.int .i64 0, .int .i64 0]]) (by simp [results, Tryz.results86, go_sem, q0, q1]) rfl ⟨HB.out, Or.inl ⟨l, _, HF.out.trans HD.out, by omega, rfl, HO.out⟩⟩
      · obtain ⟨hg, q0, q1⟩ := fault_set w1 (w.heap.size + 1) e p c0 c1
        have HD := mkHid hd
        have HB := mkHid (below_of_grown hB hg (by omega))
        have HQ := mkHid (And.intro q0 q1)
        clear hd hb hB hg q0 q1 hB0
        go_wp2
        obtain ⟨q0, q1⟩ := HQ.out
        refine bodyPost_ret (v := .tuple #[.slice none 0 0, .agg #[.int .i64 e, .int .i64 p]]) (by simp [results, Tryz.results86, go_sem, q0, q1]) rfl ⟨HB.out, Or.inr ⟨e, p, HF.out.trans HD.out, rfl⟩⟩
end Go.Proofs.YtkhconnebiiboaaGreatDoor.Cd
