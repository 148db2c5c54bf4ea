/- Linked classes that came in: what they read as, as slices in memory. -/
import Derived.Test.YtkpklkhkhhlifabGreatArgC
import Derived.Test.YtkpklkhkhhlifabGreatLMk
namespace Go.Proofs.YtkpklkhkhhlifabGreat
open Go.ChangeShapes Go.WideShapes Go.ChangeAt Go.RowKit Go.Deep

theorem cTarg : Tryz.prog.cellsOf 40 = 2 := by kernel_rfl
theorem cLk : Tryz.prog.cellsOf 28 = 5 := by kernel_rfl
theorem cClasses : Tryz.prog.cellsOf 22 = 1 := by kernel_rfl
theorem cInts : Tryz.prog.cellsOf 23 = 1 := by kernel_rfl
theorem cStrs : Tryz.prog.cellsOf 53 = 1 := by kernel_rfl
theorem cTargs : Tryz.prog.cellsOf 76 = 1 := by kernel_rfl
theorem cFieldss : Tryz.prog.cellsOf 24 = 1 := by kernel_rfl
theorem cStrss : Tryz.prog.cellsOf 25 = 1 := by kernel_rfl
theorem cTargss : Tryz.prog.cellsOf 26 = 1 := by kernel_rfl
theorem len1 {α : Type} {l : List α} (h : l.length = 1) : ∃ c0, l = [c0] := by
  match l, h with
  | [c0], _ => exact ⟨_, rfl⟩
theorem len5 {α : Type} {l : List α} (h : l.length = 5) : ∃ c0 c1 c2 c3 c4, l = [c0, c1, c2, c3, c4] := by
  match l, h with
  | [c0, c1, c2, c3, c4], _ => exact ⟨_, _, _, _, _, rfl⟩

theorem int_reads {H : Type} {enc : TypeId × Value → H} {w : World} (fuel : Nat) (cs : List Value) (x : DataW H × List MemPlace) (h : DataW.trod enc Tryz.prog w 0 (fun _ => true) true fuel 3 cs = some x) : ∃ y : Int, RI (· < w.heap.size) w cs y := by
  obtain ⟨a, ea, _⟩ := DataW.trod_int Tryz.underlying3 h
  exact ⟨a, ea⟩
theorem str_reads {H : Type} {enc : TypeId × Value → H} {w : World} (fuel : Nat) (cs : List Value) (x : DataW H × List MemPlace) (h : DataW.trod enc Tryz.prog w 0 (fun _ => true) true fuel 9 cs = some x) : ∃ y : ByteArray, RS (· < w.heap.size) w cs y := by
  obtain ⟨s, es, _, hs⟩ := DataW.trod_string Tryz.underlying9 h
  exact ⟨s, es, hs⟩
theorem targ_reads {H : Type} {enc : TypeId × Value → H} {w : World} (fuel : Nat) (cs : List Value) (x : DataW H × List MemPlace) (h : DataW.trod enc Tryz.prog w 0 (fun _ => true) true fuel 40 cs = some x) : ∃ y : TargD, RT (· < w.heap.size) w cs y := by
  obtain ⟨ys, m, rfl, _, hl, hn, hel⟩ := DataW.trod_struct Tryz.underlying40 h
  rw [cTarg] at hl
  have hn2 : ys.length = 2 := hn
  clear h
  obtain ⟨c0, c1, rfl⟩ := len2 hl
  have g0 := hel 0 _ rfl
  have g1 := hel 1 _ rfl
  simp [cInt] at g0 g1
  obtain ⟨y0, y1, rfl⟩ := len2 hn2
  obtain ⟨a, ea, _⟩ := DataW.trod_int Tryz.underlying3 g0
  obtain ⟨b, eb, _⟩ := DataW.trod_int Tryz.underlying3 g1
  simp at ea eb
  subst ea eb
  exact ⟨⟨a, b⟩, rfl⟩
theorem row_reads {H : Type} {enc : TypeId × Value → H} {w : World} {α : Type} {n : Nat} {R : (Nat → Prop) → World → List Value → α → Prop} {t e : TypeId} (ht : Tryz.prog.underlying t = some (.slice e)) (hce : Tryz.prog.cellsOf e = n) (hn : 0 < n)
    (hel : ∀ (fuel : Nat) (cs : List Value) (x : DataW H × List MemPlace), DataW.trod enc Tryz.prog w 0 (fun _ => true) true fuel e cs = some x → ∃ y : α, R (· < w.heap.size) w cs y)
    (fuel : Nat) (cs : List Value) (x : DataW H × List MemPlace) (h : DataW.trod enc Tryz.prog w 0 (fun _ => true) true fuel t cs = some x) : ∃ y : List α, RSl n R (· < w.heap.size) w cs y := by
  have hl : ∃ v, cs = [v] := by
    rcases open_slice ht h with ⟨hcs, _⟩ | ⟨a, len, cap, m, n', D, Pl, hcs, _⟩
    · exact ⟨_, hcs⟩
    · exact ⟨_, hcs⟩
  obtain ⟨v, rfl⟩ := hl
  obtain ⟨l, hl⟩ := sl_reads ht hce hn hel h
  exact ⟨l, v, rfl, hl⟩
theorem linked_reads {H : Type} {enc : TypeId × Value → H} {w : World} {fuel : Nat} {cs : List Value} {x : DataW H × List MemPlace} (h : DataW.trod enc Tryz.prog w 0 (fun _ => true) true fuel 28 cs = some x) :
    ∃ kC kS kF kN kT d, cs = [kC, kS, kF, kN, kT] ∧ RLk (· < w.heap.size) w kC kS kF kN kT d := by
  obtain ⟨ys, m, rfl, _, hl, hn, hel⟩ := DataW.trod_struct Tryz.underlying28 h
  rw [cLk] at hl
  clear h
  obtain ⟨c0, c1, c2, c3, c4, rfl⟩ := len5 hl
  have g0 := hel 0 _ rfl
  have g1 := hel 1 _ rfl
  have g2 := hel 2 _ rfl
  have g3 := hel 3 _ rfl
  have g4 := hel 4 _ rfl
  simp [cClasses, cInts, cFieldss, cStrss, cTargss] at g0 g1 g2 g3 g4
  have hn2 : ys.length = 5 := hn
  obtain ⟨y0, y1, y2, y3, y4, rfl⟩ := len5 hn2
  obtain ⟨l0, h0⟩ := classes_reads g0
  obtain ⟨l1, h1⟩ := sl_reads Tryz.underlying23 cInt (by omega) int_reads g1
  obtain ⟨l2, h2⟩ := sl_reads Tryz.underlying24 cFields (by omega) (row_reads Tryz.underlying54 cField (by omega) field_reads) g2
  obtain ⟨l3, h3⟩ := sl_reads Tryz.underlying25 cStrs (by omega) (row_reads Tryz.underlying53 cStr (by omega) str_reads) g3
  obtain ⟨l4, h4⟩ := sl_reads Tryz.underlying26 cTargs (by omega) (row_reads Tryz.underlying76 cTarg (by omega) targ_reads) g4
  exact ⟨_, _, _, _, _, ⟨l0, l1, l2, l3, l4⟩, rfl, h0, h1, h2, h3, h4⟩
end Go.Proofs.YtkpklkhkhhlifabGreat
