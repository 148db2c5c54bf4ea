/- A list of operations that came in: what it reads as, as a slice in memory. -/
import Derived.Test.YtkpklkhkhhlifaaDoorTabs
import Derived.Test.YtkpklkhkhhlifaaDoorPlace
import Derived.Deep.Slices
import Derived.Carry
import Derived.SizedLaws
namespace Go.Proofs.YtkpklkhkhhlifaaDoor
open Go.ChangeShapes Go.WideShapes Go.ChangeAt Go.RowKit Go.Deep

theorem cells42 : Tryd.prog.cellsOf 43 = 4 := by kernel_rfl

theorem ins_reads {H : Type} {enc : TypeId × Value → H} {w : World} {base : Nat} {spare : Nat → Bool} {held : Bool} {fuel : Nat} {cs : List Value} {x : DataW H × List MemPlace}
    (h : DataW.trod enc Tryd.prog w base spare held fuel 43 cs = some x) (hl : cs.length = 4) : ∃ a b c d : Int, cs = [.int .i64 a, .int .i64 b, .int .i64 c, .int .i64 d] := by
  obtain ⟨ys, m', rfl, hy, hlen2, hn2, hel2⟩ := DataW.trod_struct Tryd.underlying43 h
  have hn4 : ys.length = 4 := hn2
  match cs, hl with
  | [c0, c1, c2, c3], _ =>
    have g0 := hel2 0 _ rfl
    have g1 := hel2 1 _ rfl
    have g2 := hel2 2 _ rfl
    have g3 := hel2 3 _ rfl
    simp [cells3] at g0 g1 g2 g3
    match ys, hn4 with
    | [y0, y1, y2, y3], _ =>
      obtain ⟨a, ea, _⟩ := DataW.trod_int Tryd.underlying3 g0
      obtain ⟨b, eb, _⟩ := DataW.trod_int Tryd.underlying3 g1
      obtain ⟨c, ec, _⟩ := DataW.trod_int Tryd.underlying3 g2
      obtain ⟨d, ed, _⟩ := DataW.trod_int Tryd.underlying3 g3
      simp at ea eb ec ed
      subst ea eb ec ed
      exact ⟨a, b, c, d, rfl⟩

theorem holds_of_reads {H : Type} {enc : TypeId × Value → H} {w : World} {v : Value} {fuel : Nat} {x : DataW H × List MemPlace}
    (h : DataW.trod enc Tryd.prog w 0 (fun _ => true) true fuel 22 [v] = some x) : ∃ l : List Op4, Holds4 w v l ∧ l.length ≤ 9223372036854775807 ∧ ∃ ao c, v = .slice ao l.length c := by
  rcases open_slice Tryd.underlying22 h with ⟨hcs, _⟩ | ⟨a, len, cap, m, n, D, Pl, hcs, _, hlc, hcm, hm, _, hel⟩
  · obtain rfl := (List.cons.inj hcs).1
    exact ⟨[], Or.inl ⟨none, 0, rfl, rfl⟩, by simp, none, 0, rfl⟩
  · obtain rfl := (List.cons.inj hcs).1
    have hlm : len ≤ m := by simp at hm; omega
    have each : ∀ i, i < len → ∃ y : Op4, w.cell? ((a.add (i * 4)).add 0) = some (.int .i64 y.loc) ∧ w.cell? ((a.add (i * 4)).add 1) = some (.int .i64 y.op) ∧ w.cell? ((a.add (i * 4)).add 2) = some (.int .i64 y.a) ∧ w.cell? ((a.add (i * 4)).add 3) = some (.int .i64 y.b) := by
      intro i hi
      obtain ⟨cs', h1, h2⟩ := hel i (by omega)
      rw [cells42] at h1
      obtain ⟨_, hl4, hc⟩ := World.cells?_some h1
      obtain ⟨q0, q1, q2, q3, rfl⟩ := ins_reads h2 hl4
      exact ⟨⟨q0, q1, q2, q3⟩, hc 0 (by omega), hc 1 (by omega), hc 2 (by omega), hc 3 (by omega)⟩
    obtain ⟨f, hf⟩ : ∃ f : Nat → Op4, ∀ i, i < len → w.cell? ((a.add (i * 4)).add 0) = some (.int .i64 (f i).loc) ∧ w.cell? ((a.add (i * 4)).add 1) = some (.int .i64 (f i).op) ∧ w.cell? ((a.add (i * 4)).add 2) = some (.int .i64 (f i).a) ∧ w.cell? ((a.add (i * 4)).add 3) = some (.int .i64 (f i).b) := by
      classical
      refine ⟨fun i => if hi : i < len then Classical.choose (each i hi) else ⟨0, 0, 0, 0⟩, fun i hi => ?_⟩
      simp only [dif_pos hi]
      exact Classical.choose_spec (each i hi)
    have hlen : ((List.range len).map f).length = len := by simp
    refine ⟨(List.range len).map f, ?_, by unfold maxLen at hcm; rw [hlen]; omega, some a, cap, by rw [hlen]⟩
    by_cases h0 : len = 0
    · subst h0
      exact Or.inl ⟨some a, cap, rfl, rfl⟩
    · obtain ⟨b, off, spot⟩ := a
      have hspot : spot = none := by
        have := (hf 0 (by omega)).1
        rw [add_add] at this
        simpa [Addr.add] using World.cell?_spot this
      subst hspot
      have hg : ∀ k, k < len → get4 ((List.range len).map f) k = f k := fun k hk => by simp [get4, hk]
      have hc : ∀ k j, (((⟨b, off, none⟩ : Addr).add (k * 4)).add j) = ⟨b, off + k * 4 + j, none⟩ := fun k j => by rw [add_add, add_plain, Nat.add_assoc]
      refine Or.inr ⟨b, off, cap, by rw [hlen], by rw [hlen]; exact hlc, ?_, ?_, ?_, ?_, ?_⟩
      · intro k hk; rw [hlen] at hk; have := (hf k hk).1; rw [hc] at this; rw [hg k hk]; exact this
      · intro k hk; rw [hlen] at hk; have := (hf k hk).2.1; rw [hc] at this; rw [hg k hk]; exact this
      · intro k hk; rw [hlen] at hk; have := (hf k hk).2.2.1; rw [hc] at this; rw [hg k hk]; exact this
      · intro k hk; rw [hlen] at hk; have := (hf k hk).2.2.2; rw [hc] at this; rw [hg k hk]; exact this
      · have := (hf 0 (by omega)).1
        rw [hc] at this
        exact World.block_lt_of_cell? w _ this

theorem bytes42 : Tryd.prog.bytesOf 43 = 32 := by kernel_rfl

/-- The reach: how many operations there may be. -/
theorem len_of_reads {H : Type} {enc : TypeId × Value → H} {w : World} {ao : Option Addr} {len cap fuel : Nat} {d : DataW H} {ps : List MemPlace}
    (h : DataW.trod enc Tryd.prog w 0 (fun _ => true) true fuel 22 [.slice ao len cap] = some (d, ps)) (hs : (DataW.weightsEach Tryd.prog [22] [d]).all (· ≤ reachBytes) = true) : len ≤ 4398046511104 := by
  rcases open_slice Tryd.underlying22 h with ⟨hcs, _⟩ | ⟨a, len', cap', m, n, D, Pl, hcs, _, hlc, hcm, hm, hx, _⟩
  · have := (List.cons.inj hcs).1
    cases this
    omega
  · have he := (List.cons.inj hcs).1
    cases he
    have hd := (Prod.mk.inj hx).1
    have := sized_slice hs (j := 0) (t := 22) rfl (by rw [hd]; rfl) Tryd.underlying22
    rw [bytes42] at this
    simp only [List.length_map, List.length_range, reachBytes] at this
    omega
end Go.Proofs.YtkpklkhkhhlifaaDoor
