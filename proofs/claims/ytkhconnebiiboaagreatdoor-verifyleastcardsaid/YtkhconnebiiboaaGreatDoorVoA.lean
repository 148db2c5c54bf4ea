/- What the listed kinds give a walk; the tables and the kinds in a world for a witness. -/
import Derived.Test.YtkhconnebiiboaaGreatDoorArgC
import Derived.Test.YtkhconnebiiboaaGreatDoorCdTabs
import Derived.Test.YtkhconnebiiboaaGreatDoorVkM
namespace Go.Proofs.YtkhconnebiiboaaGreatDoor
open Go.ChangeShapes Go.WideShapes Go.ChangeAt Go.RowKit Go.Deep

theorem kcells {W : World} {n : String} {g : Nat} {k : Int} {s : List UInt8} {r : List (String × DataW Unit)} (h : laidMet Tryz.prog ((n, .agg [.lit (.int .i64 k), .lit (.string s)]) :: r) W)
    (hg : Tryz.prog.globalNamed n = some g) (ht : (Tryz.prog.globals[g]?).map (·.type) = some 24) :
    W.cell? ⟨g, 0, none⟩ = some (.int .i64 k) ∧ W.cell? ⟨g, 1, none⟩ = some (.string ⟨s.toArray⟩) := by
  obtain ⟨ps, ⟨g0, t0, cs0, f0, p0, q0, hg0, ht0, hv0, hd0, _⟩, _⟩ := h
  obtain rfl := Option.some.inj (hg.symm.trans hg0)
  obtain rfl := Option.some.inj (ht.symm.trans ht0)
  obtain ⟨ys, m, -, hx, hl, hn, hel⟩ := DataW.trod_struct Tryz.underlying24 hd0
  rw [cKind] at hl
  have hn2 : ys.length = 2 := hn
  obtain ⟨c0, c1, hcs⟩ := len2 hl
  rw [hcs] at hel
  have g0 := hel 0 _ rfl
  have g1 := hel 1 _ rfl
  simp [cInt, cStr] at g0 g1
  obtain ⟨y0, y1, rfl⟩ := len2 hn2
  obtain ⟨a, ea, ex, _⟩ := DataW.trod_int Tryz.underlying3 g0
  obtain ⟨b, eb, ey, _⟩ := DataW.trod_string Tryz.underlying9 g1
  simp at ea eb ex ey
  subst ea eb
  have hz := DataW.agg.inj (Prod.mk.inj hx).1
  simp [ex, ey] at hz
  obtain ⟨h1, h2⟩ := hz
  obtain rfl : cs0 = #[.int .i64 a, .string b] := Array.toList_inj.1 hcs
  refine ⟨(World.var?_cell hg0 hv0 0).trans ?_, (World.var?_cell hg0 hv0 1).trans ?_⟩
  · subst h1
    rfl
  · subst h2
    rfl

theorem glk_of {W : World} (h : laidMetH Tryz.prog Cd.laidL W) : GlK W := by
  have h' : laidMet Tryz.prog Cd.laidL W := h
  have n := kcells h'.tail.tail (g := 3) (by kernel_rfl) (by kernel_rfl)
  have r := kcells h'.tail.tail.tail (g := 4) (by kernel_rfl) (by kernel_rfl)
  have u := kcells h'.tail.tail.tail.tail (g := 2) (by kernel_rfl) (by kernel_rfl)
  have a := kcells h'.tail.tail.tail.tail.tail (g := 1) (by kernel_rfl) (by kernel_rfl)
  have t := kcells h'.tail.tail.tail.tail.tail.tail (g := 0) (by kernel_rfl) (by kernel_rfl)
  have hT := (Cd.tabs_of h).two
  exact ⟨t.1, t.2, a.1, a.2, u.1, u.2, n.1, n.2, r.1, r.2, hT⟩

/-- A world for a witness: tables and kinds hold what their initialisers lay. -/
def layK (k : Int) (s : ByteArray) : Obj → Obj
  | .cells _ t frozen => .cells #[.int .i64 k, .string s] t frozen
  | o => o
def layKs (w : World) : World := { Cd.layWorld w with heap := (((((Cd.layWorld w).heap.modify 3 (layK 1 noNm)).modify 4 (layK 2 noNm)).modify 2 (layK 5 noNm)).modify 1 (layK 6 noNm)).modify 0 (layK 3 topName) }
end Go.Proofs.YtkhconnebiiboaaGreatDoor
