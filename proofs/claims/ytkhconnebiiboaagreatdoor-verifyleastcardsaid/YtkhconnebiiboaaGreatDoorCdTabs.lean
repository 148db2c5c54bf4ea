/- What the listed variables give a walk: the tables' cells. -/
import Derived.Test.YtkhconnebiiboaaGreatDoorRows
import Derived.Test.YtkhconnebiiboaaGreatDoorCdRead
import Derived.ProofKit
import Derived.OpenShut
import Derived.Lib.LaidTab
import Derived.Stop.LaidErr
namespace Go.Proofs.YtkhconnebiiboaaGreatDoor.Cd
set_option maxRecDepth 100000
open Go.ChangeShapes Go.WideShapes Go.ChangeAt Go.RowKit

theorem own : ownKnob Tryz.prog.godebug = none := by kernel_rfl
theorem gBehind : Tryz.prog.globalNamed "cinder/code.behind" = some 6 := by kernel_rfl
theorem gRooms : Tryz.prog.globalNamed "cinder/code.rooms" = some 5 := by kernel_rfl
theorem tBehind : (Tryz.prog.globals[6]?).map (·.type) = some 212 := by kernel_rfl
theorem tRooms : (Tryz.prog.globals[5]?).map (·.type) = some 211 := by kernel_rfl
theorem cells3 : Tryz.prog.cellsOf 3 = 1 := by kernel_rfl
theorem cells72 : Tryz.prog.cellsOf 212 = 37 := by kernel_rfl
theorem cells76 : Tryz.prog.cellsOf 210 = 4 := by kernel_rfl
theorem cells77 : Tryz.prog.cellsOf 211 = 20 := by kernel_rfl
def tabZ : List Int := [0, 1, 0, 3, 3, 0, 0, 0, 0, 0, 0, 0, 0, 2, 2, 2, 2, 2, 3, 4, 4, 0, 3, 0, 0, 0, 4, 0, 0, 3, 3, 0, 0, 0, 4, 0, 0]
theorem tabZ_eq (o : Nat) (h : o < 37) : tabZ.getD o 0 = (kOf o : Int) := by
  have : ∀ o : Fin 37, tabZ.getD o.val 0 = (kOf o.val : Int) := by decide
  exact this ⟨o, h⟩

abbrev laidL : List (String × DataW Unit) := [("cinder/code.rooms", Rows.laid_cinder_code_rooms), ("cinder/code.behind", Rows.laid_cinder_code_behind), ("cinder/verify.number", Rows.laid_cinder_verify_number), ("cinder/verify.row", Rows.laid_cinder_verify_row), ("cinder/verify.null", Rows.laid_cinder_verify_null), ("cinder/verify.anything", Rows.laid_cinder_verify_anything), ("cinder/verify.thing", Rows.laid_cinder_verify_thing)]

theorem behind_of {W : World} (h : laidMet Tryz.prog laidL W) : Lib.TabIs Tryz.prog W "cinder/code.behind" .i64 tabZ :=
  Lib.tabIs_of_head gBehind tBehind Tryz.underlying212 Tryz.underlying3 cells3 cells72 h.tail

def rowsZ : List (List Int) := [[0, 0, 0, 0], [2, -32768, 32767, 0], [2, 0, 65535, 0], [1, 0, 255, 0], [2, 0, 255, 255]]

theorem room_cells {H : Type} {enc : TypeId × Value → H} {w : World} {base : Nat} {spare : Nat → Bool} {held : Bool} {fuel : Nat} {cs : List Value} {ps : List MemPlace}
    (h : DataW.trod enc Tryz.prog w base spare held fuel 211 cs = some (Rows.laid_cinder_code_rooms, ps)) (i j : Nat) (hi : i < 5) (hj : j < 4) :
    cs[i * 4 + j]? = some (.int .i64 ((rowsZ.getD i []).getD j 0)) := by
  obtain ⟨xs, m, rfl, hx, hlen, hn, hel⟩ := DataW.trod_array Tryz.underlying211 h
  have h1 := hel i hi
  rw [cells76] at h1
  have hxi : (xs.map (·.1))[i]? = some (.agg ((rowsZ.getD i []).map fun z => .lit (.int .i64 z))) := by
    have e : xs.map (·.1) = rowsZ.map fun r => .agg (r.map fun z => .lit (.int .i64 z)) := by
      have := (Prod.mk.inj hx).1
      exact (DataW.agg.inj this).symm
    rw [e]
    match i, hi with
    | 0, _ => rfl
    | 1, _ => rfl
    | 2, _ => rfl
    | 3, _ => rfl
    | 4, _ => rfl
  rw [List.getElem?_map] at hxi
  cases hxe : xs[i]? with
  | none => rw [hxe] at hxi; cases hxi
  | some x =>
    rw [hxe] at hxi h1
    obtain ⟨ys, m', rfl, hy, hlen2, hn2, hel2⟩ := DataW.trod_struct Tryz.underlying210 h1
    have hx1 : x.1 = .agg ((rowsZ.getD i []).map fun z => .lit (.int .i64 z)) := Option.some.inj hxi
    have ey : ys.map (·.1) = (rowsZ.getD i []).map fun z => .lit (.int .i64 z) := by
      rw [hy] at hx1
      exact DataW.agg.inj hx1
    have hlen3 : (rowsZ.getD i []).length = 4 := by
      match i, hi with
      | 0, _ => rfl
      | 1, _ => rfl
      | 2, _ => rfl
      | 3, _ => rfl
      | 4, _ => rfl
    have hf : DataW.trod enc Tryz.prog w base spare held m' 3 ((((cs.drop (i * 4)).take 4).drop j).take 1) = ys[j]? := by
      match j, hj with
      | 0, _ => have := hel2 0 _ rfl; simpa [cells3] using this
      | 1, _ => have := hel2 1 _ rfl; simpa [cells3] using this
      | 2, _ => have := hel2 2 _ rfl; simpa [cells3] using this
      | 3, _ => have := hel2 3 _ rfl; simpa [cells3] using this
    have eyj : (ys.map (·.1))[j]? = some (.lit (.int .i64 ((rowsZ.getD i []).getD j 0))) := by
      rw [ey]
      generalize rowsZ.getD i [] = r at hlen3
      have hjr : j < r.length := by omega
      simp [hjr]
    rw [List.getElem?_map] at eyj
    cases hye : ys[j]? with
    | none => rw [hye] at eyj; cases eyj
    | some y =>
      rw [hye] at eyj hf
      obtain ⟨z, e1, e2, _⟩ := DataW.trod_int Tryz.underlying3 hf
      have ez : z = (rowsZ.getD i []).getD j 0 := by
        have : y.1 = .lit (.int .i64 ((rowsZ.getD i []).getD j 0)) := Option.some.inj eyj
        rw [e2] at this
        simpa using this
      subst ez
      have := congrArg (fun l => l[0]?) e1
      simp only [List.getElem?_take, List.getElem?_drop] at this
      simpa [show 0 < 1 by omega, show j < 4 by omega] using this

theorem rooms_of {W : World} (h : laidMet Tryz.prog laidL W) (i j : Nat) (hi : i < 5) (hj : j < 4) : W.cell? ⟨5, i * 4 + j, none⟩ = some (.int .i64 ((rowsZ.getD i []).getD j 0)) := by
  obtain ⟨ps, ⟨g0, t0, cs0, f0, p0, q0, hg0, ht0, hv0, hd0, _⟩, _⟩ := h
  obtain rfl := Option.some.inj (gRooms.symm.trans hg0)
  obtain rfl := Option.some.inj (tRooms.symm.trans ht0)
  have := World.var?_cell hg0 hv0 (i * 4 + j)
  rw [this]
  have h2 := room_cells hd0 i j hi hj
  simpa using h2

theorem tabs_of {W : World} (h : laidMetH Tryz.prog laidL W) : Tabs W := by
  have h' : laidMet Tryz.prog laidL W := h
  have hb := behind_of h'
  refine ⟨fun o ho => ?_, fun k hk => ?_, ?_⟩
  · rw [hb.cell gBehind o ho, tabZ_eq o ho]
  · have := rooms_of h' k 0 hk (by omega)
    rw [Nat.add_zero] at this
    rw [this]
    match k, hk with
    | 0, _ => rfl
    | 1, _ => rfl
    | 2, _ => rfl
    | 3, _ => rfl
    | 4, _ => rfl
  · exact World.block_lt_of_cell? W _ (hb.cell gBehind 0 (by decide))

/-- A world for a witness: the tables holding what their initialisers lay. -/
def lay (zs : List Int) : Obj → Obj
  | .cells _ t frozen => .cells (zs.map fun z => Value.int .i64 z).toArray t frozen
  | o => o
def layWorld (w : World) : World := { w with heap := (w.heap.modify 6 (lay tabZ)).modify 5 (lay rowsZ.flatten) }
end Go.Proofs.YtkhconnebiiboaaGreatDoor.Cd
