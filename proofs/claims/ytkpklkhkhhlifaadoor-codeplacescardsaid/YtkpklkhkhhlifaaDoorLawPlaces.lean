/- The law CodePlaces, walked. -/
import Derived.Test.YtkpklkhkhhlifaaDoorBegun
import Derived.Test.YtkpklkhkhhlifaaDoorPlaceRef
namespace Go.Proofs.YtkpklkhkhhlifaaDoor
open Go.RowKit

set_option maxHeartbeats 1000000 in
theorem places_any (w : World) (v : Value) (l : List Op4) (n : Int) (hT : Tabs w) (h : Holds4 w v l) (hl : l.length ≤ 9223372036854775807) :
    Calls Tryd.prog 5 #[v, .int .i64 n] w fun r w' => r = .returned (.bool true) ∧ Below w.heap.size w w' := by
  go_enter Tryd.func5, Tryd.ntmps5
  go_wp2_with fail
  refine (place_all _ v l n h hl).mono ?_
  rintro r w1 ⟨rfl, hB⟩
  have h1 := h.below hB
  have hT1 := hT.below hB
  go_wp2_with fail
  refine (placeOf_all _ v l n h1 hl).mono ?_
  rintro r w2 ⟨rfl, rfl⟩
  cases hp : place l n 0 with
  | none =>
    rw [placeN_none hp, placeE_none hp, placeM_none hp]
    clear hp
    go_wp2_with fail
    refine (begun_any _ hT1).mono ?_
    rintro r w3 ⟨rfl, hB2⟩
    have hB3 := hB.trans (hB2.mono hB.size)
    go_wp2_with fail
    go_ret
    exact ⟨rfl, hB3⟩
  | some k =>
    rw [placeN_some hp, placeE_some hp, placeM_some hp]
    clear hp
    have hk : ¬ ((k : Int) < 0) := by omega
    go_wp2_with fail
    refine (begun_any _ hT1).mono ?_
    rintro r w3 ⟨rfl, hB2⟩
    have hB3 := hB.trans (hB2.mono hB.size)
    go_wp2_with fail
    go_ret
    exact ⟨by simp, hB3⟩
end Go.Proofs.YtkpklkhkhhlifaaDoor
