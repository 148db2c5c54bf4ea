/- What must be in any case: the example of the document, decoded. -/
import Derived.Test.YtkpklkhkhhlifabDoorDecode
namespace Go.Proofs.YtkpklkhkhhlifabDoor
open Go.RowKit

def exBytes : ByteArray := { data := #[1, 255, 254, 13, 0, 3] }
def exOps : List Op4 := [⟨0, 1, -2, 0⟩, ⟨3, 13, 3, 0⟩]
theorem full_ex : full exBytes = .ok exOps := by kernel_rfl
theorem place_ex : place exOps 3 0 = some 1 := by rfl

set_option maxHeartbeats 1000000 in
theorem begun_any (w : World) (hT : Tabs w) : Calls Tryd.prog 4 #[] w fun r w' => r = .returned (.bool true) ∧ Below w.heap.size w w' := by
  go_enter Tryd.func4, Tryd.ntmps4
  go_wp2_with fail
  refine (Decode_any _ exBytes hT (by decide)).mono ?_
  rintro r w1 ⟨hB, hr⟩
  rw [full_ex] at hr
  rcases hr with ⟨l, v, hl, hlen, rfl, hown⟩ | ⟨e, p, he, _⟩
  · have el : exOps = l := Except.ok.inj hl
    subst el
    have hh := own_holds hown
    rcases hh with ⟨ao, cap, rfl, h0⟩ | ⟨b, off, cap, rfl, hc, hh⟩
    · cases h0
    have hlt := hh.lt
    have c2 : w1.cell? ⟨b, off + 2, none⟩ = some (.int .i64 (-2)) := hh.c2 0 (by decide)
    have HH := hh.below ((Below.refl _ w1).alloc (Nat.le_refl _) (.cells #[.int .i64 0, .int .i64 0] 26)) hh.lt
    have hlen2 : exOps.length = 2 := rfl
    rw [hlen2]
    go_wp2_with fail
    refine (place_any _ b off cap exOps 3 ?_ (by decide) (by simpa using hc)).mono ?_
    · exact HH
    rintro r w2 ⟨rfl, hB2⟩
    rw [placeN_some place_ex, placeE_some place_ex]
    have d0 : w2.cell? ⟨w1.heap.size, 0, none⟩ = some (.int .i64 0) := (hB2.cell (p := ⟨w1.heap.size, 0, none⟩) (by simp)).trans (by simp)
    have d2 : w2.cell? ⟨b, off + 2, none⟩ = some (.int .i64 (-2)) := (hB2.cell (p := ⟨b, off + 2, none⟩) (by simp; omega)).trans (by rw [World.cell?_alloc_past _ _ _ hlt]; exact c2)
    have hB3 : Below w.heap.size w w2 := (hB.alloc hB.size _).trans (hB2.mono (by have := hB.size; simp; omega))
    clear c2 HH hB hB2 hh hown
    go_wp2_with fail
    go_ret
    exact ⟨rfl, hB3⟩
  · cases he
end Go.Proofs.YtkpklkhkhhlifabDoor
