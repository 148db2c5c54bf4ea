/- The law CodeEncodes, walked. -/
import Derived.Test.YtkpklkhkhhlifaaDoorBegun
import Derived.Test.YtkpklkhkhhlifaaDoorCodeOf
namespace Go.Proofs.YtkpklkhkhhlifaaDoor
open Go.RowKit

theorem encRes_empty (l : List Op4) (h : ¬ (encRes l).2 = 0) : (encRes l).1 = [] := by
  unfold encRes at *
  split
  · rfl
  · rename_i bs he
    rw [he] at h
    dsimp only at h ⊢
    split
    · rfl
    · rename_i hn
      rw [if_neg hn] at h
      exact absurd rfl h

set_option maxHeartbeats 1000000 in
theorem encodes_any (w : World) (v : Value) (l : List Op4) (hT : Tabs w) (hR : Rooms w) (hh : Holds4 w v l) (hl : l.length ≤ 4398046511104) :
    Calls Tryd.prog 4 #[v] w fun r w' => r = .returned (.bool true) ∧ Below w.heap.size w w' := by
  have HZ := mkHid (encRes_empty l)
  go_enter Tryd.func4, Tryd.ntmps4
  go_wp2_with fail
  refine (Encode_any _ v l hT hR hh hl).mono ?_
  rintro r w1 ⟨hB, rfl⟩
  have hh1 := hh.below hB
  have hT1 := hT.below hB
  generalize hbs : (encRes l).1 = bs at *
  generalize hee : (encRes l).2 = e at *
  have HBS := mkHid hbs
  have HEE := mkHid hee
  clear hbs hee
  go_wp2_with fail
  refine (codeOf_all _ v l hh1 hl).mono ?_
  rintro r w2 ⟨hB2, rfl⟩
  rw [HBS.out, HEE.out]
  have hB3 := hB.trans (hB2.mono hB.size)
  have hT2 := hT.below hB3
  clear hh1 hB hB2
  go_wp2_with fail
  refine (begun_any _ hT2).mono ?_
  rintro r w3 ⟨rfl, hB4⟩
  have hB5 := hB3.trans (hB4.mono hB3.size)
  clear hB3 hB4
  go_wp2_with fail
  refine (textIs_any _ _ _ (fun h => by rw [HZ.out h])).mono ?_
  rintro r w4 ⟨rfl, rfl⟩
  go_wp2_with fail
  go_ret
  exact ⟨rfl, hB5⟩
end Go.Proofs.YtkpklkhkhhlifaaDoor
