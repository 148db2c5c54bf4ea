/- The law CodeBack, walked. -/
import Derived.Test.YtkpklkhkhhlifabDoorBegun
import Derived.Test.YtkpklkhkhhlifabDoorBackPlain
namespace Go.Proofs.YtkpklkhkhhlifabDoor
open Go.RowKit

theorem scan_err (s : ByteArray) : ∀ (f p : Nat) (acc : List Op4) (e q : Int), scan s f p acc = .error (e, q) → e = 7 ∨ e = 1
  | 0, p, acc, e, q, h => by cases h
  | f + 1, p, acc, e, q, h => by
    unfold scan at h
    split at h
    · split at h
      · cases h
        exact Or.inl rfl
      · split at h
        · cases h
          exact Or.inr rfl
        · exact scan_err s f _ _ e q h
    · cases h
theorem full_err {s : ByteArray} {e p : Int} (h : full s = .error (e, p)) : ¬ e = 0 := by
  unfold full at h
  split at h
  · cases h
    decide
  · split at h
    · cases h
      decide
    · unfold dec at h
      split at h
      · rename_i e' he'
        cases h
        have := scan_err s _ _ _ _ _ he'
        omega
      · split at h
        · cases h
          decide
        · cases h

set_option maxRecDepth 100000 in
set_option maxHeartbeats 2000000 in
theorem back_any (w : World) (s : ByteArray) (hT : Tabs w) (hR : Rooms w) (hs : s.size ≤ maxLen) :
    Calls Tryd.prog 3 #[.string s] w fun r w' => r = .returned (.bool true) ∧ Below w.heap.size w w' := by
  go_enter Tryd.func3, Tryd.ntmps3
  go_wp2_with fail
  refine (begun_any _ hT).mono ?_
  rintro r w1 ⟨rfl, hB1⟩
  have hT1 := hT.below hB1
  have h1 := hT.two
  have hR1 := hR.kept (hB1.block 1 h1)
  go_wp2_with fail
  refine (Decode_any _ s hT1 hs).mono ?_
  rintro r w2 ⟨hB2, hr⟩
  have hBb : Below w.heap.size w w2 := hB1.trans (hB2.mono hB1.size)
  have hT2 := hT.below hBb
  have hR2 := hR.kept (hBb.block 1 h1)
  rcases hr with ⟨l, v, hf, hl, rfl, ho⟩ | ⟨e, p, hf, rfl⟩
  · obtain ⟨q1, q2, q3, q4, q5⟩ := back_of hf
    have hh := own_holds ho
    have Q1 := mkHid q1
    have Q4 := mkHid q4
    have Q5 := mkHid q5
    clear hf q1 q4 q5 ho hB1 hB2
    rcases hh with ⟨ao, cap, rfl, h0⟩ | ⟨b, off, cap, rfl, hc, hh⟩
    · rw [h0] at q2
      cases q2
    have hBa := (Below.refl _ w2).alloc (Nat.le_refl _) (.cells #[.int .i64 0, .int .i64 0] 26)
    have hh1 := hh.below hBa hh.lt
    have hB3 := hBb.alloc hBb.size (.cells #[.int .i64 0, .int .i64 0] 26)
    have hT3 := hT2.below hBa
    have hR3 := hR2.kept (hBa.block 1 hT2.two)
    have hll : l.length ≤ 4398046511104 := by omega
    go_wp2_with fail
    refine (Encode_any _ _ l hT3 hR3 (Or.inr ⟨b, off, cap, rfl, hc, hh1⟩) hll).mono ?_
    rintro r w3 ⟨hB4, rfl⟩
    rw [Q1.out]
    have es : ByteArray.mk s.data.toList.toArray = s := by simp
    rw [es]
    have hB5 := hB3.trans (hB4.mono hB3.size)
    have hh3 := hh1.below hB4 hh1.lt
    clear hBa hB3 hT3 hR3 hB4 hh1 hh es hT2 hR2 hT1 hR1 hBb
    have c0 := hh3.c0 0 q2
    rw [q3] at c0
    have c0' : w3.cell? ⟨b, off, none⟩ = some (.int .i64 0) := by simpa using c0
    have hl0 : ((l.length : Int) == 0) = false := beq_eq_false_iff_ne.2 (by omega)
    have hl1 : (0 : Int) < l.length := by omega
    clear c0
    go_wp2_with fail
    clear c0'
    go_loopw [7] (fun i wr => ∃ k : Nat, k ≤ l.length ∧ i = .int .i64 k ∧ Below w3.heap.size w3 wr) (fun i _ => l.length - (intOf i).toNat)
    case atStart => exact ⟨0, Nat.zero_le _, rfl, Below.refl _ _⟩
    case round =>
      obtain ⟨k, hk, rfl, hBr⟩ := hrel
      have hfin := hB5.trans (hBr.mono hB5.size)
      have hsz := hBr.size
      by_cases hlt : k < l.length
      · have h' := hh3.below hBr hh3.lt
        cases k with
        | zero =>
          have d0 : wr.cell? ⟨b, off, none⟩ = some (.int .i64 (get4 l 0).loc) := by simpa using h'.c0 0 hlt
          go_wp2_with fail
          refine (place_any _ b off cap l _ h' (by omega) hc).mono ?_
          rintro r w4 ⟨rfl, hB6⟩
          have hp0 : place l 0 0 = some 0 := by
            have := Q4.out 0 hlt
            rwa [q3] at this
          rw [placeN_some hp0, placeE_some hp0]
          clear hp0
          have hB7 := hBr.trans (hB6.mono hsz)
          clear hB6 d0
          go_wp2_with fail
          go_quiet (fail)
          go_wp2_with fail
          go_roundw
          case rel => exact ⟨0 + 1, by omega, by go_num, below_drewN hB7 _⟩
          case measure => simp [intOf]; omega
        | succ j =>
          have d1 := h'.c0 (j + 1) hlt
          go_wp2_with fail
          refine (place_any _ b off cap l _ h' (by omega) hc).mono ?_
          rintro r w4 ⟨rfl, hB6⟩
          rw [placeN_some (Q4.out (j + 1) hlt), placeE_some (Q4.out (j + 1) hlt)]
          have h4 := h'.below hB6 h'.lt
          have e1 := h4.c0 (j + 1) hlt
          have e0 := h4.c0 j (by omega)
          have hris := Q5.out j hlt
          have hris' : ¬ ((get4 l (j + 1)).loc ≤ (get4 l j).loc) := by omega
          have hB7 := hBr.trans (hB6.mono hsz)
          clear hB6 d1
          go_wp2_with fail
          go_quiet (fail)
          go_wp2_with fail
          go_roundw
          case rel => exact ⟨j + 1 + 1, by omega, by go_num, below_drewN hB7 _⟩
          case measure => simp [intOf]; omega
      · go_wp2_with fail
        go_ret
        exact ⟨rfl, hfin⟩
  · have hne : (e != 0) = true := by rw [bne_iff_ne]; exact full_err hf
    clear hf hB1 hB2
    go_wp2_with fail
    go_ret
    exact ⟨rfl, hBb.alloc hBb.size _⟩
end Go.Proofs.YtkpklkhkhhlifabDoor
