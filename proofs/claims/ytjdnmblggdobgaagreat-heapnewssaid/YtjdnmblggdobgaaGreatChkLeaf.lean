/- The contracts of the leaf functions of the check. -/
import Derived.Test.YtjdnmblggdobgaaGreatMem
namespace Go.Proofs.YtjdnmblggdobgaaGreat
open Go.RowKit

/-- What a run gives up with. -/
abbrev wrongV (e p : Int) : PanicEntry := { v := .iface 164 (.agg #[.int .i64 e, .int .i64 p]), recovered := false }

/-- What a demand ends with. -/
def DemOut (b : Bool) (e p : Int) (r : Ending) : Prop := (b = false ∧ r = .panicked [wrongV e p]) ∨ (b = true ∧ r = .returned (.tuple #[]))
/-- What a check ends with, by its error. -/
def ChkOut (e : Int) (r : Ending) : Prop := (e ≠ 0 ∧ r = .panicked [wrongV e 0]) ∨ (e = 0 ∧ r = .returned (.tuple #[]))

theorem demandAt_any (w : World) (b : Bool) (e p : Int) :
    Calls Tryz.prog 138 #[.bool b, .int .i64 e, .int .i64 p] w fun r w' => w' = w ∧ DemOut b e p r := by
  cases b
  · go_enter Tryz.func138, Tryz.ntmps138
    go_wp2
    exact ⟨rfl, rfl, Or.inl ⟨rfl, rfl⟩⟩
  · go_enter Tryz.func138, Tryz.ntmps138
    go_wp2
    go_end0
    exact ⟨rfl, Or.inr ⟨rfl, rfl⟩⟩

theorem demand_any (w : World) (b : Bool) (e : Int) :
    Calls Tryz.prog 82 #[.bool b, .int .i64 e] w fun r w' => w' = w ∧ DemOut b e 0 r := by
  go_enter Tryz.func82, Tryz.ntmps82
  go_wp2_with fail
  refine (demandAt_any _ _ _ _).mono ?_
  rintro r w1 ⟨rfl, ⟨rfl, rfl⟩ | ⟨rfl, rfl⟩⟩
  · exact ⟨rfl, rfl, Or.inl ⟨rfl, rfl⟩⟩
  · go_wp2
    go_end0
    exact ⟨rfl, Or.inr ⟨rfl, rfl⟩⟩

set_option maxHeartbeats 1000000 in
theorem isNameByte_any (w : World) (n : Nat) :
    Calls Tryz.prog 311 #[.int .u8 n] w fun r w' => r = .returned (.bool (nameByte n)) ∧ w' = w := by
  have HN : Hid (nameByte n = nameByte n) := rfl
  rcases (by omega : n < 48 ∨ (48 ≤ n ∧ n ≤ 57) ∨ (57 < n ∧ n < 65) ∨ (65 ≤ n ∧ n ≤ 90) ∨ (90 < n ∧ n < 97 ∧ n ≠ 95) ∨ n = 95 ∨ (97 ≤ n ∧ n ≤ 122) ∨ 122 < n) with h | h | h | h | h | h | h | h
  · have hv : nameByte n = false := by simp [nameByte]; omega
    have a1 : ¬ (97 : Int) ≤ n := by omega
    have a2 : ¬ (65 : Int) ≤ n := by omega
    have a3 : ¬ (48 : Int) ≤ n := by omega
    have a4 : ((n : Int) == 95) = false := by simp; omega
    rw [hv]
    clear hv HN h
    go_enter Tryz.func311, Tryz.ntmps311
    go_wp2
    go_ret
    exact ⟨rfl, rfl⟩
  · have hv : nameByte n = true := by simp [nameByte]; omega
    have a1 : ¬ (97 : Int) ≤ n := by omega
    have a2 : ¬ (65 : Int) ≤ n := by omega
    have a3 : (48 : Int) ≤ n := by omega
    have a4 : (n : Int) ≤ 57 := by omega
    rw [hv]
    clear hv HN h
    go_enter Tryz.func311, Tryz.ntmps311
    go_wp2
    go_ret
    exact ⟨rfl, rfl⟩
  · have hv : nameByte n = false := by simp [nameByte]; omega
    have a1 : ¬ (97 : Int) ≤ n := by omega
    have a2 : ¬ (65 : Int) ≤ n := by omega
    have a3 : (48 : Int) ≤ n := by omega
    have a4 : ¬ (n : Int) ≤ 57 := by omega
    have a5 : ((n : Int) == 95) = false := by simp; omega
    rw [hv]
    clear hv HN h
    go_enter Tryz.func311, Tryz.ntmps311
    go_wp2
    go_ret
    exact ⟨rfl, rfl⟩
  · have hv : nameByte n = true := by simp [nameByte]; omega
    have a1 : ¬ (97 : Int) ≤ n := by omega
    have a2 : (65 : Int) ≤ n := by omega
    have a3 : (n : Int) ≤ 90 := by omega
    rw [hv]
    clear hv HN h
    go_enter Tryz.func311, Tryz.ntmps311
    go_wp2
    go_ret
    exact ⟨rfl, rfl⟩
  · have hv : nameByte n = false := by simp [nameByte]; omega
    have a1 : ¬ (97 : Int) ≤ n := by omega
    have a2 : (65 : Int) ≤ n := by omega
    have a3 : ¬ (n : Int) ≤ 90 := by omega
    have a4 : (48 : Int) ≤ n := by omega
    have a5 : ¬ (n : Int) ≤ 57 := by omega
    have a6 : ((n : Int) == 95) = false := by simp; omega
    rw [hv]
    clear hv HN h
    go_enter Tryz.func311, Tryz.ntmps311
    go_wp2
    go_ret
    exact ⟨rfl, rfl⟩
  · subst h
    go_enter Tryz.func311, Tryz.ntmps311
    go_wp2
    go_ret
    exact ⟨rfl, rfl⟩
  · have hv : nameByte n = true := by simp [nameByte]; omega
    have a1 : (97 : Int) ≤ n := by omega
    have a2 : (n : Int) ≤ 122 := by omega
    rw [hv]
    clear hv HN h
    go_enter Tryz.func311, Tryz.ntmps311
    go_wp2
    go_ret
    exact ⟨rfl, rfl⟩
  · have hv : nameByte n = false := by simp [nameByte]; omega
    have a1 : (97 : Int) ≤ n := by omega
    have a2 : ¬ (n : Int) ≤ 122 := by omega
    have a3 : (65 : Int) ≤ n := by omega
    have a4 : ¬ (n : Int) ≤ 90 := by omega
    have a5 : (48 : Int) ≤ n := by omega
    have a6 : ¬ (n : Int) ≤ 57 := by omega
    have a7 : ((n : Int) == 95) = false := by simp; omega
    rw [hv]
    clear hv HN h
    go_enter Tryz.func311, Tryz.ntmps311
    go_wp2
    go_ret
    exact ⟨rfl, rfl⟩

set_option maxHeartbeats 400000 in
theorem isName_any (w : World) (s : ByteArray) (_hs : s.size ≤ maxLen) :
    Calls Tryz.prog 281 #[.string s] w fun r w' => r = .returned (.bool (isNameB s)) ∧ w' = w := by
  by_cases h0 : s.size < 1
  · have HV : Hid (isNameB s = false) := by show isNameB s = false; simp [isNameB]; omega
    have a1 : (s.size : Int) < 1 := by omega
    clear h0
    go_enter Tryz.func281, Tryz.ntmps281
    go_wp2
    go_ret
    exact ⟨by rw [HV.out]; rfl, rfl⟩
  · by_cases h1 : 20 < s.size
    · have HV : Hid (isNameB s = false) := by show isNameB s = false; simp [isNameB]; omega
      have a1 : ¬ (s.size : Int) < 1 := by omega
      have a2 : (20 : Int) < s.size := by omega
      clear h0 h1
      go_enter Tryz.func281, Tryz.ntmps281
      go_wp2
      go_ret
      exact ⟨by rw [HV.out]; rfl, rfl⟩
    · have a1 : ¬ (s.size : Int) < 1 := by omega
      have a2 : ¬ (20 : Int) < s.size := by omega
      have HV : Hid (isNameB s = nameAll s) := by show isNameB s = nameAll s; simp [isNameB]; omega
      go_enter Tryz.func281, Tryz.ntmps281
      go_wp2
      go_loop [14] (fun i => ∃ k : Nat, k ≤ s.size ∧ i = .int .i64 k ∧ ∀ j, j < k → nameByte (bt s j) = true) (fun i => s.size - (intOf i).toNat)
      case atStart => exact ⟨0, Nat.zero_le _, rfl, fun j hj => by omega⟩
      case round =>
        obtain ⟨k, hk, rfl, HK⟩ := hrel
        by_cases hlt : k < s.size
        · have eb : (s[k].toNat) = bt s k := (bt_eq s k hlt).symm
          go_wp2_with fail
          refine (isNameByte_any _ _).mono ?_
          rintro r w1 ⟨rfl, rfl⟩
          cases hb : nameByte (bt s k)
          · have HN : Hid (nameAll s = false) := nameAll_no hlt hb
            go_wp2
            go_ret
            exact ⟨by rw [HV.out, HN.out]; rfl, rfl⟩
          · go_wp2
            go_round
            case rel => exact ⟨k + 1, by omega, by go_num, fun j hj => if hjk : j = k then hjk ▸ hb else HK j (by omega)⟩
            case measure => simp [intOf]; omega
        · have HN : Hid (nameAll s = true) := nameAll_ok fun i hi => HK i (by omega)
          go_wp2
          go_ret
          exact ⟨by rw [HV.out, HN.out]; rfl, rfl⟩
end Go.Proofs.YtjdnmblggdobgaaGreat
