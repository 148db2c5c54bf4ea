/- The line of a class: it, and those above it. -/
import Derived.Test.YtkpklkhkhhlifacGreatLDif
import Derived.Test.YtkpklkhkhhlifacGreatLSet
import Derived.Sort.WalkB12
import Derived.Lib.SlicesMore
import Derived.BigRegion
import Derived.Deep.AppendLies
namespace Go.Proofs.YtkpklkhkhhlifacGreat
open Go.RowKit Go.Sort

theorem idxS_eq (l : List ByteArray) (s : ByteArray) : idxS l s = idx (fun x => decide (x = s)) l := rfl
def idxO (l : List Nat) (n : Int) : Int := idx (fun x : Nat => decide ((x : Int) = n)) l

set_option maxHeartbeats 1000000 in
theorem indexStr_any (w : World) (M : Nat → Prop) (v : Value) (l : List ByteArray) (s : ByteArray) (hv : SL 1 RS M w v l) :
    Calls Tryz.prog 69 #[v, .string s] w fun r w' => r = .returned (.int .i64 (idxS l s)) ∧ w' = w := by
  have HV := mkHid hv
  obtain ⟨ao0, cl, rfl, -, hll, -⟩ := hv
  unfold maxLen at hll
  go_enter Tryz.func69, Tryz.ntmps69
  go_wp2_with fail
  go_loop [8] (fun i => ∃ k : Nat, k ≤ l.length ∧ i = .int .i64 k ∧ Hid (∀ x ∈ l.take k, decide (x = s) = false)) (fun i => l.length - (intOf i).toNat)
  case atStart => exact ⟨0, Nat.zero_le _, rfl, (fun x hx => by cases hx)⟩
  case round =>
    obtain ⟨k, hk, rfl, HP⟩ := hrel
    by_cases hlt : k < l.length
    · obtain ⟨b, off, rfl, hb, e0, es1⟩ := HV.out.atS k hlt
      by_cases h : l[k] = s
      · have HX : Hid (idxS l s = k) := idx_hit hlt HP.out (by simp [h])
        have t : (s.toList == l[k].toList) = true := by rw [h]; simp
        clear h
        go_wp2_with fail
        go_ret
        exact ⟨by rw [HX.out]; rfl, rfl⟩
      · have HX := mkHid (take_more hlt HP.out (by simp [h]))
        have t : (s.toList == l[k].toList) = false := by rw [beq_eq_false_iff_ne]; exact fun e => h (tl_inj e).symm
        clear h
        go_wp2_with fail
        go_round
        case rel => exact ⟨k + 1, by omega, by go_num, HX.out⟩
        case measure => simp [intOf]; omega
    · have HX : Hid (idxS l s = -1) := idx_none (by have := HP.out; rwa [List.take_of_length_le (by omega)] at this)
      go_wp2_with fail
      go_ret
      exact ⟨by rw [HX.out]; rfl, rfl⟩

set_option maxHeartbeats 1000000 in
theorem indexInt_any (w : World) (M : Nat → Prop) (v : Value) (l : List Nat) (n : Int) (hv : SL 1 RO M w v l) :
    Calls Tryz.prog 66 #[v, .int .i64 n] w fun r w' => r = .returned (.int .i64 (idxO l n)) ∧ w' = w := by
  have HV := mkHid hv
  obtain ⟨ao0, cl, rfl, -, hll, -⟩ := hv
  unfold maxLen at hll
  go_enter Tryz.func66, Tryz.ntmps66
  go_wp2_with fail
  go_loop [8] (fun i => ∃ k : Nat, k ≤ l.length ∧ i = .int .i64 k ∧ Hid (∀ x ∈ l.take k, decide ((x : Int) = n) = false)) (fun i => l.length - (intOf i).toNat)
  case atStart => exact ⟨0, Nat.zero_le _, rfl, (fun x hx => by cases hx)⟩
  case round =>
    obtain ⟨k, hk, rfl, HP⟩ := hrel
    by_cases hlt : k < l.length
    · obtain ⟨b, off, rfl, hb, e0⟩ := HV.out.atO k hlt
      by_cases h : (l[k] : Int) = n
      · have HX : Hid (idxO l n = k) := idx_hit hlt HP.out (by simp [h])
        have t : (n == (l[k] : Int)) = true := by rw [h]; simp
        clear h
        go_wp2_with fail
        go_ret
        exact ⟨by rw [HX.out]; rfl, rfl⟩
      · have HX := mkHid (take_more hlt HP.out (by simp [h]))
        have t : (n == (l[k] : Int)) = false := by rw [beq_eq_false_iff_ne]; exact fun e => h e.symm
        clear h
        go_wp2_with fail
        go_round
        case rel => exact ⟨k + 1, by omega, by go_num, HX.out⟩
        case measure => simp [intOf]; omega
    · have HX : Hid (idxO l n = -1) := idx_none (by have := HP.out; rwa [List.take_of_length_le (by omega)] at this)
      go_wp2_with fail
      go_ret
      exact ⟨by rw [HX.out]; rfl, rfl⟩
theorem containsInt_any (w : World) (M : Nat → Prop) (v : Value) (l : List Nat) (n : Int) (hv : SL 1 RO M w v l) :
    Calls Tryz.prog 34 #[v, .int .i64 n] w fun r w' => r = .returned (.bool (l.any fun x : Nat => decide ((x : Int) = n))) ∧ w' = w := by
  have hcc := indexInt_any w M v l n hv
  have HC := mkHid hcc
  clear hcc
  have HI := mkHid (idx_any (fun x : Nat => decide ((x : Int) = n)) l)
  obtain ⟨ao0, cl, rfl, -⟩ := hv
  go_enter Tryz.func34, Tryz.ntmps34
  go_wp2_with fail
  refine HC.out.mono ?_
  rintro r w1 ⟨rfl, rfl⟩
  go_wp2_with fail
  go_ret
  exact ⟨by rw [← HI.out]; rfl, rfl⟩

set_option maxHeartbeats 1600000 in
set_option maxRecDepth 1000000 in
theorem reverse_arr (blk off cap : Nat) (d : Array Int) (w : World) (hH : Holds encI w blk off d) (hsz : d.size ≤ 9223372036854775807) :
    Calls Tryz.prog 68 #[.slice (some ⟨blk, off, none⟩) d.size cap] w fun e w' => e = .returned (.tuple #[]) ∧ ∃ n, w' = putRow encI (Sort.ahead w n) blk off d.reverse := by
  go_enter Tryz.func68, Tryz.ntmps68
  go_wp2
  go_loopg [2, 3] d.size (fun k s2 s3 wr => ∃ (i jn : Nat) (jz : Int) (dk : Array Int) (n : Nat), s2 = .int .i64 i ∧ s3 = .int .i64 jz ∧ ((i : Int) < jz → jz = jn ∧ jn < d.size) ∧ (¬ (i : Int) < jz → ¬ i < jn) ∧ jn - i ≤ k ∧
    dk.size = d.size ∧ Aside (wr = putRow encI (Sort.ahead w n) blk off dk) ∧ reverseLoop i jn dk = reverseLoop 0 (d.size - 1) d)
  case atStart => exact ⟨0, d.size - 1, (d.size : Int) - 1, d, 0, rfl, rfl, fun h => ⟨by omega, by omega⟩, fun h => by omega, by omega, rfl, (putRow_self encI w blk off d hH).symm, rfl⟩
  case round =>
    obtain ⟨i, jn, jz, dk, n, rfl, rfl, h1, h2, hk, hds, A, heq⟩ := hrel
    have HQ := mkHid heq
    clear heq
    by_cases hlt : (i : Int) < jz
    · obtain ⟨rfl, hjn⟩ := h1 hlt
      have hij : i < jn := by omega
      have hHk : Holds encI wr blk off dk := by rw [A.out]; exact holds_putRow encI _ blk off d dk (holds_ahead encI w n blk off d hH) hds
      obtain ⟨ci, fi⟩ := hHk i (by omega)
      obtain ⟨cj, fj⟩ := hHk jn (by omega)
      have HDS := mkHid hds
      clear hHk h1 h2 hds
      have hjn0 : (0 : Int) ≤ jn := by omega
      have hjl : (jn : Int) < d.size := by omega
      have hi0 : (0 : Int) ≤ i := by omega
      have hil : (i : Int) < d.size := by omega
      go_wp2_with fail
      go_region
      all_goals
        go_wp2
        go_roundg (jn - 1 - (i + 1))
        case measure => omega
        case rel =>
          have heq := HQ.out
          have hds := HDS.out
          rw [reverseLoop, if_pos hij] at heq
          exact ⟨i + 1, jn - 1, (jn : Int) - 1, swp dk i jn, n + 1, by simp, rfl, fun h => ⟨by omega, by omega⟩, fun h => by omega, Nat.le_refl _, by rw [size_swp]; exact hds,
            swap_world encI (by omega) (by omega) A.out (by first | rfl | simp [encI, getElem!_pos, show jn < dk.size by omega]) (by first | rfl | simp [encI, getElem!_pos, show i < dk.size by omega]), heq⟩
    · have hnot := h2 hlt
      go_wp2
      go_end0
      refine ⟨rfl, n, ?_⟩
      have heq := HQ.out
      rw [reverseLoop, if_neg hnot] at heq
      rw [← Lib.reverseLoop_reverse, ← heq]
      exact A.out
end Go.Proofs.YtkpklkhkhhlifacGreat
