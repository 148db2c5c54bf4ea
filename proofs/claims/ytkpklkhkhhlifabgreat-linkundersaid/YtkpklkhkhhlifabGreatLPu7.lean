/- What stands under a class, plain: fields and names in their places; what a name stands for. -/
import Derived.Test.YtkpklkhkhhlifabGreatJLPu6LLawI
import Derived.Test.YtkpklkhkhhlifabGreatLTg
namespace Go.Proofs.YtkpklkhkhhlifabGreat
open Go.RowKit

theorem tab_pre : ∀ (P : List (ByteArray × TargD)) (acc : List ByteArray × List TargD), ∃ X, (P.foldl tabStep acc).1 = acc.1 ++ X
  | [], acc => ⟨[], by simp⟩
  | x :: P, acc => by
    obtain ⟨X, e⟩ := tab_pre P (tabStep acc x)
    rw [List.foldl_cons, e]
    unfold tabStep
    split
    · exact ⟨X, rfl⟩
    · exact ⟨x.1 :: X, by simp⟩
theorem under_fields {l : List ClassD} {a b : Nat} {R : List Nat} (e : lineOf l a = lineOf l b ++ R) : ∃ X, fieldsOf l a = fieldsOf l b ++ X :=
  ⟨R.flatMap fun k => (clsAt l k).fields, by rw [fieldsOf, e, List.flatMap_append]; rfl⟩
theorem under_names {l : List ClassD} {a b : Nat} {R : List Nat} (e : lineOf l a = lineOf l b ++ R) : ∃ X, namesOf l a = namesOf l b ++ X := by
  rw [namesOf, tableOf, e, List.flatMap_append, List.foldl_append]
  exact tab_pre _ _
theorem stands {l : List ClassD} {a : Nat} {s : ByteArray} (h : 0 ≤ idxS (namesOf l a) s) : ∃ (u j : Nat) (hj : j < (clsAt l u).meths.length), tgAt l a s = ⟨u, j⟩ ∧ u ∈ lineOf l a ∧ (clsAt l u).meths[j].name = s := by
  have e : lookT (tableOf l a) s = lookF ((lineOf l a).flatMap (ownT l)) s none := by rw [tableOf, look_fold s _ ([], []) rfl]; rfl
  obtain ⟨k, hk, ek, -⟩ := idxS_get h
  have hk2 : k < (targetsOf l a).length := by rw [← table_len]; exact hk
  have h1 : lookT (tableOf l a) s = some ((targetsOf l a)[k]) := by
    unfold lookT
    show (if 0 ≤ idxS (namesOf l a) s then (targetsOf l a)[(idxS (namesOf l a) s).toNat]? else none) = _
    rw [if_pos h, ek]
    simp [hk2]
  have h2 : tgAt l a s = (targetsOf l a)[k] := by rw [tgAt, ek]; simp [hk2]
  rcases lookF_cases s ((lineOf l a).flatMap (ownT l)) none with ⟨h3, -⟩ | ⟨t, h3, h4⟩
  · rw [← e, h1] at h3
    cases h3
  · rw [← e, h1] at h3
    have h5 : (targetsOf l a)[k] = t := Option.some.inj h3
    obtain ⟨u, hu, hm⟩ := List.mem_flatMap.1 h4
    obtain ⟨j, hj, et, hn⟩ := ownT_mem hm
    exact ⟨u, j, hj, by rw [h2, h5, et], hu, hn⟩
theorem stands_in {l : List ClassD} {a : Nat} {s : ByteArray} (ha : a < l.length) (h : 0 ≤ idxS (namesOf l a) s) : ∃ (u j : Nat) (hu : u < l.length) (hj : j < l[u].meths.length), tgAt l a s = ⟨u, j⟩ ∧ u ∈ lineOf l a ∧ l[u].meths[j].name = s := by
  obtain ⟨u, j, hj, e, hu, hn⟩ := stands h
  have hul := line_lt ha u hu
  have e9 := clsAt_eq hul
  simp only [e9] at hj hn
  exact ⟨u, j, hul, hj, e, hu, hn⟩
theorem idx_self {ns : List ByteArray} {i : Nat} (hi : i < ns.length) : 0 ≤ idxS ns ns[i] := by
  unfold idxS
  cases hf : ns.findIdx? (fun x => decide (x = ns[i])) with
  | some k => simp
  | none =>
    have := List.findIdx?_eq_none_iff.1 hf ns[i] (List.getElem_mem hi)
    simp at this
theorem ok_linkD {l : List ClassD} (h : tieRes l = 0) : chkRes (linkD l) [] = 0 := by
  have : okLk (linkD l) = true := by
    rw [okLk, Bool.and_eq_true, decide_eq_true_iff]
    exact ⟨h, makes_linkD l⟩
  rw [chkRes, if_pos this]
  rfl

set_option maxHeartbeats 1000000 in
theorem choose_any (c : Int) (n : Nat) (h1 : -9223372036854775808 ≤ c) (h2 : c ≤ 9223372036854775807) (hn : 0 < n) (hn' : n ≤ 10) : ∃ m : Nat, m < n ∧ ∀ w, Calls Tryz.prog 22 #[.int .i64 c, .int .i64 (n : Int)] w fun r w' => r = .returned (.int .i64 (m : Int)) ∧ w' = w := by
  have hz : ((n : Int) == 0) = false := beq_eq_false_iff_ne.2 (by omega)
  have hz1 : ¬ (n : Int) = 0 := by omega
  by_cases hc : c < 0
  · refine ⟨((-(c + 1)) % n).toNat, ?_, fun w => ?_⟩
    · have h3 := Int.emod_lt_of_pos (-(c + 1)) (by omega : (0 : Int) < n)
      have h4 := Int.emod_nonneg (-(c + 1)) (by omega : (n : Int) ≠ 0)
      omega
    · go_enter Tryz.func22, Tryz.ntmps22
      go_wp2_with fail
      go_ret
      exact ⟨by show Ending.returned (.int .i64 (-((c + 1).tmod n))) = _; rw [← Int.neg_tmod, Int.tmod_eq_emod_of_nonneg (by omega), Int.toNat_of_nonneg (Int.emod_nonneg _ (by omega))], rfl⟩
  · refine ⟨(c % n).toNat, ?_, fun w => ?_⟩
    · have h3 := Int.emod_lt_of_pos c (by omega : (0 : Int) < n)
      have h4 := Int.emod_nonneg c (by omega : (n : Int) ≠ 0)
      omega
    · go_enter Tryz.func22, Tryz.ntmps22
      go_wp2_with fail
      go_ret
      exact ⟨by show Ending.returned (.int .i64 (c % n)) = Ending.returned (.int .i64 (max (c % n) 0)); rw [Int.max_eq_left (Int.emod_nonneg _ (by omega))], rfl⟩
end Go.Proofs.YtkpklkhkhhlifabGreat
