/- The contracts of what reads lists of kinds, fields and handlers. -/
import Derived.Test.YtkpklkhkhhlifaaSetT
namespace Go.Proofs.Ytkpklkhkhhlifaa
open Go.RowKit

theorem pBytes_size {s : ByteArray} {n p q : Nat} {t : ByteArray} (hs : s.size ≤ 20000) (h : pBytes s n p = some (t, q)) : t.size ≤ maxLen := by
  unfold pBytes at h
  split at h
  · cases h
    simp [maxLen]
    omega
  · cases h
theorem pText_size {s : ByteArray} {p q : Nat} {t : ByteArray} (hs : s.size ≤ 20000) (h : pText s p = some (t, q)) : t.size ≤ maxLen := by
  rw [pText, Option.bind_eq_some_iff] at h
  obtain ⟨x, _, h⟩ := h
  exact pBytes_size hs h
theorem pKind_size {s : ByteArray} {p q : Nat} {x : KindD} (hs : s.size ≤ 20000) (h : pKind s p = some (x, q)) : x.cls.size ≤ maxLen := by
  rw [pKind, Option.bind_eq_some_iff] at h
  obtain ⟨y, _, h⟩ := h
  split at h
  · rw [Option.bind_eq_some_iff] at h
    obtain ⟨z, h1, h⟩ := h
    cases h
    exact pText_size hs h1
  · cases h
    simp [maxLen]
theorem pField_size {s : ByteArray} {p q : Nat} {x : FieldD} (hs : s.size ≤ 20000) (h : pField s p = some (x, q)) : x.name.size ≤ maxLen ∧ x.kind.cls.size ≤ maxLen := by
  rw [pField, Option.bind_eq_some_iff] at h
  obtain ⟨y, h1, h⟩ := h
  rw [Option.bind_eq_some_iff] at h
  obtain ⟨z, h2, h⟩ := h
  cases h
  exact ⟨pText_size hs h1, pKind_size hs h2⟩
theorem pHand_size {s : ByteArray} {p q : Nat} {x : HandD} (hs : s.size ≤ 20000) (h : pHand s p = some (x, q)) : x.cls.size ≤ maxLen := by
  rw [pHand, Option.bind_eq_some_iff] at h
  obtain ⟨y, h1, h⟩ := h
  rw [Option.bind_eq_some_iff] at h
  obtain ⟨z, h2, h⟩ := h
  rw [Option.bind_eq_some_iff] at h
  obtain ⟨u, h3, h⟩ := h
  rw [Option.bind_eq_some_iff] at h
  obtain ⟨v, h4, h⟩ := h
  cases h
  exact pText_size hs h4

theorem Try.infoKind : (Try.prog.info? 51).map (fun i => (i.zero, i.size, i.bytes)) = some (some (.agg #[.int .i64 0, .string ⟨#[]⟩]), 2, 24) := by kernel_rfl
set_option maxHeartbeats 2000000 in
theorem readCountedK (w : World) (b : Nat) (s : ByteArray) (p : Nat) (h : Rd w b s p) (hp : p ≤ s.size) (hs : s.size ≤ 20000) :
    Calls Try.prog 86 #[.pointer (some ⟨b, 0, none⟩), .func (.func 84) #[.pointer (some ⟨b, 0, none⟩)] #[]] w fun r w' => RdOut w w' b s (pCounted s (pKind s) p) (fun l r => ∃ v, r = .returned v ∧ SL 2 RK (MT w.heap.size [51] w') w' v l) r := by
  obtain ⟨i0, hi, hz0, hz1, hz2⟩ := info_parts Try.infoKind
  have hb := h.lt
  go_enter Try.func86, Try.ntmps86
  go_wp2_with fail
  refine (count_r _ b s p h hp (by unfold maxLen; omega)).mono ?_
  rintro r w1 ⟨hg, ⟨hn, q, rfl⟩ | ⟨N, p1, hn, rfl, hr, hp1⟩⟩
  · exact ⟨rfl, hg, Or.inl ⟨by rw [pCounted, hn]; rfl, q, rfl⟩⟩
  have hN := pCount_lt hn
  have HPC := mkHid (pCounted_some (f := pKind s) hn)
  clear hn
  go_wp2_with fail
  go_loopw [5, 8] (fun v i wr => ∃ (k : Nat) (zs : List (List Value × KindD)) (p' : Nat), k ≤ N ∧ i = .int .i64 k ∧ zs.length = k ∧ Hid (pMany (pKind s) N p1 = (pMany (pKind s) (N - k) p').bind fun y => some (zs.map (·.2) ++ y.1, y.2)) ∧
    wr.ownsRow w.heap.size 51 2 v zs.length (zs.flatMap (·.1)) ∧ Hid (∀ z ∈ zs, z.1.length = 2 ∧ RK (MT w.heap.size [51] wr) wr z.1 z.2) ∧ Rd wr b s p' ∧ p' ≤ s.size ∧ w.grownBy wr (some b)) (fun _ i _ => N - (intOf i).toNat)
  case atStart => exact ⟨0, [], p1, Nat.zero_le _, rfl, rfl, pMany_start _ _ _, World.ownsRow_nil _ _ _ _, (fun z hz => by cases hz), hr, hp1, hg⟩
  case round =>
    obtain ⟨k, zs, p', hk, rfl, hzl, HPM, hown, HZ, hrd, hp', hgr⟩ := hrel
    have hszr := hgr.size
    by_cases hlt : k < N
    rotate_left
    · have HE : Hid (pMany (pKind s) N p1 = some (zs.map (·.2), p')) := pMany_end (by rw [HPM.out, show N - k = 0 by omega])
      have HOW := mkHid hown
      have ho2 := hown.2
      clear hown
      rcases ho2 with ⟨rfl, hn0⟩ | ⟨g, cap, cur, rfl, hrest⟩
      all_goals
        try clear hrest
        try clear hn0
        go_wp2_with fail
        go_ret
        exact ⟨hgr, Or.inr ⟨_, p', HPC.out.trans HE.out, ⟨_, rfl, own_SL HOW.out HZ.out (by decide) (by unfold maxLen; omega)⟩, hrd, hp'⟩⟩
    obtain ⟨k', hk'⟩ : ∃ k', N - k = k' + 1 := ⟨N - k - 1, by omega⟩
    have HK' := mkHid hk'
    rw [hk'] at HPM
    clear hk'
    go_wp2_with fail
    refine (kind_r _ b s p' hrd hp' hs).mono ?_
    rintro r w2 ⟨hg2, ⟨hx, q, rfl⟩ | ⟨x, p2, hx, rfl, hr2, hp2⟩⟩
    · refine ⟨rfl, grown_trans hgr hg2, Or.inl ⟨?_, q, rfl⟩⟩
      rw [HPC.out]
      exact pMany_fail HPM.out hx
    have HPM2 := mkHid (pMany_step HPM.out hx)
    have HSZ := mkHid (pKind_size hs hx)
    have hown2 : w2.ownsRow w.heap.size 51 2 u5 zs.length (zs.flatMap (·.1)) := hown.kept hg2 (own_ne hown hb)
    have hgr2 := grown_trans hgr hg2
    have hsz2 := hgr2.size
    clear hown hgr hg2 hrd hx HPM
    have HO2 := mkHid hown2
    have HZL := mkHid hzl
    clear hzl
    · go_wp2_with (at_builtin; refine wpList_append_own _ rfl _ _ 56 rfl w.heap.size 51 i0 (.agg #[.int .i64 0, .string ⟨#[]⟩]) 2 24 Try.underlying56 hi hz0 hz1 hz2 rfl (by decide) _ _ _ rfl (hown2.alloc _) ⟨w2.heap.size, 0, none⟩ 1 1 [.int .i64 x.kind, .string x.cls] rfl rfl (by intro j u hj; match j, hj with | 0, hj => simp at hj; subst hj; simp [Addr.add] | 1, hj => simp at hj; subst hj; simp [Addr.add] | j + 2, hj => simp at hj) (by intro u hu; simp at hu; rcases hu with rfl | rfl <;> rfl) (by have := HZL.out; unfold maxLen; omega) (by have := HZL.out; omega) (by simp; omega) ?_)
      intro v' w3 hown3 hg3 _
      have hr3 : Rd w3 b s p2 := (hr2.alloc _).grown hg3 (by intro e; have := (HO2.out.lt b e.symm).1; omega)
      have hgr3 : w.grownBy w3 (some b) := grown_own (grown_alloc hgr2 _) hg3 (fun i e => (HO2.out.lt i e).1)
      have HO := mkHid hown3
      clear hown3 hg3 hgr2 hr2
      have ho4 := HO.out.2
      rcases ho4 with ⟨_, hbad⟩ | ⟨g', cap', cur', rfl, hrest⟩
      · omega
      clear hrest
      go_wp2_with fail
      go_roundw
      case rel =>
        refine ⟨k + 1, zs ++ [([.int .i64 x.kind, .string x.cls], x)], p2, by omega, by go_num, by have := HZL.out; simp; omega, ?_, ?_, ?_, hr3, hp2, hgr3⟩
        · have e := HK'.out
          show _ = _
          rw [HPM2.out, show N - (k + 1) = k' by omega, List.map_append]
          rfl
        · rw [List.length_append, snoc_flat]
          exact HO.out
        · show ∀ z ∈ _, _
          intro z hz
          rcases List.mem_append.1 hz with hz | hz
          · exact HZ.out z hz
          · rw [List.mem_singleton] at hz
            subst hz
            exact ⟨rfl, ⟨rfl, HSZ.out⟩⟩
      case measure => simp [intOf]; omega

theorem Try.infoField : (Try.prog.info? 53).map (fun i => (i.zero, i.size, i.bytes)) = some (some (.agg #[.string ⟨#[]⟩, .int .i64 0, .string ⟨#[]⟩]), 3, 40) := by kernel_rfl
set_option maxHeartbeats 2000000 in
theorem readCountedF (w : World) (b : Nat) (s : ByteArray) (p : Nat) (h : Rd w b s p) (hp : p ≤ s.size) (hs : s.size ≤ 20000) :
    Calls Try.prog 71 #[.pointer (some ⟨b, 0, none⟩), .func (.func 72) #[.pointer (some ⟨b, 0, none⟩)] #[]] w fun r w' => RdOut w w' b s (pCounted s (pField s) p) (fun l r => ∃ v, r = .returned v ∧ SL 3 RF (MT w.heap.size [53] w') w' v l) r := by
  obtain ⟨i0, hi, hz0, hz1, hz2⟩ := info_parts Try.infoField
  have hb := h.lt
  go_enter Try.func71, Try.ntmps71
  go_wp2_with fail
  refine (count_r _ b s p h hp (by unfold maxLen; omega)).mono ?_
  rintro r w1 ⟨hg, ⟨hn, q, rfl⟩ | ⟨N, p1, hn, rfl, hr, hp1⟩⟩
  · exact ⟨rfl, hg, Or.inl ⟨by rw [pCounted, hn]; rfl, q, rfl⟩⟩
  have hN := pCount_lt hn
  have HPC := mkHid (pCounted_some (f := pField s) hn)
  clear hn
  go_wp2_with fail
  go_loopw [5, 8] (fun v i wr => ∃ (k : Nat) (zs : List (List Value × FieldD)) (p' : Nat), k ≤ N ∧ i = .int .i64 k ∧ zs.length = k ∧ Hid (pMany (pField s) N p1 = (pMany (pField s) (N - k) p').bind fun y => some (zs.map (·.2) ++ y.1, y.2)) ∧
    wr.ownsRow w.heap.size 53 3 v zs.length (zs.flatMap (·.1)) ∧ Hid (∀ z ∈ zs, z.1.length = 3 ∧ RF (MT w.heap.size [53] wr) wr z.1 z.2) ∧ Rd wr b s p' ∧ p' ≤ s.size ∧ w.grownBy wr (some b)) (fun _ i _ => N - (intOf i).toNat)
  case atStart => exact ⟨0, [], p1, Nat.zero_le _, rfl, rfl, pMany_start _ _ _, World.ownsRow_nil _ _ _ _, (fun z hz => by cases hz), hr, hp1, hg⟩
  case round =>
    obtain ⟨k, zs, p', hk, rfl, hzl, HPM, hown, HZ, hrd, hp', hgr⟩ := hrel
    have hszr := hgr.size
    by_cases hlt : k < N
    rotate_left
    · have HE : Hid (pMany (pField s) N p1 = some (zs.map (·.2), p')) := pMany_end (by rw [HPM.out, show N - k = 0 by omega])
      have HOW := mkHid hown
      have ho2 := hown.2
      clear hown
      rcases ho2 with ⟨rfl, hn0⟩ | ⟨g, cap, cur, rfl, hrest⟩
      all_goals
        try clear hrest
        try clear hn0
        go_wp2_with fail
        go_ret
        exact ⟨hgr, Or.inr ⟨_, p', HPC.out.trans HE.out, ⟨_, rfl, own_SL HOW.out HZ.out (by decide) (by unfold maxLen; omega)⟩, hrd, hp'⟩⟩
    obtain ⟨k', hk'⟩ : ∃ k', N - k = k' + 1 := ⟨N - k - 1, by omega⟩
    have HK' := mkHid hk'
    rw [hk'] at HPM
    clear hk'
    go_wp2_with fail
    refine (field_r _ b s p' hrd hp' hs).mono ?_
    rintro r w2 ⟨hg2, ⟨hx, q, rfl⟩ | ⟨x, p2, hx, rfl, hr2, hp2⟩⟩
    · refine ⟨rfl, grown_trans hgr hg2, Or.inl ⟨?_, q, rfl⟩⟩
      rw [HPC.out]
      exact pMany_fail HPM.out hx
    have HPM2 := mkHid (pMany_step HPM.out hx)
    have HSZ := mkHid (pField_size hs hx)
    have hown2 : w2.ownsRow w.heap.size 53 3 u5 zs.length (zs.flatMap (·.1)) := hown.kept hg2 (own_ne hown hb)
    have hgr2 := grown_trans hgr hg2
    have hsz2 := hgr2.size
    clear hown hgr hg2 hrd hx HPM
    have HO2 := mkHid hown2
    have HZL := mkHid hzl
    clear hzl
    · go_wp2_with (at_builtin; refine wpList_append_own _ rfl _ _ 42 rfl w.heap.size 53 i0 (.agg #[.string ⟨#[]⟩, .int .i64 0, .string ⟨#[]⟩]) 3 40 Try.underlying42 hi hz0 hz1 hz2 rfl (by decide) _ _ _ rfl (hown2.alloc _) ⟨w2.heap.size, 0, none⟩ 1 1 [.string x.name, .int .i64 x.kind.kind, .string x.kind.cls] rfl rfl (by intro j u hj; match j, hj with | 0, hj => simp at hj; subst hj; simp [Addr.add] | 1, hj => simp at hj; subst hj; simp [Addr.add] | 2, hj => simp at hj; subst hj; simp [Addr.add] | j + 3, hj => simp at hj) (by intro u hu; simp at hu; rcases hu with rfl | rfl | rfl <;> rfl) (by have := HZL.out; unfold maxLen; omega) (by have := HZL.out; omega) (by simp; omega) ?_)
      intro v' w3 hown3 hg3 _
      have hr3 : Rd w3 b s p2 := (hr2.alloc _).grown hg3 (by intro e; have := (HO2.out.lt b e.symm).1; omega)
      have hgr3 : w.grownBy w3 (some b) := grown_own (grown_alloc hgr2 _) hg3 (fun i e => (HO2.out.lt i e).1)
      have HO := mkHid hown3
      clear hown3 hg3 hgr2 hr2
      have ho4 := HO.out.2
      rcases ho4 with ⟨_, hbad⟩ | ⟨g', cap', cur', rfl, hrest⟩
      · omega
      clear hrest
      go_wp2_with fail
      go_roundw
      case rel =>
        refine ⟨k + 1, zs ++ [([.string x.name, .int .i64 x.kind.kind, .string x.kind.cls], x)], p2, by omega, by go_num, by have := HZL.out; simp; omega, ?_, ?_, ?_, hr3, hp2, hgr3⟩
        · have e := HK'.out
          show _ = _
          rw [HPM2.out, show N - (k + 1) = k' by omega, List.map_append]
          rfl
        · rw [List.length_append, snoc_flat]
          exact HO.out
        · show ∀ z ∈ _, _
          intro z hz
          rcases List.mem_append.1 hz with hz | hz
          · exact HZ.out z hz
          · rw [List.mem_singleton] at hz
            subst hz
            exact ⟨rfl, ⟨rfl, HSZ.out⟩⟩
      case measure => simp [intOf]; omega

theorem Try.infoHandler : (Try.prog.info? 64).map (fun i => (i.zero, i.size, i.bytes)) = some (some (.agg #[.int .i64 0, .int .i64 0, .int .i64 0, .string ⟨#[]⟩]), 4, 40) := by kernel_rfl
set_option maxHeartbeats 2000000 in
theorem readCountedH (w : World) (b : Nat) (s : ByteArray) (p : Nat) (h : Rd w b s p) (hp : p ≤ s.size) (hs : s.size ≤ 20000) :
    Calls Try.prog 88 #[.pointer (some ⟨b, 0, none⟩), .func (.func 89) #[.pointer (some ⟨b, 0, none⟩)] #[]] w fun r w' => RdOut w w' b s (pCounted s (pHand s) p) (fun l r => ∃ v, r = .returned v ∧ SL 4 RH (MT w.heap.size [64] w') w' v l) r := by
  obtain ⟨i0, hi, hz0, hz1, hz2⟩ := info_parts Try.infoHandler
  have hb := h.lt
  go_enter Try.func88, Try.ntmps88
  go_wp2_with fail
  refine (count_r _ b s p h hp (by unfold maxLen; omega)).mono ?_
  rintro r w1 ⟨hg, ⟨hn, q, rfl⟩ | ⟨N, p1, hn, rfl, hr, hp1⟩⟩
  · exact ⟨rfl, hg, Or.inl ⟨by rw [pCounted, hn]; rfl, q, rfl⟩⟩
  have hN := pCount_lt hn
  have HPC := mkHid (pCounted_some (f := pHand s) hn)
  clear hn
  go_wp2_with fail
  go_loopw [5, 8] (fun v i wr => ∃ (k : Nat) (zs : List (List Value × HandD)) (p' : Nat), k ≤ N ∧ i = .int .i64 k ∧ zs.length = k ∧ Hid (pMany (pHand s) N p1 = (pMany (pHand s) (N - k) p').bind fun y => some (zs.map (·.2) ++ y.1, y.2)) ∧
    wr.ownsRow w.heap.size 64 4 v zs.length (zs.flatMap (·.1)) ∧ Hid (∀ z ∈ zs, z.1.length = 4 ∧ RH (MT w.heap.size [64] wr) wr z.1 z.2) ∧ Rd wr b s p' ∧ p' ≤ s.size ∧ w.grownBy wr (some b)) (fun _ i _ => N - (intOf i).toNat)
  case atStart => exact ⟨0, [], p1, Nat.zero_le _, rfl, rfl, pMany_start _ _ _, World.ownsRow_nil _ _ _ _, (fun z hz => by cases hz), hr, hp1, hg⟩
  case round =>
    obtain ⟨k, zs, p', hk, rfl, hzl, HPM, hown, HZ, hrd, hp', hgr⟩ := hrel
    have hszr := hgr.size
    by_cases hlt : k < N
    rotate_left
    · have HE : Hid (pMany (pHand s) N p1 = some (zs.map (·.2), p')) := pMany_end (by rw [HPM.out, show N - k = 0 by omega])
      have HOW := mkHid hown
      have ho2 := hown.2
      clear hown
      rcases ho2 with ⟨rfl, hn0⟩ | ⟨g, cap, cur, rfl, hrest⟩
      all_goals
        try clear hrest
        try clear hn0
        go_wp2_with fail
        go_ret
        exact ⟨hgr, Or.inr ⟨_, p', HPC.out.trans HE.out, ⟨_, rfl, own_SL HOW.out HZ.out (by decide) (by unfold maxLen; omega)⟩, hrd, hp'⟩⟩
    obtain ⟨k', hk'⟩ : ∃ k', N - k = k' + 1 := ⟨N - k - 1, by omega⟩
    have HK' := mkHid hk'
    rw [hk'] at HPM
    clear hk'
    go_wp2_with fail
    refine (handler_r _ b s p' hrd hp' hs).mono ?_
    rintro r w2 ⟨hg2, ⟨hx, q, rfl⟩ | ⟨x, p2, hx, rfl, hr2, hp2⟩⟩
    · refine ⟨rfl, grown_trans hgr hg2, Or.inl ⟨?_, q, rfl⟩⟩
      rw [HPC.out]
      exact pMany_fail HPM.out hx
    have HPM2 := mkHid (pMany_step HPM.out hx)
    have HSZ := mkHid (pHand_size hs hx)
    have hown2 : w2.ownsRow w.heap.size 64 4 u5 zs.length (zs.flatMap (·.1)) := hown.kept hg2 (own_ne hown hb)
    have hgr2 := grown_trans hgr hg2
    have hsz2 := hgr2.size
    clear hown hgr hg2 hrd hx HPM
    have HO2 := mkHid hown2
    have HZL := mkHid hzl
    clear hzl
    · go_wp2_with (at_builtin; refine wpList_append_own _ rfl _ _ 57 rfl w.heap.size 64 i0 (.agg #[.int .i64 0, .int .i64 0, .int .i64 0, .string ⟨#[]⟩]) 4 40 Try.underlying57 hi hz0 hz1 hz2 rfl (by decide) _ _ _ rfl (hown2.alloc _) ⟨w2.heap.size, 0, none⟩ 1 1 [.int .i64 x.frm, .int .i64 x.upto, .int .i64 x.loc, .string x.cls] rfl rfl (by intro j u hj; match j, hj with | 0, hj => simp at hj; subst hj; simp [Addr.add] | 1, hj => simp at hj; subst hj; simp [Addr.add] | 2, hj => simp at hj; subst hj; simp [Addr.add] | 3, hj => simp at hj; subst hj; simp [Addr.add] | j + 4, hj => simp at hj) (by intro u hu; simp at hu; rcases hu with rfl | rfl | rfl | rfl <;> rfl) (by have := HZL.out; unfold maxLen; omega) (by have := HZL.out; omega) (by simp; omega) ?_)
      intro v' w3 hown3 hg3 _
      have hr3 : Rd w3 b s p2 := (hr2.alloc _).grown hg3 (by intro e; have := (HO2.out.lt b e.symm).1; omega)
      have hgr3 : w.grownBy w3 (some b) := grown_own (grown_alloc hgr2 _) hg3 (fun i e => (HO2.out.lt i e).1)
      have HO := mkHid hown3
      clear hown3 hg3 hgr2 hr2
      have ho4 := HO.out.2
      rcases ho4 with ⟨_, hbad⟩ | ⟨g', cap', cur', rfl, hrest⟩
      · omega
      clear hrest
      go_wp2_with fail
      go_roundw
      case rel =>
        refine ⟨k + 1, zs ++ [([.int .i64 x.frm, .int .i64 x.upto, .int .i64 x.loc, .string x.cls], x)], p2, by omega, by go_num, by have := HZL.out; simp; omega, ?_, ?_, ?_, hr3, hp2, hgr3⟩
        · have e := HK'.out
          show _ = _
          rw [HPM2.out, show N - (k + 1) = k' by omega, List.map_append]
          rfl
        · rw [List.length_append, snoc_flat]
          exact HO.out
        · show ∀ z ∈ _, _
          intro z hz
          rcases List.mem_append.1 hz with hz | hz
          · exact HZ.out z hz
          · rw [List.mem_singleton] at hz
            subst hz
            exact ⟨rfl, ⟨rfl, HSZ.out⟩⟩
      case measure => simp [intOf]; omega

end Go.Proofs.Ytkpklkhkhhlifaa
