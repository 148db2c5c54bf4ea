/- The contracts of the reader's method on classes, and of what reads lists of them. -/
import Derived.Test.YtkpklkhkhhlifaaRdMeth
namespace Go.Proofs.Ytkpklkhkhhlifaa
open Go.RowKit

theorem pClass_size {s : ByteArray} {p q : Nat} {x : ClassD} (hs : s.size ≤ 20000) (h : pClass s p = some (x, q)) : x.name.size ≤ maxLen ∧ x.super.size ≤ maxLen := by
  rw [pClass, Option.bind_eq_some_iff] at h
  obtain ⟨a1, h1, h⟩ := h
  rw [Option.bind_eq_some_iff] at h
  obtain ⟨a2, h2, h⟩ := h
  rw [Option.bind_eq_some_iff] at h
  obtain ⟨a3, h3, h⟩ := h
  rw [Option.bind_eq_some_iff] at h
  obtain ⟨a4, h4, h⟩ := h
  cases h
  exact ⟨pText_size hs h1, pText_size hs h2⟩

set_option maxHeartbeats 8000000 in
theorem class_r (w : World) (b : Nat) (s : ByteArray) (p : Nat) (h : Rd w b s p) (hp : p ≤ s.size) (hs : s.size ≤ 20000) :
    Calls Try.prog 54 #[.pointer (some ⟨b, 0, none⟩)] w fun r w' => RdOut w w' b s (pClass s p) (fun x r => ∃ vf vm, r = .returned (.agg #[.string x.name, .string x.super, vf, vm]) ∧ SL 3 RF (MT w.heap.size [51, 64, 59, 53] w') w' vf x.fields ∧ SL 9 RM (MT w.heap.size [51, 64, 59, 53] w') w' vm x.meths) r := by
  have hmf : ∀ (fn : Fn) (first cap : Array Value) (w : World), (Instr.makeFunc fn first cap).run Try.prog w = .ok (.func fn first cap) w := fun _ _ _ _ => rfl
  have hb := h.lt
  go_enter Try.func54, Try.ntmps54
  go_wp2_with fail
  have L0 : Loc w ((w.alloc (.cells #[.string ⟨#[]⟩, .string ⟨#[]⟩, .slice none 0 0, .slice none 0 0] 45)).alloc (.cells #[.string ⟨#[]⟩, .string ⟨#[]⟩, .slice none 0 0, .slice none 0 0] 45)) b 45 #[.string ⟨#[]⟩, .string ⟨#[]⟩, .slice none 0 0, .slice none 0 0] #[.string ⟨#[]⟩, .string ⟨#[]⟩, .slice none 0 0, .slice none 0 0] := Loc.start _ _
  have hr0 : Rd ((w.alloc (.cells #[.string ⟨#[]⟩, .string ⟨#[]⟩, .slice none 0 0, .slice none 0 0] 45)).alloc (.cells #[.string ⟨#[]⟩, .string ⟨#[]⟩, .slice none 0 0, .slice none 0 0] 45)) b s p := (h.alloc _).alloc _
  generalize (w.alloc (.cells #[.string ⟨#[]⟩, .string ⟨#[]⟩, .slice none 0 0, .slice none 0 0] 45)).alloc (.cells #[.string ⟨#[]⟩, .string ⟨#[]⟩, .slice none 0 0, .slice none 0 0] 45) = W0 at *
  refine (text_r _ b s p hr0 hp hs).mono ?_
  rintro r w1 ⟨hg, ⟨hn, q, rfl⟩ | ⟨x1, p1, hn, rfl, hr, hp1⟩⟩
  · exact ⟨rfl, grown_trans L0.grown hg, Or.inl ⟨by simp only [pClass, hn, Option.bind_none], q, rfl⟩⟩
  have HN1 := mkHid hn
  have L0b := L0.call hg hb
  have hlt := L0b.lt
  have y0 := L0b.cell 0 (x := .string ⟨#[]⟩) rfl
  have z0 := L0b.frozen 0
  have L1 : Loc w (w1.setCell ⟨w.heap.size + 1, 0, none⟩ (.string x1)) b 45 #[.string ⟨#[]⟩, .string ⟨#[]⟩, .slice none 0 0, .slice none 0 0] #[.string x1, .string ⟨#[]⟩, .slice none 0 0, .slice none 0 0] := (L0b.set 0 (.string x1))
  have hr1 := (hr.locSet hb (w.heap.size + 1) 0 (by omega) (.string x1))
  have HL := mkHid L1
  have HRR := mkHid hr1
  clear hn hg hr0 L0 L0b hr L1 hr1 
  go_wp2_with fail
  generalize (w1.setCell ⟨w.heap.size + 1, 0, none⟩ (.string x1)) = W1 at *
  have L1 := HL.out
  have hr1 := HRR.out
  clear y0 z0 hlt HL HRR
  refine (text_r _ b s p1 hr1 hp1 hs).mono ?_
  rintro r w1 ⟨hg, ⟨hn, q, rfl⟩ | ⟨x2, p2, hn, rfl, hr, hp2⟩⟩
  · exact ⟨rfl, grown_trans L1.grown hg, Or.inl ⟨by simp only [pClass, HN1.out, hn, Option.bind_some, Option.bind_none], q, rfl⟩⟩
  have HN2 := mkHid hn
  have L1b := L1.call hg hb
  have hlt := L1b.lt
  have y1 := L1b.cell 1 (x := .string ⟨#[]⟩) rfl
  have z1 := L1b.frozen 1
  have L2 : Loc w (w1.setCell ⟨w.heap.size + 1, 1, none⟩ (.string x2)) b 45 #[.string ⟨#[]⟩, .string ⟨#[]⟩, .slice none 0 0, .slice none 0 0] #[.string x1, .string x2, .slice none 0 0, .slice none 0 0] := (L1b.set 1 (.string x2))
  have hr2 := (hr.locSet hb (w.heap.size + 1) 1 (by omega) (.string x2))
  have HL := mkHid L2
  have HRR := mkHid hr2
  clear hn hg hr1 L1 L1b hr L2 hr2 
  go_wp2_with fail
  generalize (w1.setCell ⟨w.heap.size + 1, 1, none⟩ (.string x2)) = W2 at *
  have L2 := HL.out
  have hr2 := HRR.out
  clear y1 z1 hlt HL HRR
  refine (readCountedF _ b s p2 hr2 hp2 hs).mono ?_
  rintro r w1 ⟨hg, ⟨hn, q, rfl⟩ | ⟨x3, p3, hn, ⟨v3, rfl, s3⟩, hr, hp3⟩⟩
  · exact ⟨rfl, grown_trans L2.grown hg, Or.inl ⟨by simp only [pClass, HN1.out, HN2.out, hn, Option.bind_some, Option.bind_none], q, rfl⟩⟩
  have HN3 := mkHid hn
  have L2b := L2.call hg hb
  have hlt := L2b.lt
  have SA : Hid (SL 3 RF (MT w.heap.size [51, 64, 59, 53] w1) w1 v3 x3) := s3.monoF fun _ hk => hk.more L2.grown.size (by decide)
  obtain ⟨a3, c3, rfl, -⟩ := s3
  have y2 := L2b.cell 2 (x := .slice none 0 0) rfl
  have z2 := L2b.frozen 2
  have L3 : Loc w (w1.setCell ⟨w.heap.size + 1, 2, none⟩ (.slice a3 x3.length c3)) b 45 #[.string ⟨#[]⟩, .string ⟨#[]⟩, .slice none 0 0, .slice none 0 0] #[.string x1, .string x2, .slice a3 x3.length c3, .slice none 0 0] := (L2b.set 2 (.slice a3 x3.length c3))
  have hr3 := (hr.locSet hb (w.heap.size + 1) 2 (by omega) (.slice a3 x3.length c3))
  have SAn := mkHid (SA.out.stpF (Stp.set L2b.own (by decide) 2 (.slice a3 x3.length c3)))
  have HL := mkHid L3
  have HRR := mkHid hr3
  clear hn hg hr2 L2 L2b hr L3 hr3 SA
  go_wp2_with fail
  generalize (w1.setCell ⟨w.heap.size + 1, 2, none⟩ (.slice a3 x3.length c3)) = W3 at *
  have L3 := HL.out
  have hr3 := HRR.out
  clear y2 z2 hlt HL HRR
  have SA := SAn
  clear SAn
  refine (readCountedM _ b s p3 hr3 hp3 hs).mono ?_
  rintro r w1 ⟨hg, ⟨hn, q, rfl⟩ | ⟨x4, p4, hn, ⟨v4, rfl, s4⟩, hr, hp4⟩⟩
  · exact ⟨rfl, grown_trans L3.grown hg, Or.inl ⟨by simp only [pClass, HN1.out, HN2.out, HN3.out, hn, Option.bind_some, Option.bind_none], q, rfl⟩⟩
  have HN4 := mkHid hn
  have L3b := L3.call hg hb
  have SA2 := mkHid (SA.out.stpF (Stp.grown hg hb))
  have SH : Hid (SL 9 RM (MT w.heap.size [51, 64, 59, 53] w1) w1 v4 x4) := s4.monoM fun _ hk => hk.more L3.grown.size (by decide)
  obtain ⟨a4, c4, rfl, -⟩ := s4
  clear hn hg hr3 L3 SA
  have hlt := L3b.lt
  have y0 := L3b.cell 0 (x := .string x1) rfl
  have y1 := L3b.cell 1 (x := .string x2) rfl
  have y2 := L3b.cell 2 (x := .slice a3 x3.length c3) rfl
  have y3 := L3b.cell 3 (x := .slice none 0 0) rfl
  have f3 := L3b.frozen 3
  have u0 := L3b.cellR 0 (x := .string ⟨#[]⟩) rfl
  have z0 := L3b.frozenR 0
  have u1 := L3b.cellR 1 (x := .string ⟨#[]⟩) rfl
  have z1 := L3b.frozenR 1
  have u2 := L3b.cellR 2 (x := .slice none 0 0) rfl
  have z2 := L3b.frozenR 2
  have u3 := L3b.cellR 3 (x := .slice none 0 0) rfl
  have z3 := L3b.frozenR 3
  have HG : Hid (w.grownBy (((((w1.setCell ⟨w.heap.size + 1, 3, none⟩ (.slice a4 x4.length c4)).setCell ⟨w.heap.size, 0, none⟩ (.string x1)).setCell ⟨w.heap.size, 1, none⟩ (.string x2)).setCell ⟨w.heap.size, 2, none⟩ (.slice a3 x3.length c3)).setCell ⟨w.heap.size, 3, none⟩ (.slice a4 x4.length c4)) (some b)) := (grown_set (grown_set (grown_set (grown_set (L3b.set 3 (.slice a4 x4.length c4)).grown ⟨w.heap.size, 0, none⟩ (.string x1) (Or.inr (Nat.le_refl _))) ⟨w.heap.size, 1, none⟩ (.string x2) (Or.inr (Nat.le_refl _))) ⟨w.heap.size, 2, none⟩ (.slice a3 x3.length c3) (Or.inr (Nat.le_refl _))) ⟨w.heap.size, 3, none⟩ (.slice a4 x4.length c4) (Or.inr (Nat.le_refl _)))
  have HR : Hid (Rd (((((w1.setCell ⟨w.heap.size + 1, 3, none⟩ (.slice a4 x4.length c4)).setCell ⟨w.heap.size, 0, none⟩ (.string x1)).setCell ⟨w.heap.size, 1, none⟩ (.string x2)).setCell ⟨w.heap.size, 2, none⟩ (.slice a3 x3.length c3)).setCell ⟨w.heap.size, 3, none⟩ (.slice a4 x4.length c4)) b s p4) := (((((hr.locSet hb (w.heap.size + 1) 3 (by omega) (.slice a4 x4.length c4)).locSet hb w.heap.size 0 (Nat.le_refl _) (.string x1)).locSet hb w.heap.size 1 (Nat.le_refl _) (.string x2)).locSet hb w.heap.size 2 (Nat.le_refl _) (.slice a3 x3.length c3)).locSet hb w.heap.size 3 (Nat.le_refl _) (.slice a4 x4.length c4))
  have HF : Hid ((((((w1.setCell ⟨w.heap.size + 1, 3, none⟩ (.slice a4 x4.length c4)).setCell ⟨w.heap.size, 0, none⟩ (.string x1)).setCell ⟨w.heap.size, 1, none⟩ (.string x2)).setCell ⟨w.heap.size, 2, none⟩ (.slice a3 x3.length c3)).setCell ⟨w.heap.size, 3, none⟩ (.slice a4 x4.length c4)).heap[w.heap.size]? = some (.cells #[.string x1, .string x2, .slice a3 x3.length c3, .slice a4 x4.length c4] 45 (0, 0))) := (heap_set_own (heap_set_own (heap_set_own (heap_set_own (L3b.set 3 (.slice a4 x4.length c4)).res (j := 0) (.string x1)) (j := 1) (.string x2)) (j := 2) (.slice a3 x3.length c3)) (j := 3) (.slice a4 x4.length c4))
  have HX := mkHid (show pClass s p = some (⟨x1, x2, x3, x4⟩, p4) by simp only [pClass, HN1.out, HN2.out, HN3.out, HN4.out, Option.bind_some])
  have hst : Stp w.heap.size [51, 64, 59, 53] w1 (((((w1.setCell ⟨w.heap.size + 1, 3, none⟩ (.slice a4 x4.length c4)).setCell ⟨w.heap.size, 0, none⟩ (.string x1)).setCell ⟨w.heap.size, 1, none⟩ (.string x2)).setCell ⟨w.heap.size, 2, none⟩ (.slice a3 x3.length c3)).setCell ⟨w.heap.size, 3, none⟩ (.slice a4 x4.length c4)) := (Stp.set L3b.own (by decide) 3 _).trans (Stp.at (L3b.set 3 _).res (by decide) (by simp [World.setCell]) (fun i hi => by repeat rw [Below.heap_setCell _ _ _ _ (by exact hi)]))
  have SAF := mkHid (SA2.out.stpF hst)
  have SHF := mkHid (SH.out.stpM hst)
  clear hst SA2 SH
  clear L3b hr
  go_wp2_with fail
  generalize (((((w1.setCell ⟨w.heap.size + 1, 3, none⟩ (.slice a4 x4.length c4)).setCell ⟨w.heap.size, 0, none⟩ (.string x1)).setCell ⟨w.heap.size, 1, none⟩ (.string x2)).setCell ⟨w.heap.size, 2, none⟩ (.slice a3 x3.length c3)).setCell ⟨w.heap.size, 3, none⟩ (.slice a4 x4.length c4)) = W9 at *
  have q0 : W9.cell? ⟨w.heap.size, 0, none⟩ = some (.string x1) := by simp [World.cell?, HF.out]
  have q1 : W9.cell? ⟨w.heap.size, 1, none⟩ = some (.string x2) := by simp [World.cell?, HF.out]
  have q2 : W9.cell? ⟨w.heap.size, 2, none⟩ = some (.slice a3 x3.length c3) := by simp [World.cell?, HF.out]
  have q3 : W9.cell? ⟨w.heap.size, 3, none⟩ = some (.slice a4 x4.length c4) := by simp [World.cell?, HF.out]
  exact bodyPost_ret (v := .agg #[.string x1, .string x2, .slice a3 x3.length c3, .slice a4 x4.length c4]) (by simp [results, Try.results54, go_sem, q0, q1, q2, q3]) rfl ⟨HG.out, Or.inr ⟨⟨x1, x2, x3, x4⟩, p4, HX.out, ⟨_, _, rfl, SAF.out, SHF.out⟩, HR.out, hp4⟩⟩

theorem Try.infoClass : (Try.prog.info? 45).map (fun i => (i.zero, i.size, i.bytes)) = some (some (.agg #[.string ⟨#[]⟩, .string ⟨#[]⟩, .slice none 0 0, .slice none 0 0]), 4, 80) := by kernel_rfl
set_option maxHeartbeats 2000000 in
theorem readCountedC (w : World) (b : Nat) (s : ByteArray) (p : Nat) (h : Rd w b s p) (hp : p ≤ s.size) (hs : s.size ≤ 20000) :
    Calls Try.prog 53 #[.pointer (some ⟨b, 0, none⟩), .func (.func 54) #[.pointer (some ⟨b, 0, none⟩)] #[]] w fun r w' => RdOut w w' b s (pCounted s (pClass s) p) (fun l r => ∃ v, r = .returned v ∧ SL 4 RC (MT w.heap.size [51, 64, 59, 53, 45] w') w' v l) r := by
  obtain ⟨i0, hi, hz0, hz1, hz2⟩ := info_parts Try.infoClass
  have hb := h.lt
  go_enter Try.func53, Try.ntmps53
  go_wp2_with fail
  refine (count_r _ b s p h hp (by unfold maxLen; omega)).mono ?_
  rintro r w1 ⟨hg, ⟨hn, q, rfl⟩ | ⟨N, p1, hn, rfl, hr, hp1⟩⟩
  · exact ⟨rfl, hg, Or.inl ⟨by rw [pCounted, hn]; rfl, q, rfl⟩⟩
  have hN := pCount_lt hn
  have HPC := mkHid (pCounted_some (f := pClass s) hn)
  clear hn
  go_wp2_with fail
  go_loopw [5, 8] (fun v i wr => ∃ (k : Nat) (zs : List (List Value × ClassD)) (p' : Nat), k ≤ N ∧ i = .int .i64 k ∧ zs.length = k ∧ Hid (pMany (pClass s) N p1 = (pMany (pClass s) (N - k) p').bind fun y => some (zs.map (·.2) ++ y.1, y.2)) ∧
    wr.ownsRow w.heap.size 45 4 v zs.length (zs.flatMap (·.1)) ∧ Hid (∀ z ∈ zs, z.1.length = 4 ∧ RC (MT w.heap.size [51, 64, 59, 53] wr) wr z.1 z.2) ∧ Rd wr b s p' ∧ p' ≤ s.size ∧ w.grownBy wr (some b)) (fun _ i _ => N - (intOf i).toNat)
  case atStart => exact ⟨0, [], p1, Nat.zero_le _, rfl, rfl, pMany_start _ _ _, World.ownsRow_nil _ _ _ _, (fun z hz => by cases hz), hr, hp1, hg⟩
  case round =>
    obtain ⟨k, zs, p', hk, rfl, hzl, HPM, hown, HZ, hrd, hp', hgr⟩ := hrel
    have hszr := hgr.size
    by_cases hlt : k < N
    rotate_left
    · have HE : Hid (pMany (pClass s) N p1 = some (zs.map (·.2), p')) := pMany_end (by rw [HPM.out, show N - k = 0 by omega])
      have HOW := mkHid hown
      have ho2 := hown.2
      clear hown
      rcases ho2 with ⟨rfl, hn0⟩ | ⟨g, cap, cur, rfl, hrest⟩
      all_goals
        try clear hrest
        try clear hn0
        go_wp2_with fail
        go_ret
        exact ⟨hgr, Or.inr ⟨_, p', HPC.out.trans HE.out, ⟨_, rfl, own_SL HOW.out (fun z hz => ⟨(HZ.out z hz).1, (HZ.out z hz).2.mono fun _ hk => hk.more (Nat.le_refl _) (by decide)⟩) (by decide) (by unfold maxLen; omega)⟩, hrd, hp'⟩⟩
    obtain ⟨k', hk'⟩ : ∃ k', N - k = k' + 1 := ⟨N - k - 1, by omega⟩
    have HK' := mkHid hk'
    rw [hk'] at HPM
    clear hk'
    go_wp2_with fail
    refine (class_r _ b s p' hrd hp' hs).mono ?_
    rintro r w2 ⟨hg2, ⟨hx, q, rfl⟩ | ⟨x, p2, hx, ⟨va, vh, rfl, sa, sh⟩, hr2, hp2⟩⟩
    · refine ⟨rfl, grown_trans hgr hg2, Or.inl ⟨?_, q, rfl⟩⟩
      rw [HPC.out]
      exact pMany_fail HPM.out hx
    have HPM2 := mkHid (pMany_step HPM.out hx)
    have HSZ := mkHid (pClass_size hs hx)
    have SA := mkHid sa
    have SH := mkHid sh
    obtain ⟨af, cf, rfl, -⟩ := sa
    obtain ⟨am, cm, rfl, -⟩ := sh
    have hown2 : w2.ownsRow w.heap.size 45 4 u5 zs.length (zs.flatMap (·.1)) := hown.kept hg2 (own_ne hown hb)
    have HST : Hid (Stp w.heap.size [51, 64, 59, 53] wr w2) := Stp.grown hg2 hb
    have hgr2 := grown_trans hgr hg2
    have hsz2 := hgr2.size
    clear hown hgr hg2 hrd hx HPM
    have HO2 := mkHid hown2
    have HZL := mkHid hzl
    clear hzl
    · go_wp2_with (at_builtin; refine wpList_append_own _ rfl _ _ 22 rfl w.heap.size 45 i0 (.agg #[.string ⟨#[]⟩, .string ⟨#[]⟩, .slice none 0 0, .slice none 0 0]) 4 80 Try.underlying22 hi hz0 hz1 hz2 rfl (by decide) _ _ _ rfl (hown2.alloc _) ⟨w2.heap.size, 0, none⟩ 1 1 [.string x.name, .string x.super, .slice af x.fields.length cf, .slice am x.meths.length cm] rfl rfl (by intro j u hj; match j, hj with | 0, hj => simp at hj; subst hj; simp [Addr.add] | 1, hj => simp at hj; subst hj; simp [Addr.add] | 2, hj => simp at hj; subst hj; simp [Addr.add] | 3, hj => simp at hj; subst hj; simp [Addr.add] | j + 4, hj => simp at hj) (by intro u hu; simp at hu; rcases hu with rfl | rfl | rfl | rfl <;> rfl) (by have := HZL.out; unfold maxLen; omega) (by have := HZL.out; omega) (by simp; omega) ?_)
      intro v' w3 hown3 hg3 _
      have hr3 : Rd w3 b s p2 := (hr2.alloc _).grown hg3 (by intro e; have := (HO2.out.lt b e.symm).1; omega)
      have hgr3 : w.grownBy w3 (some b) := grown_own (grown_alloc hgr2 _) hg3 (fun i e => (HO2.out.lt i e).1)
      have HO := mkHid hown3
      have HS3 : Hid (Stp w.heap.size [51, 64, 59, 53] wr w3) := HST.out.trans (((Stp.refl _ _ _).alloc _).trans (Stp.row hg3 (HO2.out.alloc _) (by decide)))
      have HS4 : Hid (Stp wr.heap.size [51, 64, 59, 53] w2 w3) := ((Stp.refl _ _ _).alloc _).trans (Stp.row hg3 (HO2.out.alloc _) (by decide))
      have SA3 := mkHid (SL.monoF (SL.stpF SA.out HS4.out) fun _ hk => hk.more (B' := w.heap.size) hszr (fun _ ht => ht))
      have SH3 := mkHid (SL.monoM (SL.stpM SH.out HS4.out) fun _ hk => hk.more (B' := w.heap.size) hszr (fun _ ht => ht))
      clear hown3 hg3 hgr2 hr2
      have ho4 := HO.out.2
      rcases ho4 with ⟨_, hbad⟩ | ⟨g', cap', cur', rfl, hrest⟩
      · omega
      clear hrest
      go_wp2_with fail
      go_roundw
      case rel =>
        refine ⟨k + 1, zs ++ [([.string x.name, .string x.super, .slice af x.fields.length cf, .slice am x.meths.length cm], x)], p2, by omega, by go_num, by have := HZL.out; simp; omega, ?_, ?_, ?_, hr3, hp2, hgr3⟩
        · have e := HK'.out
          show _ = _
          rw [HPM2.out, show N - (k + 1) = k' by omega, List.map_append]
          rfl
        · rw [List.length_append, snoc_flat]
          exact HO.out
        · show ∀ z ∈ _, _
          intro z hz
          rcases List.mem_append.1 hz with hz | hz
          · exact ⟨(HZ.out z hz).1, (HZ.out z hz).2.stp HS3.out⟩
          · rw [List.mem_singleton] at hz
            subst hz
            exact ⟨rfl, ⟨_, _, rfl, SA3.out, SH3.out, HSZ.out⟩⟩
      case measure => simp [intOf]; omega

end Go.Proofs.Ytkpklkhkhhlifaa
