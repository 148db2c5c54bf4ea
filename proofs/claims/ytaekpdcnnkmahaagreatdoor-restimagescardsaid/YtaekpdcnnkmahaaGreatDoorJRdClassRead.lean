/- The contracts of the reader's method on classes, and of what reads lists of them. -/
import Derived.Test.YtaekpdcnnkmahaaGreatDoorRdMeth
import Derived.Test.YtaekpdcnnkmahaaGreatDoorJSpoSpC
namespace Go.Proofs.YtaekpdcnnkmahaaGreatDoor
set_option maxRecDepth 100000
open Go.RowKit

theorem pClass_size {s : ByteArray} {p q : Nat} {x : ClassD} (hs : s.size ≤ 20000) (h : pClass s p = some (x, q)) : x.name.size ≤ maxLen ∧ x.super.size ≤ maxLen := by
  rw [pClass, Option.bind_eq_some_iff] at h
  obtain ⟨a1, h1, h⟩ := h
  rw [Option.bind_eq_some_iff] at h
  obtain ⟨a2, h2, h⟩ := h
  rw [Option.bind_eq_some_iff] at h
  obtain ⟨a3, h3, h⟩ := h
  rw [Option.bind_eq_some_iff] at h
  obtain ⟨a4, h4, h⟩ := h
  cases h
  exact ⟨pText_size hs h1, pText_size hs h2⟩

set_option maxHeartbeats 8000000 in
theorem class_r (w : World) (b : Nat) (s : ByteArray) (p : Nat) (h : Rd w b s p) (hp : p ≤ s.size) (hs : s.size ≤ 20000) :
    Calls Tryz.prog 76 #[.pointer (some ⟨b, 0, none⟩)] w fun r w' => RdOut w w' b s (pClass s p) (fun x r => ∃ vf vm, r = .returned (.agg #[.string x.name, .string x.super, vf, vm]) ∧ SL 3 RF (MT w.heap.size [51, 79, 76, 53] w') w' vf x.fields ∧ SL 9 RM (MT w.heap.size [51, 79, 76, 53] w') w' vm x.meths) r := by
  have hmf : ∀ (fn : Fn) (first cap : Array Value) (w : World), (Instr.makeFunc fn first cap).run Tryz.prog w = .ok (.func fn first cap) w := fun _ _ _ _ => rfl
  have hb := h.lt
  go_enter Tryz.func76, Tryz.ntmps76
  go_wp2_with fail
  have L0 : Loc w ((w.alloc (.cells #[.string ⟨#[]⟩, .string ⟨#[]⟩, .slice none 0 0, .slice none 0 0] 61)).alloc (.cells #[.string ⟨#[]⟩, .string ⟨#[]⟩, .slice none 0 0, .slice none 0 0] 61)) b 61 #[.string ⟨#[]⟩, .string ⟨#[]⟩, .slice none 0 0, .slice none 0 0] #[.string ⟨#[]⟩, .string ⟨#[]⟩, .slice none 0 0, .slice none 0 0] := Loc.start _ _
  have hr0 : Rd ((w.alloc (.cells #[.string ⟨#[]⟩, .string ⟨#[]⟩, .slice none 0 0, .slice none 0 0] 61)).alloc (.cells #[.string ⟨#[]⟩, .string ⟨#[]⟩, .slice none 0 0, .slice none 0 0] 61)) b s p := (h.alloc _).alloc _
  generalize (w.alloc (.cells #[.string ⟨#[]⟩, .string ⟨#[]⟩, .slice none 0 0, .slice none 0 0] 61)).alloc (.cells #[.string ⟨#[]⟩, .string ⟨#[]⟩, .slice none 0 0, .slice none 0 0] 61) = W0 at *
  refine (text_r _ b s p hr0 hp hs).mono ?_
  rintro r w1 ⟨hg, ⟨hn, q, rfl⟩ | ⟨x1, p1, hn, rfl, hr, hp1⟩⟩
  · exact ⟨rfl, grown_trans L0.grown hg, Or.inl ⟨by simp only [pClass, hn, Option.bind_none], q, rfl⟩⟩
  have HN1 := mkHid hn
  have L0b := L0.call hg hb
  have hlt := L0b.lt
  have y0 := L0b.cell 0 (x := .string ⟨#[]⟩) rfl
  have z0 := L0b.frozen 0
  have L1 : Loc w (w1.setCell ⟨w.heap.size + 1, 0, none⟩ (.string x1)) b 61 #[.string ⟨#[]⟩, .string ⟨#[]⟩, .slice none 0 0, .slice none 0 0] #[.string x1, .string ⟨#[]⟩, .slice none 0 0, .slice none 0 0] := (L0b.set 0 (.string x1))
  have hr1 := (hr.locSet hb (w.heap.size + 1) 0 (by omega) (.string x1))
  have HL := mkHid L1
  have HRR := mkHid hr1
  clear hn hg hr0 L0 L0b hr L1 hr1 
  go_wp2_with fail
  generalize (w1.setCell ⟨w.heap.size + 1, 0, none⟩ (.string x1)) = W1 at *
  have L1 := HL.out
  have hr1 := HRR.out
  clear y0 z0 hlt HL HRR
  refine (text_r _ b s p1 hr1 hp1 hs).mono ?_
  rintro r w1 ⟨hg, ⟨hn, q, rfl⟩ | ⟨x2, p2, hn, rfl, hr, hp2⟩⟩
  · exact ⟨rfl, grown_trans L1.grown hg, Or.inl ⟨by simp only [pClass, HN1.out, hn, Option.bind_some, Option.bind_none], q, rfl⟩⟩
  have HN2 := mkHid hn
  have L1b := L1.call hg hb
  have hlt := L1b.lt
  have y1 := L1b.cell 1 (x := .string ⟨#[]⟩) rfl
  have z1 := L1b.frozen 1
  have L2 : Loc w (w1.setCell ⟨w.heap.size + 1, 1, none⟩ (.string x2)) b 61 #[.string ⟨#[]⟩, .string ⟨#[]⟩, .slice none 0 0, .slice none 0 0] #[.string x1, .string x2, .slice none 0 0, .slice none 0 0] := (L1b.set 1 (.string x2))
  have hr2 := (hr.locSet hb (w.heap.size + 1) 1 (by omega) (.string x2))
  have HL := mkHid L2
  have HRR := mkHid hr2
  clear hn hg hr1 L1 L1b hr L2 hr2 
  go_wp2_with fail
  generalize (w1.setCell ⟨w.heap.size + 1, 1, none⟩ (.string x2)) = W2 at *
  have L2 := HL.out
  have hr2 := HRR.out
  clear y1 z1 hlt HL HRR
  refine (readCountedF _ b s p2 hr2 hp2 hs).mono ?_
  rintro r w1 ⟨hg, ⟨hn, q, rfl⟩ | ⟨x3, p3, hn, ⟨v3, rfl, s3⟩, hr, hp3⟩⟩
  · exact ⟨rfl, grown_trans L2.grown hg, Or.inl ⟨by simp only [pClass, HN1.out, HN2.out, hn, Option.bind_some, Option.bind_none], q, rfl⟩⟩
  have HN3 := mkHid hn
  have L2b := L2.call hg hb
  have hlt := L2b.lt
  have SA : Hid (SL 3 RF (MT w.heap.size [51, 79, 76, 53] w1) w1 v3 x3) := s3.monoF fun _ hk => hk.more L2.grown.size (by decide)
  obtain ⟨a3, c3, rfl, -⟩ := s3
  have y2 := L2b.cell 2 (x := .slice none 0 0) rfl
  have z2 := L2b.frozen 2
  have L3 : Loc w (w1.setCell ⟨w.heap.size + 1, 2, none⟩ (.slice a3 x3.length c3)) b 61 #[.string ⟨#[]⟩, .string ⟨#[]⟩, .slice none 0 0, .slice none 0 0] #[.string x1, .string x2, .slice a3 x3.length c3, .slice none 0 0] := (L2b.set 2 (.slice a3 x3.length c3))
  have hr3 := (hr.locSet hb (w.heap.size + 1) 2 (by omega) (.slice a3 x3.length c3))
  have SAn := mkHid (SA.out.stpF (Stp.set L2b.own (by decide) 2 (.slice a3 x3.length c3)))
  have HL := mkHid L3
  have HRR := mkHid hr3
  clear hn hg hr2 L2 L2b hr L3 hr3 SA
  go_wp2_with fail
  generalize (w1.setCell ⟨w.heap.size + 1, 2, none⟩ (.slice a3 x3.length c3)) = W3 at *
  have L3 := HL.out
  have hr3 := HRR.out
  clear y2 z2 hlt HL HRR
  have SA := SAn
  clear SAn
  refine (readCountedM _ b s p3 hr3 hp3 hs).mono ?_
  rintro r w1 ⟨hg, ⟨hn, q, rfl⟩ | ⟨x4, p4, hn, ⟨v4, rfl, s4⟩, hr, hp4⟩⟩
  · exact ⟨rfl, grown_trans L3.grown hg, Or.inl ⟨by simp only [pClass, HN1.out, HN2.out, HN3.out, hn, Option.bind_some, Option.bind_none], q, rfl⟩⟩
  have HN4 := mkHid hn
  have L3b := L3.call hg hb
  have SA2 := mkHid (SA.out.stpF (Stp.grown hg hb))
  have SH : Hid (SL 9 RM (MT w.heap.size [51, 79, 76, 53] w1) w1 v4 x4) := s4.monoM fun _ hk => hk.more L3.grown.size (by decide)
  obtain ⟨a4, c4, rfl, -⟩ := s4
  clear hn hg hr3 L3 SA
  have hlt := L3b.lt
  have y0 := L3b.cell 0 (x := .string x1) rfl
  have y1 := L3b.cell 1 (x := .string x2) rfl
  have y2 := L3b.cell 2 (x := .slice a3 x3.length c3) rfl
  have y3 := L3b.cell 3 (x := .slice none 0 0) rfl
  have f3 := L3b.frozen 3
  have u0 := L3b.cellR 0 (x := .string ⟨#[]⟩) rfl
  have z0 := L3b.frozenR 0
  have u1 := L3b.cellR 1 (x := .string ⟨#[]⟩) rfl
  have z1 := L3b.frozenR 1
  have u2 := L3b.cellR 2 (x := .slice none 0 0) rfl
  have z2 := L3b.frozenR 2
  have u3 := L3b.cellR 3 (x := .slice none 0 0) rfl
  have z3 := L3b.frozenR 3
  have HG : Hid (w.grownBy (((((w1.setCell ⟨w.heap.size + 1, 3, none⟩ (.slice a4 x4.length c4)).setCell ⟨w.heap.size, 0, none⟩ (.string x1)).setCell ⟨w.heap.size, 1, none⟩ (.string x2)).setCell ⟨w.heap.size, 2, none⟩ (.slice a3 x3.length c3)).setCell ⟨w.heap.size, 3, none⟩ (.slice a4 x4.length c4)) (some b)) := (grown_set (grown_set (grown_set (grown_set (L3b.set 3 (.slice a4 x4.length c4)).grown ⟨w.heap.size, 0, none⟩ (.string x1) (Or.inr (Nat.le_refl _))) ⟨w.heap.size, 1, none⟩ (.string x2) (Or.inr (Nat.le_refl _))) ⟨w.heap.size, 2, none⟩ (.slice a3 x3.length c3) (Or.inr (Nat.le_refl _))) ⟨w.heap.size, 3, none⟩ (.slice a4 x4.length c4) (Or.inr (Nat.le_refl _)))
  have HR : Hid (Rd (((((w1.setCell ⟨w.heap.size + 1, 3, none⟩ (.slice a4 x4.length c4)).setCell ⟨w.heap.size, 0, none⟩ (.string x1)).setCell ⟨w.heap.size, 1, none⟩ (.string x2)).setCell ⟨w.heap.size, 2, none⟩ (.slice a3 x3.length c3)).setCell ⟨w.heap.size, 3, none⟩ (.slice a4 x4.length c4)) b s p4) := (((((hr.locSet hb (w.heap.size + 1) 3 (by omega) (.slice a4 x4.length c4)).locSet hb w.heap.size 0 (Nat.le_refl _) (.string x1)).locSet hb w.heap.size 1 (Nat.le_refl _) (.string x2)).locSet hb w.heap.size 2 (Nat.le_refl _) (.slice a3 x3.length c3)).locSet hb w.heap.size 3 (Nat.le_refl _) (.slice a4 x4.length c4))
  have HF : Hid ((((((w1.setCell ⟨w.heap.size + 1, 3, none⟩ (.slice a4 x4.length c4)).setCell ⟨w.heap.size, 0, none⟩ (.string x1)).setCell ⟨w.heap.size, 1, none⟩ (.string x2)).setCell ⟨w.heap.size, 2, none⟩ (.slice a3 x3.length c3)).setCell ⟨w.heap.size, 3, none⟩ (.slice a4 x4.length c4)).heap[w.heap.size]? = some (.cells #[.string x1, .string x2, .slice a3 x3.length c3, .slice a4 x4.length c4] 61 (0, 0))) := (heap_set_own (heap_set_own (heap_set_own (heap_set_own (L3b.set 3 (.slice a4 x4.length c4)).res (j := 0) (.string x1)) (j := 1) (.string x2)) (j := 2) (.slice a3 x3.length c3)) (j := 3) (.slice a4 x4.length c4))
  have HX := mkHid (show pClass s p = some (⟨x1, x2, x3, x4⟩, p4) by simp only [pClass, HN1.out, HN2.out, HN3.out, HN4.out, Option.bind_some])
  have hst : Stp w.heap.size [51, 79, 76, 53] w1 (((((w1.setCell ⟨w.heap.size + 1, 3, none⟩ (.slice a4 x4.length c4)).setCell ⟨w.heap.size, 0, none⟩ (.string x1)).setCell ⟨w.heap.size, 1, none⟩ (.string x2)).setCell ⟨w.heap.size, 2, none⟩ (.slice a3 x3.length c3)).setCell ⟨w.heap.size, 3, none⟩ (.slice a4 x4.length c4)) := (Stp.set L3b.own (by decide) 3 _).trans (Stp.at (L3b.set 3 _).res (by decide) (by simp [World.setCell]) (fun i hi => by repeat rw [Below.heap_setCell _ _ _ _ (by exact hi)]))
  have SAF := mkHid (SA2.out.stpF hst)
  have SHF := mkHid (SH.out.stpM hst)
  clear hst SA2 SH
  clear L3b hr
  go_wp2_with fail
  generalize (((((w1.setCell ⟨w.heap.size + 1, 3, none⟩ (.slice a4 x4.length c4)).setCell ⟨w.heap.size, 0, none⟩ (.string x1)).setCell ⟨w.heap.size, 1, none⟩ (.string x2)).setCell ⟨w.heap.size, 2, none⟩ (.slice a3 x3.length c3)).setCell ⟨w.heap.size, 3, none⟩ (.slice a4 x4.length c4)) = W9 at *
  have q0 : W9.cell? ⟨w.heap.size, 0, none⟩ = some (.string x1) := by simp [World.cell?, HF.out]
  have q1 : W9.cell? ⟨w.heap.size, 1, none⟩ = some (.string x2) := by simp [World.cell?, HF.out]
  have q2 : W9.cell? ⟨w.heap.size, 2, none⟩ = some (.slice a3 x3.length c3) := by simp [World.cell?, HF.out]
  have q3 : W9.cell? ⟨w.heap.size, 3, none⟩ = some (.slice a4 x4.length c4) := by simp [World.cell?, HF.out]
  exact bodyPost_ret (v := .agg #[.string x1, .string x2, .slice a3 x3.length c3, .slice a4 x4.length c4]) (by simp [results, Tryz.results76, go_sem, q0, q1, q2, q3]) rfl ⟨HG.out, Or.inr ⟨⟨x1, x2, x3, x4⟩, p4, HX.out, ⟨_, _, rfl, SAF.out, SHF.out⟩, HR.out, hp4⟩⟩

theorem Tryz.infoClass : (Tryz.prog.info? 61).map (fun i => (i.zero, i.size, i.bytes)) = some (some (.agg #[.string ⟨#[]⟩, .string ⟨#[]⟩, .slice none 0 0, .slice none 0 0]), 4, 80) := by kernel_rfl
set_option maxHeartbeats 2000000 in
theorem readCountedC (w : World) (b : Nat) (s : ByteArray) (p : Nat) (h : Rd w b s p) (hp : p ≤ s.size) (hs : s.size ≤ 20000) :
    Calls Tryz.prog 75 #[.pointer (some ⟨b, 0, none⟩), .func (.func 76) #[.pointer (some ⟨b, 0, none⟩)] #[]] w fun r w' => RdOut w w' b s (pCounted s (pClass s) p) (fun l r => ∃ v, r = .returned v ∧ SL 4 RC (MT w.heap.size [51, 79, 76, 53, 61] w') w' v l) r := by
  obtain ⟨i0, hi, hz0, hz1, hz2⟩ := info_parts Tryz.infoClass
  have hb := h.lt
  go_enter Tryz.func75, Tryz.ntmps75
  go_wp2_with fail
  refine (count_r _ b s p h hp (by unfold maxLen; omega)).mono ?_
  rintro r w1 ⟨hg, ⟨hn, q, rfl⟩ | ⟨N, p1, hn, rfl, hr, hp1⟩⟩
  · exact ⟨rfl, hg, Or.inl ⟨by rw [pCounted, hn]; rfl, q, rfl⟩⟩
  have hN := pCount_lt hn
  have HPC := mkHid (pCounted_some (f := pClass s) hn)
  clear hn
  go_wp2_with fail
  go_loopw [5, 8] (fun v i wr => ∃ (k : Nat) (zs : List (List Value × ClassD)) (p' : Nat), k ≤ N ∧ i = .int .i64 k ∧ zs.length = k ∧ Hid (pMany (pClass s) N p1 = (pMany (pClass s) (N - k) p').bind fun y => some (zs.map (·.2) ++ y.1, y.2)) ∧
    wr.ownsRow w.heap.size 61 4 v zs.length (zs.flatMap (·.1)) ∧ Hid (∀ z ∈ zs, z.1.length = 4 ∧ RC (MT w.heap.size [51, 79, 76, 53] wr) wr z.1 z.2) ∧ Rd wr b s p' ∧ p' ≤ s.size ∧ w.grownBy wr (some b)) (fun _ i _ => N - (intOf i).toNat)
  case atStart => exact ⟨0, [], p1, Nat.zero_le _, rfl, rfl, pMany_start _ _ _, World.ownsRow_nil _ _ _ _, (fun z hz => by cases hz), hr, hp1, hg⟩
  case round =>
    obtain ⟨k, zs, p', hk, rfl, hzl, HPM, hown, HZ, hrd, hp', hgr⟩ := hrel
    have hszr := hgr.size
    by_cases hlt : k < N
    rotate_left
    · have HE : Hid (pMany (pClass s) N p1 = some (zs.map (·.2), p')) := pMany_end (by rw [HPM.out, show N - k = 0 by omega])
      have HOW := mkHid hown
      have ho2 := hown.2
      clear hown
      rcases ho2 with ⟨rfl, hn0⟩ | ⟨g, cap, cur, rfl, hrest⟩
      all_goals
        try clear hrest
        try clear hn0
        go_wp2_with fail
        go_ret
        exact ⟨hgr, Or.inr ⟨_, p', HPC.out.trans HE.out, ⟨_, rfl, own_SL HOW.out (fun z hz => ⟨(HZ.out z hz).1, (HZ.out z hz).2.mono fun _ hk => hk.more (Nat.le_refl _) (by decide)⟩) (by decide) (by unfold maxLen; omega)⟩, hrd, hp'⟩⟩
    obtain ⟨k', hk'⟩ : ∃ k', N - k = k' + 1 := ⟨N - k - 1, by omega⟩
    have HK' := mkHid hk'
    rw [hk'] at HPM
    clear hk'
    go_wp2_with fail
    refine (class_r _ b s p' hrd hp' hs).mono ?_
    rintro r w2 ⟨hg2, ⟨hx, q, rfl⟩ | ⟨x, p2, hx, ⟨va, vh, rfl, sa, sh⟩, hr2, hp2⟩⟩
    · refine ⟨rfl, grown_trans hgr hg2, Or.inl ⟨?_, q, rfl⟩⟩
      rw [HPC.out]
      exact pMany_fail HPM.out hx
    have HPM2 := mkHid (pMany_step HPM.out hx)
    have HSZ := mkHid (pClass_size hs hx)
    have SA := mkHid sa
    have SH := mkHid sh
    obtain ⟨af, cf, rfl, -⟩ := sa
    obtain ⟨am, cm, rfl, -⟩ := sh
    have hown2 : w2.ownsRow w.heap.size 61 4 u5 zs.length (zs.flatMap (·.1)) := hown.kept hg2 (own_ne hown hb)
    have HST : Hid (Stp w.heap.size [51, 79, 76, 53] wr w2) := Stp.grown hg2 hb
    have hgr2 := grown_trans hgr hg2
    have hsz2 := hgr2.size
    clear hown hgr hg2 hrd hx HPM
    have HO2 := mkHid hown2
    have HZL := mkHid hzl
    clear hzl
    · go_wp2_with (at_builtin; refine wpList_append_own _ rfl _ _ 22 rfl w.heap.size 61 i0 (.agg #[.string ⟨#[]⟩, .string ⟨#[]⟩, .slice none 0 0, .slice none 0 0]) 4 80 Tryz.underlying22 hi hz0 hz1 hz2 rfl (by decide) _ _ _ rfl (hown2.alloc _) ⟨w2.heap.size, 0, none⟩ 1 1 [.string x.name, .string x.super, .slice af x.fields.length cf, .slice am x.meths.length cm] rfl rfl (by intro j u hj; match j, hj with | 0, hj => simp at hj; subst hj; simp [Addr.add] | 1, hj => simp at hj; subst hj; simp [Addr.add] | 2, hj => simp at hj; subst hj; simp [Addr.add] | 3, hj => simp at hj; subst hj; simp [Addr.add] | j + 4, hj => simp at hj) (by intro u hu; simp at hu; rcases hu with rfl | rfl | rfl | rfl <;> rfl) (by have := HZL.out; unfold maxLen; omega) (by have := HZL.out; omega) (by simp; omega) ?_)
      intro v' w3 hown3 hg3 _
      have hr3 : Rd w3 b s p2 := (hr2.alloc _).grown hg3 (by intro e; have := (HO2.out.lt b e.symm).1; omega)
      have hgr3 : w.grownBy w3 (some b) := grown_own (grown_alloc hgr2 _) hg3 (fun i e => (HO2.out.lt i e).1)
      have HO := mkHid hown3
      have HS3 : Hid (Stp w.heap.size [51, 79, 76, 53] wr w3) := HST.out.trans (((Stp.refl _ _ _).alloc _).trans (Stp.row hg3 (HO2.out.alloc _) (by decide)))
      have HS4 : Hid (Stp wr.heap.size [51, 79, 76, 53] w2 w3) := ((Stp.refl _ _ _).alloc _).trans (Stp.row hg3 (HO2.out.alloc _) (by decide))
      have SA3 := mkHid (SL.monoF (SL.stpF SA.out HS4.out) fun _ hk => hk.more (B' := w.heap.size) hszr (fun _ ht => ht))
      have SH3 := mkHid (SL.monoM (SL.stpM SH.out HS4.out) fun _ hk => hk.more (B' := w.heap.size) hszr (fun _ ht => ht))
      clear hown3 hg3 hgr2 hr2
      have ho4 := HO.out.2
      rcases ho4 with ⟨_, hbad⟩ | ⟨g', cap', cur', rfl, hrest⟩
      · omega
      clear hrest
      go_wp2_with fail
      go_roundw
      case rel =>
        refine ⟨k + 1, zs ++ [([.string x.name, .string x.super, .slice af x.fields.length cf, .slice am x.meths.length cm], x)], p2, by omega, by go_num, by have := HZL.out; simp; omega, ?_, ?_, ?_, hr3, hp2, hgr3⟩
        · have e := HK'.out
          show _ = _
          rw [HPM2.out, show N - (k + 1) = k' by omega, List.map_append]
          rfl
        · rw [List.length_append, snoc_flat]
          exact HO.out
        · show ∀ z ∈ _, _
          intro z hz
          rcases List.mem_append.1 hz with hz | hz
          · exact ⟨(HZ.out z hz).1, (HZ.out z hz).2.stp HS3.out⟩
          · rw [List.mem_singleton] at hz
            subst hz
            exact ⟨rfl, ⟨_, _, rfl, SA3.out, SH3.out, HSZ.out⟩⟩
      case measure => simp [intOf]; omega

end Go.Proofs.YtaekpdcnnkmahaaGreatDoor
/- The contracts of what reads classes, and of Read. -/
namespace Go.Proofs.YtaekpdcnnkmahaaGreatDoor
set_option maxRecDepth 100000
open Go.RowKit

theorem SL.stpC {B : Nat} {T : List Nat} {w w' : World} {v : Value} {l : List ClassD} (h : SL 4 RC (MT B T w) w v l) (hs : Stp B T w w') : SL 4 RC (MT B T w') w' v l := (h.keptC hs.kp).monoC fun _ hk => hk.step hs

set_option maxHeartbeats 1000000 in
theorem readClasses_any (w : World) (s : ByteArray) (hs : s.size ≤ 20000) :
    Calls Tryz.prog 48 #[.string s] w fun r w' => Below w.heap.size w w' ∧
      ((pImage s = none ∧ ∃ q, r = .panicked [wrongV 1 q]) ∨ ∃ l v, pImage s = some l ∧ r = .returned v ∧ SL 4 RC (MT w.heap.size [51, 79, 76, 53, 61] w') w' v l) := by
  have hmf : ∀ (fn : Fn) (first cap : Array Value) (w : World), (Instr.makeFunc fn first cap).run Tryz.prog w = .ok (.func fn first cap) w := fun _ _ _ _ => rfl
  go_enter Tryz.func48, Tryz.ntmps48
  go_wp2_with fail
  refine (newReader_any _ s).mono ?_
  rintro r w1 ⟨rfl, rfl⟩
  have hB0 : Below w.heap.size w ((w.alloc (.cells #[.string s, .int .i64 0] 131)).alloc (.cells #[.string s, .int .i64 0] 134)) := ((Below.refl _ _).alloc (Nat.le_refl _) _).alloc (by simp) _
  have hr0 : Rd ((w.alloc (.cells #[.string s, .int .i64 0] 131)).alloc (.cells #[.string s, .int .i64 0] 134)) (w.heap.size + 1) s 0 := ⟨by simp [go_sem], by simp [go_sem], by simp [go_sem]⟩
  have hz : ((w.alloc (.cells #[.string s, .int .i64 0] 131)).alloc (.cells #[.string s, .int .i64 0] 134)).heap.size = w.heap.size + 2 := by simp
  have HB0 := mkHid hB0
  have HR0 := mkHid hr0
  have HZ := mkHid hz
  clear hB0 hr0 hz
  go_wp2_with fail
  generalize (w.alloc (.cells #[.string s, .int .i64 0] 131)).alloc (.cells #[.string s, .int .i64 0] 134) = W0 at *
  refine (readCountedC _ (w.heap.size + 1) s 0 HR0.out (Nat.zero_le _) hs).mono ?_
  rintro r w1 ⟨hg, ⟨hn, q, rfl⟩ | ⟨l, p1, hn, ⟨v, rfl, sv⟩, hr, hp1⟩⟩
  · exact ⟨rfl, below_of_grown HB0.out hg (by omega), Or.inl ⟨by rw [pImage, hn]; rfl, q, rfl⟩⟩
  have HBE := mkHid (below_of_grown HB0.out hg (by omega))
  have SV : Hid (SL 4 RC (MT w.heap.size [51, 79, 76, 53, 61] w1) w1 v l) := sv.monoC fun _ hk => hk.more (by rw [HZ.out]; omega) (fun _ ht => ht)
  obtain ⟨a, c, rfl, -⟩ := sv
  clear hg
  go_wp2_with fail
  refine (left_any _ (w.heap.size + 1) s p1 hr hp1 (by unfold maxLen; omega)).mono ?_
  rintro r w2 ⟨rfl, n2, rfl⟩
  have HBE2 : Hid (Below w.heap.size w (w1.drewN n2)) := ⟨HBE.out.os, HBE.out.tape, HBE.out.output, HBE.out.size, HBE.out.block⟩
  have SV2 : Hid (SL 4 RC (MT w.heap.size [51, 79, 76, 53, 61] (w1.drewN n2)) (w1.drewN n2) (.slice a l.length c) l) := SV.out
  clear HBE SV
  by_cases he : p1 = s.size
  · have he' : (((s.size : Int) - p1) == 0) = true := by rw [beq_iff_eq]; omega
    have HX := mkHid (show pImage s = some l by rw [pImage, hn]; simp only [Option.bind_some]; rw [if_pos he])
    clear hn he
    go_wp2_with fail
    refine (demand_any _ _ _).mono ?_
    rintro r w3 ⟨rfl, ⟨hb, rfl⟩ | ⟨hb, rfl⟩⟩
    · exact absurd hb (by first | (simp; done) | (simp; omega))
    clear hb
    go_wp2
    go_ret
    exact ⟨HBE2.out, Or.inr ⟨l, _, HX.out, rfl, SV2.out⟩⟩
  · have he' : (((s.size : Int) - p1) == 0) = false := by rw [beq_eq_false_iff_ne]; omega
    have HX := mkHid (show pImage s = none by rw [pImage, hn]; simp only [Option.bind_some]; rw [if_neg he])
    clear hn he
    go_wp2_with fail
    refine (demand_any _ _ _).mono ?_
    rintro r w3 ⟨rfl, ⟨hb, rfl⟩ | ⟨hb, rfl⟩⟩
    · exact ⟨rfl, HBE2.out, Or.inl ⟨HX.out, _, rfl⟩⟩
    · exact absurd hb (by first | (simp; done) | (simp; omega))

theorem read1_any (w : World) (s : ByteArray) (Ps : Nat) (hs : s.size ≤ 20000) (hp : w.cell? ⟨Ps, 0, none⟩ = some (.string s)) :
    Calls Tryz.prog 47 #[.pointer (some ⟨Ps, 0, none⟩)] w fun r w' => Below w.heap.size w w' ∧
      ((pImage s = none ∧ ∃ q, r = .panicked [wrongV 1 q]) ∨ ∃ l v, pImage s = some l ∧ r = .returned v ∧ SL 4 RC (MT w.heap.size [51, 79, 76, 53, 61] w') w' v l) := by
  go_enter Tryz.func47, Tryz.ntmps47
  go_wp2_with fail
  refine (readClasses_any _ s hs).mono ?_
  rintro r w1 ⟨hb, ⟨hn, q, rfl⟩ | ⟨l, v, hn, rfl, sv⟩⟩
  · exact ⟨rfl, hb, Or.inl ⟨hn, q, rfl⟩⟩
  have HN := mkHid hn
  have HB := mkHid hb
  have SV := mkHid sv
  obtain ⟨a, c, rfl, -⟩ := sv
  clear hn hb
  go_wp2
  go_ret
  exact ⟨HB.out, Or.inr ⟨l, _, HN.out, rfl, SV.out⟩⟩

set_option maxHeartbeats 1000000 in
theorem made1_any (w : World) (s : ByteArray) (Pf Q Ps : Nat) (x : Value) (hs : s.size ≤ 20000) (hpf : w.cell? ⟨Pf, 0, none⟩ = some (.func (.func 47) #[] #[.pointer (some ⟨Ps, 0, none⟩)])) (hps : w.cell? ⟨Ps, 0, none⟩ = some (.string s)) (hq : w.cell? ⟨Q, 0, none⟩ = some x) (hz : w.frozen? ⟨Q, 0, none⟩ = false) :
    Calls Tryz.prog 73 #[.pointer (some ⟨Pf, 0, none⟩), .pointer (some ⟨Q, 0, none⟩)] w fun r w' =>
      (r = .returned (.tuple #[]) ∧ ∃ l v, pImage s = some l ∧ w'.cell? ⟨Q, 0, none⟩ = some v ∧ SL 4 RC (MT w.heap.size [51, 79, 76, 53, 61] w') w' v l ∧ w.grownBy w' (some Q)) ∨
      (∃ q, r = .panicked [wrongV 1 q] ∧ pImage s = none ∧ Below w.heap.size w w') := by
  have hQ : Q < w.heap.size := World.block_lt_of_cell? w _ hq
  go_enter Tryz.func73, Tryz.ntmps73
  go_wp2_with fail
  refine (read1_any _ s Ps hs hps).mono ?_
  rintro r w1 ⟨hb, ⟨hn, q, rfl⟩ | ⟨l, v, hn, rfl, sv⟩⟩
  · exact ⟨rfl, Or.inr ⟨q, rfl, hn, hb⟩⟩
  have hq1 : w1.cell? ⟨Q, 0, none⟩ = some x := (hb.cell (p := ⟨Q, 0, none⟩) hQ).trans hq
  have hz1 : w1.frozen? ⟨Q, 0, none⟩ = false := (hb.frozen (p := ⟨Q, 0, none⟩) hQ).trans hz
  have hg0 : w1.grownBy (w1.setCell ⟨Q, 0, none⟩ v) (some Q) := grown_set (World.grownBy.refl _ _) _ _ (Or.inl rfl)
  have HG : Hid (w.grownBy (w1.setCell ⟨Q, 0, none⟩ v) (some Q)) := grown_set ⟨hb.os, hb.tape, hb.output, hb.size, fun k hk _ => hb.block k hk⟩ _ _ (by simp)
  have HS := mkHid (sv.stpC (Stp.grown hg0 hQ))
  have HC := mkHid (World.cell?_setCell_same w1 ⟨Q, 0, none⟩ v hq1)
  have HN := mkHid hn
  obtain ⟨a, c, rfl, -⟩ := sv
  clear hn hg0 hb hq hz
  go_wp2
  go_end0
  exact Or.inl ⟨rfl, l, _, HN.out, HC.out, HS.out, HG.out⟩

theorem callMade1 (args : Array Value) (w : World) : (callFunc 73 args).run Tryz.prog w = .ok (.enter 73 args) w := by kernel_rfl

theorem afterMade (w w1 : World) (x : Value) (h : ((((w.alloc (.cells #[x] 58)).alloc (.cells #[.int .i64 0, .int .i64 0] 29)).alloc (.cells #[.slice none 0 0] 22)).alloc (.cells #[.int .i64 0, .int .i64 0] 29)).grownBy w1 (some (w.heap.size + 2))) :
    w1.heap[w.heap.size + 3]? = some (.cells #[.int .i64 0, .int .i64 0] 29 (0, 0)) ∧ Below w.heap.size w w1 ∧ w1.cell? ⟨w.heap.size + 1, 0, none⟩ = some (.int .i64 0) ∧ w1.cell? ⟨w.heap.size + 1, 1, none⟩ = some (.int .i64 0) ∧
      (∀ j, w1.frozen? ⟨w.heap.size + 1, j, none⟩ = false) ∧ w.heap.size + 4 ≤ w1.heap.size := by
  have hB0 : Below w.heap.size w ((((w.alloc (.cells #[x] 58)).alloc (.cells #[.int .i64 0, .int .i64 0] 29)).alloc (.cells #[.slice none 0 0] 22)).alloc (.cells #[.int .i64 0, .int .i64 0] 29)) := ((((Below.refl _ _).alloc (Nat.le_refl _) _).alloc (by simp) _).alloc (by simp; omega) _).alloc (by simp; omega) _
  have hz : ((((w.alloc (.cells #[x] 58)).alloc (.cells #[.int .i64 0, .int .i64 0] 29)).alloc (.cells #[.slice none 0 0] 22)).alloc (.cells #[.int .i64 0, .int .i64 0] 29)).heap.size = w.heap.size + 4 := by simp
  refine ⟨?_, below_of_grown hB0 h (by omega), ?_, ?_, ?_, by rw [← hz]; exact h.size⟩
  · rw [h.block (w.heap.size + 3) (by omega) (by simp)]
    show ((((w.heap.push _).push _).push _).push _)[w.heap.size + 3]? = _
    rw [Array.getElem?_push, if_pos (by simp)]
  · exact h.cell (a := ⟨w.heap.size + 1, 0, none⟩) (by simp [go_sem]) (by simp)
  · exact h.cell (a := ⟨w.heap.size + 1, 1, none⟩) (by simp [go_sem]) (by simp)
  · intro j
    rw [World.frozen?_of_block (a := ⟨w.heap.size + 1, j, none⟩) (h.block (w.heap.size + 1) (by omega) (by simp))]
    simp [go_sem]

set_option maxHeartbeats 2000000 in
theorem Made_any (w : World) (s : ByteArray) (Ps : Nat) (hs : s.size ≤ 20000) (hps : w.cell? ⟨Ps, 0, none⟩ = some (.string s)) :
    Calls Tryz.prog 46 #[.func (.func 47) #[] #[.pointer (some ⟨Ps, 0, none⟩)]] w fun r w' => Below w.heap.size w w' ∧
      ((∃ l v, pImage s = some l ∧ r = .returned (.tuple #[v, .agg #[.int .i64 0, .int .i64 0]]) ∧ SL 4 RC (MT w.heap.size [51, 79, 76, 53, 61] w') w' v l) ∨
       (pImage s = none ∧ ∃ q, r = .returned (.tuple #[.slice none 0 0, .agg #[.int .i64 1, .int .i64 q]]))) := by
  have hmf : ∀ (fn : Fn) (first cap : Array Value) (w : World), (Instr.makeFunc fn first cap).run Tryz.prog w = .ok (.func fn first cap) w := fun _ _ _ _ => rfl
  have hP : Ps < w.heap.size := World.block_lt_of_cell? w _ hps
  have hB0 : Below w.heap.size w (((w.alloc (.cells #[.func (.func 47) #[] #[.pointer (some ⟨Ps, 0, none⟩)]] 58)).alloc (.cells #[.int .i64 0, .int .i64 0] 29)).alloc (.cells #[.slice none 0 0] 22)) := (((Below.refl _ _).alloc (Nat.le_refl _) _).alloc (by simp) _).alloc (by simp; omega) _
  have hB1 := hB0.alloc hB0.size (.cells #[.int .i64 0, .int .i64 0] 29)
  go_enter Tryz.func46, Tryz.ntmps46
  go_wp2_with fail
  refine (caught_any 73 _ _ (fun w1 => ∃ l v, pImage s = some l ∧ w1.cell? ⟨w.heap.size + 2, 0, none⟩ = some v ∧ SL 4 RC (MT (w.heap.size + 4) [51, 79, 76, 53, 61] w1) w1 v l ∧ Below w.heap.size w w1 ∧
    (∃ x y, w1.cell? ⟨w.heap.size + 1, 0, none⟩ = some x ∧ w1.cell? ⟨w.heap.size + 1, 1, none⟩ = some y) ∧ (∀ j, w1.frozen? ⟨w.heap.size + 1, j, none⟩ = false) ∧ w.heap.size + 4 ≤ w1.heap.size)
    (fun e p w1 => e = 1 ∧ pImage s = none ∧ w1.cell? ⟨w.heap.size + 2, 0, none⟩ = some (.slice none 0 0) ∧ Below w.heap.size w w1 ∧
    (∃ x y, w1.cell? ⟨w.heap.size + 1, 0, none⟩ = some x ∧ w1.cell? ⟨w.heap.size + 1, 1, none⟩ = some y) ∧ (∀ j, w1.frozen? ⟨w.heap.size + 1, j, none⟩ = false) ∧ w.heap.size + 4 ≤ w1.heap.size) (callMade1 _) ?hc).mono ?_
  case hc =>
    refine (made1_any _ s w.heap.size (w.heap.size + 2) Ps (.slice none 0 0) hs (by simp [go_sem]) ((hB1.cell (p := ⟨Ps, 0, none⟩) hP).trans hps) (by simp [go_sem]) (by simp [go_sem])).mono ?_
    rintro r w1 (⟨rfl, l, v, hd, hc, sv, hg⟩ | ⟨q, rfl, hd, hb⟩)
    · obtain ⟨a1, a2, a3, a4, a5, a6⟩ := afterMade w w1 _ hg
      refine ⟨by simpa using a1, Or.inl ⟨rfl, l, v, hd, hc, ?_, a2, ⟨.int .i64 0, .int .i64 0, a3, a4⟩, a5, a6⟩⟩
      exact sv.monoC fun _ hk => hk.more (by simp) (fun _ ht => ht)
    · have hg2 : World.grownBy _ w1 (some (w.heap.size + 2)) := ⟨hb.os, hb.tape, hb.output, hb.size, fun k hk _ => hb.block k hk⟩
      obtain ⟨a1, a2, a3, a4, a5, a6⟩ := afterMade w w1 _ hg2
      refine ⟨by simpa using a1, Or.inr ⟨1, q, rfl, rfl, hd, ?_, a2, ⟨.int .i64 0, .int .i64 0, a3, a4⟩, a5, a6⟩⟩
      exact (hb.cell (p := ⟨w.heap.size + 2, 0, none⟩) (by simp)).trans (by simp [go_sem])
  rintro r w2 ⟨w1, hg, hr⟩
  have hz : (((w.alloc (.cells #[.func (.func 47) #[] #[.pointer (some ⟨Ps, 0, none⟩)]] 58)).alloc (.cells #[.int .i64 0, .int .i64 0] 29)).alloc (.cells #[.slice none 0 0] 22)).heap.size = w.heap.size + 3 := by simp
  rw [hz] at hg
  clear hB0 hB1 hz
  rcases hr with ⟨rfl, l, v, hd, hc, sv, hB, ⟨x, y, hx, hy⟩, hfz, hsz⟩ | ⟨e, p, rfl, he1, hd, hc, hB, ⟨x, y, hx, hy⟩, hfz, hsz⟩
  · have c4 : w2.cell? ⟨w.heap.size + 1 + 1, 0, none⟩ = some v := hg.cell hc (by simp)
    have c30 : w2.cell? ⟨w.heap.size + 1, 0, none⟩ = some x := hg.cell hx (by simp)
    have c31 : w2.cell? ⟨w.heap.size + 1, 1, none⟩ = some y := hg.cell hy (by simp)
    have z3 : ∀ j, w2.frozen? ⟨w.heap.size + 1, j, none⟩ = false := fun j => (World.frozen?_of_block (a := ⟨w.heap.size + 1, j, none⟩) (hg.block (w.heap.size + 1) (by omega) (by simp))).trans (hfz j)
    have hsz2 : w.heap.size + 4 ≤ w2.heap.size := Nat.le_trans hsz hg.size
    have hlt1 : w.heap.size + 1 < w2.heap.size := by omega
    have hlt2 : w.heap.size + 1 + 1 < w2.heap.size := by omega
    have HD := mkHid hd
    have hB2 : Below w.heap.size w w2 := below_of_grown hB hg (by omega)
    have SV := mkHid (sv.stpC (Stp.grown hg (by omega)))
    obtain ⟨a, c, rfl, -⟩ := sv
    clear hd hc hx hy hfz hg hB
    go_wp2_with fail
    go_region
    all_goals
      go_wp2
      obtain ⟨hg, q0, q1⟩ := fault_world w2 (w.heap.size + 1) 0 0 (.cells #[.int .i64 0, .int .i64 0] 29) c30 c31
      have hB3 := below_of_grown hB2 hg (by omega)
      have SV3 := mkHid ((SV.out.stpC (Stp.grown hg (by omega))).monoC fun _ hk => hk.more (B' := w.heap.size) (by omega) (fun _ ht => ht))
      generalize ((w2.setCell ⟨w.heap.size + 1, 0, none⟩ (.int .i64 0)).setCell ⟨w.heap.size + 1, 1, none⟩ (.int .i64 0)).alloc (.cells #[.int .i64 0, .int .i64 0] 29) = W9 at *
      exact bodyPost_ret (v := .tuple #[_, .agg #[.int .i64 0, .int .i64 0]]) (by simp [results, Tryz.results46, go_sem, q0, q1]) rfl ⟨hB3.drew, Or.inl ⟨l, _, HD.out, rfl, SV3.out⟩⟩
  · subst he1
    have c4 : w2.cell? ⟨w.heap.size + 1 + 1, 0, none⟩ = some (.slice none 0 0) := hg.cell hc (by simp)
    have c30 : w2.cell? ⟨w.heap.size + 1, 0, none⟩ = some x := hg.cell hx (by simp)
    have c31 : w2.cell? ⟨w.heap.size + 1, 1, none⟩ = some y := hg.cell hy (by simp)
    have z3 : ∀ j, w2.frozen? ⟨w.heap.size + 1, j, none⟩ = false := fun j => (World.frozen?_of_block (a := ⟨w.heap.size + 1, j, none⟩) (hg.block (w.heap.size + 1) (by omega) (by simp))).trans (hfz j)
    have hsz2 : w.heap.size + 4 ≤ w2.heap.size := Nat.le_trans hsz hg.size
    have hlt1 : w.heap.size + 1 < w2.heap.size := by omega
    have hlt2 : w.heap.size + 1 + 1 < w2.heap.size := by omega
    have HD := mkHid hd
    have hB2 : Below w.heap.size w w2 := below_of_grown hB hg (by omega)
    clear hd hc hx hy hfz hg hB
    go_wp2_with fail
    go_region
    all_goals
      go_wp2
      obtain ⟨hg, q0, q1⟩ := fault_world w2 (w.heap.size + 1) 1 p (.cells #[.int .i64 1, .int .i64 p] 29) c30 c31
      have hB3 := below_of_grown hB2 hg (by omega)
      generalize ((w2.setCell ⟨w.heap.size + 1, 0, none⟩ (.int .i64 1)).setCell ⟨w.heap.size + 1, 1, none⟩ (.int .i64 p)).alloc (.cells #[.int .i64 1, .int .i64 p] 29) = W9 at *
      exact bodyPost_ret (v := .tuple #[.slice none 0 0, .agg #[.int .i64 1, .int .i64 p]]) (by simp [results, Tryz.results46, go_sem, q0, q1]) rfl ⟨hB3.drew, Or.inr ⟨HD.out, _, rfl⟩⟩

theorem SL.all {M : Nat → Prop} {w : World} {v : Value} {l : List ClassD} (h : SL 4 RC M w v l) (hM : ∀ b, M b → b < w.heap.size) : SL 4 RC (· < w.heap.size) w v l := h.monoC hM

theorem readRes_long {s : ByteArray} (h : 20000 < s.size) : readRes s = ([], 2) := by rw [readRes, if_pos h]
theorem readRes_none {s : ByteArray} (h : ¬ 20000 < s.size) (h2 : pImage s = none) : readRes s = ([], 1) := by rw [readRes, if_neg h, h2]
theorem readRes_bad {s : ByteArray} {l : List ClassD} (h : ¬ 20000 < s.size) (h2 : pImage s = some l) (h3 : checkL l ≠ 0) : readRes s = ([], 1) := by
  rw [readRes, if_neg h, h2]
  show (if checkL l = 0 then _ else _) = _
  rw [if_neg h3]
theorem readRes_ok {s : ByteArray} {l : List ClassD} (h : ¬ 20000 < s.size) (h2 : pImage s = some l) (h3 : checkL l = 0) : readRes s = (l, 0) := by
  rw [readRes, if_neg h, h2]
  show (if checkL l = 0 then _ else _) = _
  rw [if_pos h3]

theorem SL_nil {M : Nat → Prop} {w : World} : SL 4 RC M w (.slice none 0 0) [] := ⟨none, 0, rfl, Nat.le_refl _, Nat.zero_le _, fun k hk => by cases hk⟩

set_option maxRecDepth 100000 in
set_option maxHeartbeats 2000000 in
theorem ReadN_any (w : World) (s : ByteArray) (hs : s.size ≤ maxLen) :
    Calls Tryz.prog 12 #[.string s] w fun r w' => Below w.heap.size w w' ∧ ∃ v, r = .returned (.tuple #[v, .int .i64 (readRes s).2]) ∧ SL 4 RC (NF w.heap.size w') w' v (readRes s).1 := by
  have hmf : ∀ (fn : Fn) (first cap : Array Value) (w : World), (Instr.makeFunc fn first cap).run Tryz.prog w = .ok (.func fn first cap) w := fun _ _ _ _ => rfl
  unfold maxLen at hs
  have hB0 := (Below.refl w.heap.size w).alloc (Nat.le_refl _) (.cells #[.string s] 9)
  by_cases hlong : 20000 < s.size
  · have h1 : (20000 : Int) < s.size := by omega
    have HR := mkHid (readRes_long hlong)
    have HB0 := mkHid hB0
    clear hlong hB0
    go_enter Tryz.func12, Tryz.ntmps12
    go_wp2_with fail
    go_ret2
    exact ⟨HB0.out, _, by rw [HR.out]; rfl, by rw [HR.out]; exact SL_nil⟩
  have h1 : ¬ (20000 : Int) < s.size := by omega
  have HB0 := mkHid hB0
  clear hB0
  go_enter Tryz.func12, Tryz.ntmps12
  go_wp2_with fail
  refine (Made_any _ s w.heap.size (by omega) (by simp [go_sem])).mono ?_
  rintro r w1 ⟨hb1, ⟨l, v, hp, rfl, sv⟩ | ⟨hp, q, rfl⟩⟩
  · have hB1 := HB0.out.trans (hb1.mono (by simp))
    have hs1 := hB1.size
    have SN : Hid (SL 4 RC (NF w.heap.size w1) w1 v l) := sv.monoC (fun _ hk => hk.nf.more (by simp))
    have SV := mkHid (SL.all sv (fun _ hk => hk.lt))
    obtain ⟨a, c, rfl, -⟩ := sv
    have hBa : Below w1.heap.size w1 (w1.alloc (.cells #[.int .i64 0, .int .i64 0] 29)) := (Below.refl _ _).alloc (Nat.le_refl _) _
    have HBA := mkHid hBa
    have HP := mkHid hp
    clear hb1 hBa hp
    go_wp2_with fail
    refine (Check_any _ w1.heap.size l _ (SV.out.keptC (Kp.below HBA.out)) (by simp)).mono ?_
    rintro r w2 ⟨rfl, hb2⟩
    have hB2 : Below w1.heap.size w1 w2 := HBA.out.trans (hb2.mono (by simp))
    have HBB := mkHid (hB1.trans (hB2.mono hs1))
    have SV2 : Hid (SL 4 RC (NF w.heap.size w2) w2 (.slice a l.length c) l) := (SN.out.keptC ⟨hB2.size, fun k hk _ => hB2.block k hk.lt⟩).monoC fun k hk => hk.kept (hB2.block k hk.lt)
    clear hb2 hB2 hB1
    by_cases hc : checkL l = 0
    · have hc' : (checkL l != 0) = false := by rw [hc]; rfl
      have HR := mkHid (readRes_ok hlong HP.out hc)
      clear hc
      go_wp2_with fail
      go_ret2
      exact ⟨HBB.out, _, by rw [HR.out]; rfl, by rw [HR.out]; exact SV2.out⟩
    · have hc' : (checkL l != 0) = true := by rw [bne_iff_ne]; exact hc
      have HR := mkHid (readRes_bad hlong HP.out hc)
      clear hc
      go_wp2_with fail
      go_ret2
      exact ⟨HBB.out, _, by rw [HR.out]; rfl, by rw [HR.out]; exact SL_nil⟩
  · have hB1 := HB0.out.trans (hb1.mono (by simp))
    have HR := mkHid (readRes_none hlong hp)
    have HBB := mkHid (hB1.alloc hB1.size (.cells #[.int .i64 1, .int .i64 q] 29))
    clear hb1 hp hB1
    go_wp2_with fail
    go_ret2
    exact ⟨HBB.out, _, by rw [HR.out]; rfl, by rw [HR.out]; exact SL_nil⟩
theorem Read_any (w : World) (s : ByteArray) (hs : s.size ≤ maxLen) :
    Calls Tryz.prog 12 #[.string s] w fun r w' => Below w.heap.size w w' ∧ ∃ v, r = .returned (.tuple #[v, .int .i64 (readRes s).2]) ∧ SL 4 RC (· < w'.heap.size) w' v (readRes s).1 :=
  (ReadN_any w s hs).mono fun _ _ ⟨hb, v, h1, h2⟩ => ⟨hb, v, h1, h2.monoC fun _ h => h.lt⟩
end Go.Proofs.YtaekpdcnnkmahaaGreatDoor
