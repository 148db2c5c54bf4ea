/- The contracts of the reader's method on methods, and of what reads lists of them. -/
import Derived.Test.YtaekpdcnnkmahaaGreatDoorJRdTextRdAll
import Derived.Deep.RegionWith
import Derived.Deep.DeepCutAuto
namespace Go.Proofs.YtaekpdcnnkmahaaGreatDoor
set_option maxRecDepth 100000
open Go.RowKit

theorem Stp.at {B : Nat} {T : List Nat} {w w' : World} {k t : Nat} {c : Array Value} {fr : Nat × Nat} (hk : w.heap[k]? = some (.cells c t fr)) (ht : t ∉ T) (hs : w.heap.size ≤ w'.heap.size) (hb : ∀ i, i ≠ k → w'.heap[i]? = w.heap[i]?) : Stp B T w w' :=
  ⟨hs, fun i hi => hb i (fun e => by
    obtain ⟨_, c', t', fr', h2, h3⟩ := hi
    rw [e, hk] at h2
    cases h2
    exact ht h3.1)⟩
theorem RdOut.isNone {α : Type} {w w' : World} {b : Nat} {s : ByteArray} {res : Option (α × Nat)} {E : α → Ending → Prop} {r : Ending} (h : RdOut w w' b s res E r) (e : res = none) : w.grownBy w' (some b) ∧ ∃ q, r = .panicked [wrongV 1 q] := by
  obtain ⟨hg, ⟨_, h⟩ | ⟨x, p', h, _⟩⟩ := h
  · exact ⟨hg, h⟩
  · rw [e] at h
    cases h
theorem RdOut.isSome {α : Type} {w w' : World} {b : Nat} {s : ByteArray} {res : Option (α × Nat)} {E : α → Ending → Prop} {r : Ending} {x : α} {p' : Nat} (h : RdOut w w' b s res E r) (e : res = some (x, p')) : w.grownBy w' (some b) ∧ E x r ∧ Rd w' b s p' ∧ p' ≤ s.size := by
  obtain ⟨hg, ⟨h, _⟩ | ⟨x', p'', h, hE, hr, hp⟩⟩ := h
  · rw [e] at h
    cases h
  · rw [e] at h
    cases h
    exact ⟨hg, hE, hr, hp⟩
theorem grown_undrew {W W' : World} {b : Nat} (h : W.drew.grownBy W' (some b)) : W.grownBy W' (some b) := ⟨h.os, h.tape, h.output, h.size, h.block⟩
theorem Rd.drew {w : World} {b : Nat} {s : ByteArray} {p : Nat} (h : Rd w b s p) : Rd w.drew b s p := ⟨h.text, h.at_, h.fz⟩
theorem pNumber_le {s : ByteArray} {p n q : Nat} (h : pNumber s p = some (n, q)) : n ≤ 100000 := by
  unfold pNumber at h
  split at h
  · cases h
    have := bt_lt s p
    have := bt_lt s (p + 1)
    omega
  · cases h
theorem pMeth_size {s : ByteArray} {p q : Nat} {x : MethD} (hs : s.size ≤ 20000) (h : pMeth s p = some (x, q)) : x.name.size ≤ maxLen ∧ x.ret.cls.size ≤ maxLen ∧ x.code.size ≤ maxLen := by
  rw [pMeth, Option.bind_eq_some_iff] at h
  obtain ⟨a1, h1, h⟩ := h
  rw [Option.bind_eq_some_iff] at h
  obtain ⟨a2, h2, h⟩ := h
  rw [Option.bind_eq_some_iff] at h
  obtain ⟨a3, h3, h⟩ := h
  rw [Option.bind_eq_some_iff] at h
  obtain ⟨a4, h4, h⟩ := h
  rw [Option.bind_eq_some_iff] at h
  obtain ⟨a5, h5, h⟩ := h
  rw [Option.bind_eq_some_iff] at h
  obtain ⟨a6, h6, h⟩ := h
  rw [Option.bind_eq_some_iff] at h
  obtain ⟨a7, h7, h⟩ := h
  rw [Option.bind_eq_some_iff] at h
  obtain ⟨a8, h8, h⟩ := h
  rw [Option.bind_eq_some_iff] at h
  obtain ⟨a9, h9, h⟩ := h
  cases h
  exact ⟨pText_size hs h1, pKind_size hs h4, pBytes_size hs h8⟩

set_option maxHeartbeats 8000000 in
theorem method_r (w : World) (b : Nat) (s : ByteArray) (p : Nat) (h : Rd w b s p) (hp : p ≤ s.size) (hs : s.size ≤ 20000) :
    Calls Tryz.prog 109 #[.pointer (some ⟨b, 0, none⟩)] w fun r w' => RdOut w w' b s (pMeth s p) (fun x r => ∃ va vh, r = .returned (.agg #[.string x.name, .bool x.static, va, .int .i64 x.ret.kind, .string x.ret.cls, .int .i64 x.stack, .int .i64 x.locals, .string x.code, vh]) ∧ SL 2 RK (MT w.heap.size [51, 79] w') w' va x.args ∧ SL 4 RH (MT w.heap.size [51, 79] w') w' vh x.hands) r := by
  have hmf : ∀ (fn : Fn) (first cap : Array Value) (w : World), (Instr.makeFunc fn first cap).run Tryz.prog w = .ok (.func fn first cap) w := fun _ _ _ _ => rfl
  have hb := h.lt
  go_enter Tryz.func109, Tryz.ntmps109
  go_wp2_with fail
  have L0 : Loc w ((w.alloc (.cells #[.string ⟨#[]⟩, .bool false, .slice none 0 0, .int .i64 0, .string ⟨#[]⟩, .int .i64 0, .int .i64 0, .string ⟨#[]⟩, .slice none 0 0] 76)).alloc (.cells #[.string ⟨#[]⟩, .bool false, .slice none 0 0, .int .i64 0, .string ⟨#[]⟩, .int .i64 0, .int .i64 0, .string ⟨#[]⟩, .slice none 0 0] 76)) b 76 #[.string ⟨#[]⟩, .bool false, .slice none 0 0, .int .i64 0, .string ⟨#[]⟩, .int .i64 0, .int .i64 0, .string ⟨#[]⟩, .slice none 0 0] #[.string ⟨#[]⟩, .bool false, .slice none 0 0, .int .i64 0, .string ⟨#[]⟩, .int .i64 0, .int .i64 0, .string ⟨#[]⟩, .slice none 0 0] := Loc.start _ _
  have hr0 : Rd ((w.alloc (.cells #[.string ⟨#[]⟩, .bool false, .slice none 0 0, .int .i64 0, .string ⟨#[]⟩, .int .i64 0, .int .i64 0, .string ⟨#[]⟩, .slice none 0 0] 76)).alloc (.cells #[.string ⟨#[]⟩, .bool false, .slice none 0 0, .int .i64 0, .string ⟨#[]⟩, .int .i64 0, .int .i64 0, .string ⟨#[]⟩, .slice none 0 0] 76)) b s p := (h.alloc _).alloc _
  generalize (w.alloc (.cells #[.string ⟨#[]⟩, .bool false, .slice none 0 0, .int .i64 0, .string ⟨#[]⟩, .int .i64 0, .int .i64 0, .string ⟨#[]⟩, .slice none 0 0] 76)).alloc (.cells #[.string ⟨#[]⟩, .bool false, .slice none 0 0, .int .i64 0, .string ⟨#[]⟩, .int .i64 0, .int .i64 0, .string ⟨#[]⟩, .slice none 0 0] 76) = W0 at *
  refine (text_r _ b s p hr0 hp hs).mono ?_
  rintro r w1 ⟨hg, ⟨hn, q, rfl⟩ | ⟨x1, p1, hn, rfl, hr, hp1⟩⟩
  · exact ⟨rfl, grown_trans L0.grown hg, Or.inl ⟨by simp only [pMeth, hn, Option.bind_none], q, rfl⟩⟩
  have HN1 := mkHid hn
  have L0b := L0.call hg hb
  have hlt := L0b.lt
  have y0 := L0b.cell 0 (x := .string ⟨#[]⟩) rfl
  have z0 := L0b.frozen 0
  have L1 : Loc w (w1.setCell ⟨w.heap.size + 1, 0, none⟩ (.string x1)) b 76 #[.string ⟨#[]⟩, .bool false, .slice none 0 0, .int .i64 0, .string ⟨#[]⟩, .int .i64 0, .int .i64 0, .string ⟨#[]⟩, .slice none 0 0] #[.string x1, .bool false, .slice none 0 0, .int .i64 0, .string ⟨#[]⟩, .int .i64 0, .int .i64 0, .string ⟨#[]⟩, .slice none 0 0] := (L0b.set 0 (.string x1))
  have hr1 := (hr.locSet hb (w.heap.size + 1) 0 (by omega) (.string x1))
  have HL := mkHid L1
  have HRR := mkHid hr1
  clear hn hg hr0 L0 L0b hr L1 hr1 
  go_wp2_with fail
  generalize (w1.setCell ⟨w.heap.size + 1, 0, none⟩ (.string x1)) = W1 at *
  have L1 := HL.out
  have hr1 := HRR.out
  clear y0 z0 hlt HL HRR
  refine (flag_r _ b s p1 hr1 hp1 hs).mono ?_
  rintro r w1 ⟨hg, ⟨hn, q, rfl⟩ | ⟨x2, p2, hn, rfl, hr, hp2⟩⟩
  · exact ⟨rfl, grown_trans L1.grown hg, Or.inl ⟨by simp only [pMeth, HN1.out, hn, Option.bind_some, Option.bind_none], q, rfl⟩⟩
  have HN2 := mkHid hn
  have L1b := L1.call hg hb
  have hlt := L1b.lt
  have y1 := L1b.cell 1 (x := .bool false) rfl
  have z1 := L1b.frozen 1
  have L2 : Loc w (w1.setCell ⟨w.heap.size + 1, 1, none⟩ (.bool x2)) b 76 #[.string ⟨#[]⟩, .bool false, .slice none 0 0, .int .i64 0, .string ⟨#[]⟩, .int .i64 0, .int .i64 0, .string ⟨#[]⟩, .slice none 0 0] #[.string x1, .bool x2, .slice none 0 0, .int .i64 0, .string ⟨#[]⟩, .int .i64 0, .int .i64 0, .string ⟨#[]⟩, .slice none 0 0] := (L1b.set 1 (.bool x2))
  have hr2 := (hr.locSet hb (w.heap.size + 1) 1 (by omega) (.bool x2))
  have HL := mkHid L2
  have HRR := mkHid hr2
  clear hn hg hr1 L1 L1b hr L2 hr2 
  go_wp2_with fail
  generalize (w1.setCell ⟨w.heap.size + 1, 1, none⟩ (.bool x2)) = W2 at *
  have L2 := HL.out
  have hr2 := HRR.out
  clear y1 z1 hlt HL HRR
  refine (readCountedK _ b s p2 hr2 hp2 hs).mono ?_
  rintro r w1 ⟨hg, ⟨hn, q, rfl⟩ | ⟨x3, p3, hn, ⟨v3, rfl, s3⟩, hr, hp3⟩⟩
  · exact ⟨rfl, grown_trans L2.grown hg, Or.inl ⟨by simp only [pMeth, HN1.out, HN2.out, hn, Option.bind_some, Option.bind_none], q, rfl⟩⟩
  have HN3 := mkHid hn
  have L2b := L2.call hg hb
  have hlt := L2b.lt
  have SA : Hid (SL 2 RK (MT w.heap.size [51, 79] w1) w1 v3 x3) := s3.monoK fun _ hk => hk.more L2.grown.size (by decide)
  obtain ⟨a3, c3, rfl, -⟩ := s3
  have y2 := L2b.cell 2 (x := .slice none 0 0) rfl
  have z2 := L2b.frozen 2
  have L3 : Loc w (w1.setCell ⟨w.heap.size + 1, 2, none⟩ (.slice a3 x3.length c3)) b 76 #[.string ⟨#[]⟩, .bool false, .slice none 0 0, .int .i64 0, .string ⟨#[]⟩, .int .i64 0, .int .i64 0, .string ⟨#[]⟩, .slice none 0 0] #[.string x1, .bool x2, .slice a3 x3.length c3, .int .i64 0, .string ⟨#[]⟩, .int .i64 0, .int .i64 0, .string ⟨#[]⟩, .slice none 0 0] := (L2b.set 2 (.slice a3 x3.length c3))
  have hr3 := (hr.locSet hb (w.heap.size + 1) 2 (by omega) (.slice a3 x3.length c3))
  have SAn := mkHid (SA.out.stpK (Stp.set L2b.own (by decide) 2 (.slice a3 x3.length c3)))
  have HL := mkHid L3
  have HRR := mkHid hr3
  clear hn hg hr2 L2 L2b hr L3 hr3 SA
  go_wp2_with fail
  generalize (w1.setCell ⟨w.heap.size + 1, 2, none⟩ (.slice a3 x3.length c3)) = W3 at *
  have L3 := HL.out
  have hr3 := HRR.out
  clear y2 z2 hlt HL HRR
  have SA := SAn
  clear SAn
  refine (kind_r _ b s p3 hr3 hp3 hs).mono ?_
  rintro r w1 ⟨hg, ⟨hn, q, rfl⟩ | ⟨x4, p4, hn, rfl, hr, hp4⟩⟩
  · exact ⟨rfl, grown_trans L3.grown hg, Or.inl ⟨by simp only [pMeth, HN1.out, HN2.out, HN3.out, hn, Option.bind_some, Option.bind_none], q, rfl⟩⟩
  have HN4 := mkHid hn
  have L3b := L3.call hg hb
  have hlt := L3b.lt
  have SAb := mkHid (SA.out.stpK (Stp.grown hg hb))
  have y3 := L3b.cell 3 (x := .int .i64 0) rfl
  have z3 := L3b.frozen 3
  have y4 := L3b.cell 4 (x := .string ⟨#[]⟩) rfl
  have z4 := L3b.frozen 4
  have L4 : Loc w ((w1.setCell ⟨w.heap.size + 1, 3, none⟩ (.int .i64 x4.kind)).setCell ⟨w.heap.size + 1, 4, none⟩ (.string x4.cls)) b 76 #[.string ⟨#[]⟩, .bool false, .slice none 0 0, .int .i64 0, .string ⟨#[]⟩, .int .i64 0, .int .i64 0, .string ⟨#[]⟩, .slice none 0 0] #[.string x1, .bool x2, .slice a3 x3.length c3, .int .i64 x4.kind, .string x4.cls, .int .i64 0, .int .i64 0, .string ⟨#[]⟩, .slice none 0 0] := ((L3b.set 3 (.int .i64 x4.kind)).set 4 (.string x4.cls))
  have hr4 := ((hr.locSet hb (w.heap.size + 1) 3 (by omega) (.int .i64 x4.kind)).locSet hb (w.heap.size + 1) 4 (by omega) (.string x4.cls))
  have SAn := mkHid ((SAb.out.stpK (Stp.set L3b.own (by decide) 3 (.int .i64 x4.kind))).stpK (Stp.set (L3b.set 3 (.int .i64 x4.kind)).own (by decide) 4 (.string x4.cls)))
  have HL := mkHid L4
  have HRR := mkHid hr4
  clear hn hg hr3 L3 L3b hr L4 hr4 SA SAb
  go_wp2_with fail
  generalize ((w1.setCell ⟨w.heap.size + 1, 3, none⟩ (.int .i64 x4.kind)).setCell ⟨w.heap.size + 1, 4, none⟩ (.string x4.cls)) = W4 at *
  have L4 := HL.out
  have hr4 := HRR.out
  clear y3 z3 y4 z4 hlt HL HRR
  have SA := SAn
  clear SAn
  refine (count_r _ b s p4 hr4 hp4 (by unfold maxLen; omega)).mono ?_
  rintro r w1 ⟨hg, ⟨hn, q, rfl⟩ | ⟨x5, p5, hn, rfl, hr, hp5⟩⟩
  · exact ⟨rfl, grown_trans L4.grown hg, Or.inl ⟨by simp only [pMeth, HN1.out, HN2.out, HN3.out, HN4.out, hn, Option.bind_some, Option.bind_none], q, rfl⟩⟩
  have HN5 := mkHid hn
  have L4b := L4.call hg hb
  have hlt := L4b.lt
  have SAb := mkHid (SA.out.stpK (Stp.grown hg hb))
  have y5 := L4b.cell 5 (x := .int .i64 0) rfl
  have z5 := L4b.frozen 5
  have L5 : Loc w (w1.setCell ⟨w.heap.size + 1, 5, none⟩ (.int .i64 x5)) b 76 #[.string ⟨#[]⟩, .bool false, .slice none 0 0, .int .i64 0, .string ⟨#[]⟩, .int .i64 0, .int .i64 0, .string ⟨#[]⟩, .slice none 0 0] #[.string x1, .bool x2, .slice a3 x3.length c3, .int .i64 x4.kind, .string x4.cls, .int .i64 x5, .int .i64 0, .string ⟨#[]⟩, .slice none 0 0] := (L4b.set 5 (.int .i64 x5))
  have hr5 := (hr.locSet hb (w.heap.size + 1) 5 (by omega) (.int .i64 x5))
  have SAn := mkHid (SAb.out.stpK (Stp.set L4b.own (by decide) 5 (.int .i64 x5)))
  have HL := mkHid L5
  have HRR := mkHid hr5
  clear hn hg hr4 L4 L4b hr L5 hr5 SA SAb
  go_wp2_with fail
  generalize (w1.setCell ⟨w.heap.size + 1, 5, none⟩ (.int .i64 x5)) = W5 at *
  have L5 := HL.out
  have hr5 := HRR.out
  clear y5 z5 hlt HL HRR
  have SA := SAn
  clear SAn
  refine (count_r _ b s p5 hr5 hp5 (by unfold maxLen; omega)).mono ?_
  rintro r w1 ⟨hg, ⟨hn, q, rfl⟩ | ⟨x6, p6, hn, rfl, hr, hp6⟩⟩
  · exact ⟨rfl, grown_trans L5.grown hg, Or.inl ⟨by simp only [pMeth, HN1.out, HN2.out, HN3.out, HN4.out, HN5.out, hn, Option.bind_some, Option.bind_none], q, rfl⟩⟩
  have HN6 := mkHid hn
  have L5b := L5.call hg hb
  have hlt := L5b.lt
  have SAb := mkHid (SA.out.stpK (Stp.grown hg hb))
  have y6 := L5b.cell 6 (x := .int .i64 0) rfl
  have z6 := L5b.frozen 6
  have L6 : Loc w (w1.setCell ⟨w.heap.size + 1, 6, none⟩ (.int .i64 x6)) b 76 #[.string ⟨#[]⟩, .bool false, .slice none 0 0, .int .i64 0, .string ⟨#[]⟩, .int .i64 0, .int .i64 0, .string ⟨#[]⟩, .slice none 0 0] #[.string x1, .bool x2, .slice a3 x3.length c3, .int .i64 x4.kind, .string x4.cls, .int .i64 x5, .int .i64 x6, .string ⟨#[]⟩, .slice none 0 0] := (L5b.set 6 (.int .i64 x6))
  have hr6 := (hr.locSet hb (w.heap.size + 1) 6 (by omega) (.int .i64 x6))
  have SAn := mkHid (SAb.out.stpK (Stp.set L5b.own (by decide) 6 (.int .i64 x6)))
  have HL := mkHid L6
  have HRR := mkHid hr6
  clear hn hg hr5 L5 L5b hr L6 hr6 SA SAb
  go_wp2_with fail
  generalize (w1.setCell ⟨w.heap.size + 1, 6, none⟩ (.int .i64 x6)) = W6 at *
  have L6 := HL.out
  have hr6 := HRR.out
  clear y6 z6 hlt HL HRR
  have SA := SAn
  clear SAn
  have hltw := L6.lt
  cases hN : pNumber s p6 with
  | none =>
    have HNN := mkHid hN
    have HL := mkHid L6
    have HRR := mkHid hr6
    clear L6 hr6 hN
    refine wp_region_any (by kernel_rfl) ?_
    try (change wpAny _ _ _ _ _ _ _ (World.drew _))
    refine wpAny_take (i := 0) (v := .pointer (some ⟨b, 0, none⟩)) rfl (by kernel_rfl) (by kernel_rfl) (by kernel_rfl) (fun _ _ _ h => h) (Or.inl ⟨by rfl, ?_⟩) ?_
    · intro w
      go_simp
    refine wpAny_take (i := 1) (v := .pointer (some ⟨b, 0, none⟩)) rfl (by kernel_rfl) (by kernel_rfl) (by kernel_rfl) (fun _ _ _ h => h) (Or.inl ⟨by rfl, ?_⟩) ?_
    · intro w
      go_simp
    refine wpAny_take (i := 2) (v := .pointer (some ⟨b, 0, none⟩)) rfl (by kernel_rfl) (by kernel_rfl) (by kernel_rfl) (fun _ _ _ h => h) (Or.inl ⟨by rfl, ?_⟩) ?_
    · intro w
      go_simp
    refine wpAny_take (i := 3) (v := .pointer (some ⟨b, 0, none⟩)) rfl (by kernel_rfl) (by kernel_rfl) (by kernel_rfl) (fun _ _ _ h => h) (Or.inl ⟨by rfl, ?_⟩) ?_
    · intro w
      go_simp
    refine wpAny_take (i := 4) (v := .pointer (some ⟨b, 0, none⟩)) rfl (by kernel_rfl) (by kernel_rfl) (by kernel_rfl) (fun _ _ _ h => h) (Or.inl ⟨by rfl, ?_⟩) ?_
    · intro w
      go_simp
    refine wpAny_take (i := 5) (v := .pointer (some ⟨b, 0, none⟩)) rfl (by kernel_rfl) (by kernel_rfl) (by kernel_rfl) (fun _ _ _ h => h) (Or.inl ⟨by rfl, ?_⟩) ?_
    · intro w
      go_simp
    refine wpAny_ready (rs := [6]) (by kernel_rfl) (by simp) ?_
    refine AllReady.cons rfl (fun K hK => ?_) AllReady.nil
    go_simp
    go_wp2_with fail
    refine (number_r _ b s p6 HRR.out.drew hp6 (by unfold maxLen; omega)).mono ?_
    rintro r w7 hout7
    obtain ⟨hg7, q7, rfl⟩ := hout7.isNone HNN.out
    · exact ⟨rfl, grown_trans HL.out.grown (grown_undrew hg7), Or.inl ⟨by simp only [pMeth, HN1.out, HN2.out, HN3.out, HN4.out, HN5.out, HN6.out, HNN.out, Option.bind_some, Option.bind_none], q7, rfl⟩⟩
  | some np =>
    obtain ⟨x7, p7⟩ := np
    have HN7 := mkHid hN
    have hx7 := pNumber_le hN
    clear hN
    cases hB : pBytes s x7 p7 with
    | none =>
      have HNN := mkHid hB
      have HL := mkHid L6
      have HRR := mkHid hr6
      clear L6 hr6 hB
      refine wp_region_any (by kernel_rfl) ?_
      try (change wpAny _ _ _ _ _ _ _ (World.drew _))
      refine wpAny_take (i := 0) (v := .pointer (some ⟨b, 0, none⟩)) rfl (by kernel_rfl) (by kernel_rfl) (by kernel_rfl) (fun _ _ _ h => h) (Or.inl ⟨by rfl, ?_⟩) ?_
      · intro w
        go_simp
      refine wpAny_take (i := 1) (v := .pointer (some ⟨b, 0, none⟩)) rfl (by kernel_rfl) (by kernel_rfl) (by kernel_rfl) (fun _ _ _ h => h) (Or.inl ⟨by rfl, ?_⟩) ?_
      · intro w
        go_simp
      refine wpAny_take (i := 2) (v := .pointer (some ⟨b, 0, none⟩)) rfl (by kernel_rfl) (by kernel_rfl) (by kernel_rfl) (fun _ _ _ h => h) (Or.inl ⟨by rfl, ?_⟩) ?_
      · intro w
        go_simp
      refine wpAny_take (i := 3) (v := .pointer (some ⟨b, 0, none⟩)) rfl (by kernel_rfl) (by kernel_rfl) (by kernel_rfl) (fun _ _ _ h => h) (Or.inl ⟨by rfl, ?_⟩) ?_
      · intro w
        go_simp
      refine wpAny_take (i := 4) (v := .pointer (some ⟨b, 0, none⟩)) rfl (by kernel_rfl) (by kernel_rfl) (by kernel_rfl) (fun _ _ _ h => h) (Or.inl ⟨by rfl, ?_⟩) ?_
      · intro w
        go_simp
      refine wpAny_take (i := 5) (v := .pointer (some ⟨b, 0, none⟩)) rfl (by kernel_rfl) (by kernel_rfl) (by kernel_rfl) (fun _ _ _ h => h) (Or.inl ⟨by rfl, ?_⟩) ?_
      · intro w
        go_simp
      refine wpAny_ready (rs := [6]) (by kernel_rfl) (by simp) ?_
      refine AllReady.cons rfl (fun K hK => ?_) AllReady.nil
      go_simp
      go_wp2_with fail
      refine (number_r _ b s p6 HRR.out.drew hp6 (by unfold maxLen; omega)).mono ?_
      rintro r w7 hout7
      obtain ⟨hg7, rfl, hr7, hp7⟩ := hout7.isSome HN7.out
      go_simp
      refine hK _ _ ?_
      clear hK K
      refine wpAny_ready (rs := [7]) (by kernel_rfl) (by simp) ?_
      refine AllReady.cons rfl (fun K hK => ?_) AllReady.nil
      go_simp
      go_wp2_with fail
      refine (bytes_r _ b s p7 x7 hr7 hp7 hs hx7).mono ?_
      rintro r w8 hout8
      obtain ⟨hg8, q8, rfl⟩ := hout8.isNone HNN.out
      · exact ⟨rfl, grown_trans HL.out.grown (grown_trans (grown_undrew hg7) hg8), Or.inl ⟨by simp only [pMeth, HN1.out, HN2.out, HN3.out, HN4.out, HN5.out, HN6.out, HN7.out, HNN.out, Option.bind_some, Option.bind_none], q8, rfl⟩⟩
    | some np2 =>
      obtain ⟨x8, p8⟩ := np2
      have HN8 := mkHid hB
      clear hB
      have HL := mkHid L6
      have HRR := mkHid hr6
      clear L6 hr6
      go_cut [] (fun W => Loc w W b 76 #[.string ⟨#[]⟩, .bool false, .slice none 0 0, .int .i64 0, .string ⟨#[]⟩, .int .i64 0, .int .i64 0, .string ⟨#[]⟩, .slice none 0 0] #[.string x1, .bool x2, .slice a3 x3.length c3, .int .i64 x4.kind, .string x4.cls, .int .i64 x5, .int .i64 x6, .string x8, .slice none 0 0] ∧ Rd W b s p8 ∧ p8 ≤ s.size ∧ SL 2 RK (MT w.heap.size [51, 79] W) W (.slice a3 x3.length c3) x3)
      case first =>
        go_region_with (first
          | (go_at_call 113; refine (number_r _ b s p6 HRR.out.drew hp6 (by unfold maxLen; omega)).mono ?_; rintro r w7 hout7; obtain ⟨hg7, rfl, hr7, hp7⟩ := hout7.isSome HN7.out)
          | (go_at_call 153; refine (bytes_r _ b s p7 x7 hr7 hp7 hs hx7).mono ?_; rintro r w8 hout8; obtain ⟨hg8, rfl, hr8, hp8⟩ := hout8.isSome HN8.out; have L8 := ((HL.out.call (grown_undrew hg7) hb).call hg8 hb); have hlt8 := L8.lt; have y7 := L8.cell 7 (x := .string ⟨#[]⟩) rfl; have z7 := L8.frozen 7))
        all_goals
          go_wp2_with fail
          go_meet
          refine ⟨L8.set 7 (.string x8), hr8.locSet hb (w.heap.size + 1) 7 (by omega) _, hp8, ?_⟩
          exact ((SA.out.stpK (Stp.grown (grown_undrew hg7) hb)).stpK (Stp.grown hg8 hb)).stpK (Stp.set L8.own (by decide) 7 _)
      case rest =>
        obtain ⟨L8, hr8, hp8, sa⟩ := hcut
        have SA8 := mkHid sa
        clear HL HRR SA sa
        have hltc := L8.lt
        go_wp2_with fail
        clear hltc
        refine (readCountedH _ b s p8 hr8 hp8 hs).mono ?_
        rintro r w1 ⟨hg, ⟨hn, q, rfl⟩ | ⟨x9, p9, hn, ⟨v9, rfl, s9⟩, hr, hp9⟩⟩
        · exact ⟨rfl, grown_trans L8.grown hg, Or.inl ⟨by simp only [pMeth, HN1.out, HN2.out, HN3.out, HN4.out, HN5.out, HN6.out, HN7.out, HN8.out, hn, Option.bind_some, Option.bind_none], q, rfl⟩⟩
        have HN9 := mkHid hn
        have L8b := L8.call hg hb
        have SA := mkHid (SA8.out.stpK (Stp.grown hg hb))
        have SH : Hid (SL 4 RH (MT w.heap.size [51, 79] w1) w1 v9 x9) := s9.monoH fun _ hk => hk.more L8.grown.size (by decide)
        obtain ⟨a9, c9, rfl, -⟩ := s9
        clear hn hg hr8 L8 SA8
        have hlt := L8b.lt
        have y0 := L8b.cell 0 (x := .string x1) rfl
        have y1 := L8b.cell 1 (x := .bool x2) rfl
        have y2 := L8b.cell 2 (x := .slice a3 x3.length c3) rfl
        have y3 := L8b.cell 3 (x := .int .i64 x4.kind) rfl
        have y4 := L8b.cell 4 (x := .string x4.cls) rfl
        have y5 := L8b.cell 5 (x := .int .i64 x5) rfl
        have y6 := L8b.cell 6 (x := .int .i64 x6) rfl
        have y7 := L8b.cell 7 (x := .string x8) rfl
        have y8 := L8b.cell 8 (x := .slice none 0 0) rfl
        have f8 := L8b.frozen 8
        have u0 := L8b.cellR 0 (x := .string ⟨#[]⟩) rfl
        have z0 := L8b.frozenR 0
        have u1 := L8b.cellR 1 (x := .bool false) rfl
        have z1 := L8b.frozenR 1
        have u2 := L8b.cellR 2 (x := .slice none 0 0) rfl
        have z2 := L8b.frozenR 2
        have u3 := L8b.cellR 3 (x := .int .i64 0) rfl
        have z3 := L8b.frozenR 3
        have u4 := L8b.cellR 4 (x := .string ⟨#[]⟩) rfl
        have z4 := L8b.frozenR 4
        have u5 := L8b.cellR 5 (x := .int .i64 0) rfl
        have z5 := L8b.frozenR 5
        have u6 := L8b.cellR 6 (x := .int .i64 0) rfl
        have z6 := L8b.frozenR 6
        have u7 := L8b.cellR 7 (x := .string ⟨#[]⟩) rfl
        have z7 := L8b.frozenR 7
        have u8 := L8b.cellR 8 (x := .slice none 0 0) rfl
        have z8 := L8b.frozenR 8
        have HG : Hid (w.grownBy ((((((((((w1.setCell ⟨w.heap.size + 1, 8, none⟩ (.slice a9 x9.length c9)).setCell ⟨w.heap.size, 0, none⟩ (.string x1)).setCell ⟨w.heap.size, 1, none⟩ (.bool x2)).setCell ⟨w.heap.size, 2, none⟩ (.slice a3 x3.length c3)).setCell ⟨w.heap.size, 3, none⟩ (.int .i64 x4.kind)).setCell ⟨w.heap.size, 4, none⟩ (.string x4.cls)).setCell ⟨w.heap.size, 5, none⟩ (.int .i64 x5)).setCell ⟨w.heap.size, 6, none⟩ (.int .i64 x6)).setCell ⟨w.heap.size, 7, none⟩ (.string x8)).setCell ⟨w.heap.size, 8, none⟩ (.slice a9 x9.length c9)) (some b)) := (grown_set (grown_set (grown_set (grown_set (grown_set (grown_set (grown_set (grown_set (grown_set (L8b.set 8 (.slice a9 x9.length c9)).grown ⟨w.heap.size, 0, none⟩ (.string x1) (Or.inr (Nat.le_refl _))) ⟨w.heap.size, 1, none⟩ (.bool x2) (Or.inr (Nat.le_refl _))) ⟨w.heap.size, 2, none⟩ (.slice a3 x3.length c3) (Or.inr (Nat.le_refl _))) ⟨w.heap.size, 3, none⟩ (.int .i64 x4.kind) (Or.inr (Nat.le_refl _))) ⟨w.heap.size, 4, none⟩ (.string x4.cls) (Or.inr (Nat.le_refl _))) ⟨w.heap.size, 5, none⟩ (.int .i64 x5) (Or.inr (Nat.le_refl _))) ⟨w.heap.size, 6, none⟩ (.int .i64 x6) (Or.inr (Nat.le_refl _))) ⟨w.heap.size, 7, none⟩ (.string x8) (Or.inr (Nat.le_refl _))) ⟨w.heap.size, 8, none⟩ (.slice a9 x9.length c9) (Or.inr (Nat.le_refl _)))
        have HR : Hid (Rd ((((((((((w1.setCell ⟨w.heap.size + 1, 8, none⟩ (.slice a9 x9.length c9)).setCell ⟨w.heap.size, 0, none⟩ (.string x1)).setCell ⟨w.heap.size, 1, none⟩ (.bool x2)).setCell ⟨w.heap.size, 2, none⟩ (.slice a3 x3.length c3)).setCell ⟨w.heap.size, 3, none⟩ (.int .i64 x4.kind)).setCell ⟨w.heap.size, 4, none⟩ (.string x4.cls)).setCell ⟨w.heap.size, 5, none⟩ (.int .i64 x5)).setCell ⟨w.heap.size, 6, none⟩ (.int .i64 x6)).setCell ⟨w.heap.size, 7, none⟩ (.string x8)).setCell ⟨w.heap.size, 8, none⟩ (.slice a9 x9.length c9)) b s p9) := ((((((((((hr.locSet hb (w.heap.size + 1) 8 (by omega) (.slice a9 x9.length c9)).locSet hb w.heap.size 0 (Nat.le_refl _) (.string x1)).locSet hb w.heap.size 1 (Nat.le_refl _) (.bool x2)).locSet hb w.heap.size 2 (Nat.le_refl _) (.slice a3 x3.length c3)).locSet hb w.heap.size 3 (Nat.le_refl _) (.int .i64 x4.kind)).locSet hb w.heap.size 4 (Nat.le_refl _) (.string x4.cls)).locSet hb w.heap.size 5 (Nat.le_refl _) (.int .i64 x5)).locSet hb w.heap.size 6 (Nat.le_refl _) (.int .i64 x6)).locSet hb w.heap.size 7 (Nat.le_refl _) (.string x8)).locSet hb w.heap.size 8 (Nat.le_refl _) (.slice a9 x9.length c9))
        have HF : Hid (((((((((((w1.setCell ⟨w.heap.size + 1, 8, none⟩ (.slice a9 x9.length c9)).setCell ⟨w.heap.size, 0, none⟩ (.string x1)).setCell ⟨w.heap.size, 1, none⟩ (.bool x2)).setCell ⟨w.heap.size, 2, none⟩ (.slice a3 x3.length c3)).setCell ⟨w.heap.size, 3, none⟩ (.int .i64 x4.kind)).setCell ⟨w.heap.size, 4, none⟩ (.string x4.cls)).setCell ⟨w.heap.size, 5, none⟩ (.int .i64 x5)).setCell ⟨w.heap.size, 6, none⟩ (.int .i64 x6)).setCell ⟨w.heap.size, 7, none⟩ (.string x8)).setCell ⟨w.heap.size, 8, none⟩ (.slice a9 x9.length c9)).heap[w.heap.size]? = some (.cells #[.string x1, .bool x2, .slice a3 x3.length c3, .int .i64 x4.kind, .string x4.cls, .int .i64 x5, .int .i64 x6, .string x8, .slice a9 x9.length c9] 76 (0, 0))) := (heap_set_own (heap_set_own (heap_set_own (heap_set_own (heap_set_own (heap_set_own (heap_set_own (heap_set_own (heap_set_own (L8b.set 8 (.slice a9 x9.length c9)).res (j := 0) (.string x1)) (j := 1) (.bool x2)) (j := 2) (.slice a3 x3.length c3)) (j := 3) (.int .i64 x4.kind)) (j := 4) (.string x4.cls)) (j := 5) (.int .i64 x5)) (j := 6) (.int .i64 x6)) (j := 7) (.string x8)) (j := 8) (.slice a9 x9.length c9))
        have HX := mkHid (show pMeth s p = some (⟨x1, x2, x3, x4, x5, x6, x8, x9⟩, p9) by simp only [pMeth, HN1.out, HN2.out, HN3.out, HN4.out, HN5.out, HN6.out, HN7.out, HN8.out, HN9.out, Option.bind_some])
        have hst : Stp w.heap.size [51, 79] w1 ((((((((((w1.setCell ⟨w.heap.size + 1, 8, none⟩ (.slice a9 x9.length c9)).setCell ⟨w.heap.size, 0, none⟩ (.string x1)).setCell ⟨w.heap.size, 1, none⟩ (.bool x2)).setCell ⟨w.heap.size, 2, none⟩ (.slice a3 x3.length c3)).setCell ⟨w.heap.size, 3, none⟩ (.int .i64 x4.kind)).setCell ⟨w.heap.size, 4, none⟩ (.string x4.cls)).setCell ⟨w.heap.size, 5, none⟩ (.int .i64 x5)).setCell ⟨w.heap.size, 6, none⟩ (.int .i64 x6)).setCell ⟨w.heap.size, 7, none⟩ (.string x8)).setCell ⟨w.heap.size, 8, none⟩ (.slice a9 x9.length c9)) := (Stp.set L8b.own (by decide) 8 _).trans (Stp.at (L8b.set 8 _).res (by decide) (by simp [World.setCell]) (fun i hi => by repeat rw [Below.heap_setCell _ _ _ _ (by exact hi)]))
        have SAF := mkHid (SA.out.stpK hst)
        have SHF := mkHid (SH.out.stpH hst)
        clear hst SA SH
        clear L8b hr
        go_wp2_with fail
        generalize ((((((((((w1.setCell ⟨w.heap.size + 1, 8, none⟩ (.slice a9 x9.length c9)).setCell ⟨w.heap.size, 0, none⟩ (.string x1)).setCell ⟨w.heap.size, 1, none⟩ (.bool x2)).setCell ⟨w.heap.size, 2, none⟩ (.slice a3 x3.length c3)).setCell ⟨w.heap.size, 3, none⟩ (.int .i64 x4.kind)).setCell ⟨w.heap.size, 4, none⟩ (.string x4.cls)).setCell ⟨w.heap.size, 5, none⟩ (.int .i64 x5)).setCell ⟨w.heap.size, 6, none⟩ (.int .i64 x6)).setCell ⟨w.heap.size, 7, none⟩ (.string x8)).setCell ⟨w.heap.size, 8, none⟩ (.slice a9 x9.length c9)) = W9 at *
        have q0 : W9.cell? ⟨w.heap.size, 0, none⟩ = some (.string x1) := by simp [World.cell?, HF.out]
        have q1 : W9.cell? ⟨w.heap.size, 1, none⟩ = some (.bool x2) := by simp [World.cell?, HF.out]
        have q2 : W9.cell? ⟨w.heap.size, 2, none⟩ = some (.slice a3 x3.length c3) := by simp [World.cell?, HF.out]
        have q3 : W9.cell? ⟨w.heap.size, 3, none⟩ = some (.int .i64 x4.kind) := by simp [World.cell?, HF.out]
        have q4 : W9.cell? ⟨w.heap.size, 4, none⟩ = some (.string x4.cls) := by simp [World.cell?, HF.out]
        have q5 : W9.cell? ⟨w.heap.size, 5, none⟩ = some (.int .i64 x5) := by simp [World.cell?, HF.out]
        have q6 : W9.cell? ⟨w.heap.size, 6, none⟩ = some (.int .i64 x6) := by simp [World.cell?, HF.out]
        have q7 : W9.cell? ⟨w.heap.size, 7, none⟩ = some (.string x8) := by simp [World.cell?, HF.out]
        have q8 : W9.cell? ⟨w.heap.size, 8, none⟩ = some (.slice a9 x9.length c9) := by simp [World.cell?, HF.out]
        exact bodyPost_ret (v := .agg #[.string x1, .bool x2, .slice a3 x3.length c3, .int .i64 x4.kind, .string x4.cls, .int .i64 x5, .int .i64 x6, .string x8, .slice a9 x9.length c9]) (by simp [results, Tryz.results109, go_sem, q0, q1, q2, q3, q4, q5, q6, q7, q8]) rfl ⟨HG.out, Or.inr ⟨⟨x1, x2, x3, x4, x5, x6, x8, x9⟩, p9, HX.out, ⟨_, _, rfl, SAF.out, SHF.out⟩, HR.out, hp9⟩⟩

theorem Tryz.infoMethod : (Tryz.prog.info? 76).map (fun i => (i.zero, i.size, i.bytes)) = some (some (.agg #[.string ⟨#[]⟩, .bool false, .slice none 0 0, .int .i64 0, .string ⟨#[]⟩, .int .i64 0, .int .i64 0, .string ⟨#[]⟩, .slice none 0 0]), 9, 128) := by kernel_rfl
set_option maxHeartbeats 2000000 in
theorem readCountedM (w : World) (b : Nat) (s : ByteArray) (p : Nat) (h : Rd w b s p) (hp : p ≤ s.size) (hs : s.size ≤ 20000) :
    Calls Tryz.prog 108 #[.pointer (some ⟨b, 0, none⟩), .func (.func 109) #[.pointer (some ⟨b, 0, none⟩)] #[]] w fun r w' => RdOut w w' b s (pCounted s (pMeth s) p) (fun l r => ∃ v, r = .returned v ∧ SL 9 RM (MT w.heap.size [51, 79, 76] w') w' v l) r := by
  obtain ⟨i0, hi, hz0, hz1, hz2⟩ := info_parts Tryz.infoMethod
  have hb := h.lt
  go_enter Tryz.func108, Tryz.ntmps108
  go_wp2_with fail
  refine (count_r _ b s p h hp (by unfold maxLen; omega)).mono ?_
  rintro r w1 ⟨hg, ⟨hn, q, rfl⟩ | ⟨N, p1, hn, rfl, hr, hp1⟩⟩
  · exact ⟨rfl, hg, Or.inl ⟨by rw [pCounted, hn]; rfl, q, rfl⟩⟩
  have hN := pCount_lt hn
  have HPC := mkHid (pCounted_some (f := pMeth s) hn)
  clear hn
  go_wp2_with fail
  go_loopw [5, 8] (fun v i wr => ∃ (k : Nat) (zs : List (List Value × MethD)) (p' : Nat), k ≤ N ∧ i = .int .i64 k ∧ zs.length = k ∧ Hid (pMany (pMeth s) N p1 = (pMany (pMeth s) (N - k) p').bind fun y => some (zs.map (·.2) ++ y.1, y.2)) ∧
    wr.ownsRow w.heap.size 76 9 v zs.length (zs.flatMap (·.1)) ∧ Hid (∀ z ∈ zs, z.1.length = 9 ∧ RM (MT w.heap.size [51, 79] wr) wr z.1 z.2) ∧ Rd wr b s p' ∧ p' ≤ s.size ∧ w.grownBy wr (some b)) (fun _ i _ => N - (intOf i).toNat)
  case atStart => exact ⟨0, [], p1, Nat.zero_le _, rfl, rfl, pMany_start _ _ _, World.ownsRow_nil _ _ _ _, (fun z hz => by cases hz), hr, hp1, hg⟩
  case round =>
    obtain ⟨k, zs, p', hk, rfl, hzl, HPM, hown, HZ, hrd, hp', hgr⟩ := hrel
    have hszr := hgr.size
    by_cases hlt : k < N
    rotate_left
    · have HE : Hid (pMany (pMeth s) N p1 = some (zs.map (·.2), p')) := pMany_end (by rw [HPM.out, show N - k = 0 by omega])
      have HOW := mkHid hown
      have ho2 := hown.2
      clear hown
      rcases ho2 with ⟨rfl, hn0⟩ | ⟨g, cap, cur, rfl, hrest⟩
      all_goals
        try clear hrest
        try clear hn0
        go_wp2_with fail
        go_ret
        exact ⟨hgr, Or.inr ⟨_, p', HPC.out.trans HE.out, ⟨_, rfl, own_SL HOW.out (fun z hz => ⟨(HZ.out z hz).1, (HZ.out z hz).2.mono fun _ hk => hk.more (Nat.le_refl _) (by decide)⟩) (by decide) (by unfold maxLen; omega)⟩, hrd, hp'⟩⟩
    obtain ⟨k', hk'⟩ : ∃ k', N - k = k' + 1 := ⟨N - k - 1, by omega⟩
    have HK' := mkHid hk'
    rw [hk'] at HPM
    clear hk'
    go_wp2_with fail
    refine (method_r _ b s p' hrd hp' hs).mono ?_
    rintro r w2 ⟨hg2, ⟨hx, q, rfl⟩ | ⟨x, p2, hx, ⟨va, vh, rfl, sa, sh⟩, hr2, hp2⟩⟩
    · refine ⟨rfl, grown_trans hgr hg2, Or.inl ⟨?_, q, rfl⟩⟩
      rw [HPC.out]
      exact pMany_fail HPM.out hx
    have HPM2 := mkHid (pMany_step HPM.out hx)
    have HSZ := mkHid (pMeth_size hs hx)
    have SA := mkHid sa
    have SH := mkHid sh
    obtain ⟨aa, ca, rfl, -⟩ := sa
    obtain ⟨ah, ch, rfl, -⟩ := sh
    have hown2 : w2.ownsRow w.heap.size 76 9 u5 zs.length (zs.flatMap (·.1)) := hown.kept hg2 (own_ne hown hb)
    have HST : Hid (Stp w.heap.size [51, 79] wr w2) := Stp.grown hg2 hb
    have hgr2 := grown_trans hgr hg2
    have hsz2 := hgr2.size
    clear hown hgr hg2 hrd hx HPM
    have HO2 := mkHid hown2
    have HZL := mkHid hzl
    clear hzl
    · go_wp2_with (at_builtin; refine wpList_append_own _ rfl _ _ 59 rfl w.heap.size 76 i0 (.agg #[.string ⟨#[]⟩, .bool false, .slice none 0 0, .int .i64 0, .string ⟨#[]⟩, .int .i64 0, .int .i64 0, .string ⟨#[]⟩, .slice none 0 0]) 9 128 Tryz.underlying59 hi hz0 hz1 hz2 rfl (by decide) _ _ _ rfl (hown2.alloc _) ⟨w2.heap.size, 0, none⟩ 1 1 [.string x.name, .bool x.static, .slice aa x.args.length ca, .int .i64 x.ret.kind, .string x.ret.cls, .int .i64 x.stack, .int .i64 x.locals, .string x.code, .slice ah x.hands.length ch] rfl rfl (by intro j u hj; match j, hj with | 0, hj => simp at hj; subst hj; simp [Addr.add] | 1, hj => simp at hj; subst hj; simp [Addr.add] | 2, hj => simp at hj; subst hj; simp [Addr.add] | 3, hj => simp at hj; subst hj; simp [Addr.add] | 4, hj => simp at hj; subst hj; simp [Addr.add] | 5, hj => simp at hj; subst hj; simp [Addr.add] | 6, hj => simp at hj; subst hj; simp [Addr.add] | 7, hj => simp at hj; subst hj; simp [Addr.add] | 8, hj => simp at hj; subst hj; simp [Addr.add] | j + 9, hj => simp at hj) (by intro u hu; simp at hu; rcases hu with rfl | rfl | rfl | rfl | rfl | rfl | rfl | rfl | rfl <;> rfl) (by have := HZL.out; unfold maxLen; omega) (by have := HZL.out; omega) (by simp; omega) ?_)
      intro v' w3 hown3 hg3 _
      have hr3 : Rd w3 b s p2 := (hr2.alloc _).grown hg3 (by intro e; have := (HO2.out.lt b e.symm).1; omega)
      have hgr3 : w.grownBy w3 (some b) := grown_own (grown_alloc hgr2 _) hg3 (fun i e => (HO2.out.lt i e).1)
      have HO := mkHid hown3
      have HS3 : Hid (Stp w.heap.size [51, 79] wr w3) := HST.out.trans (((Stp.refl _ _ _).alloc _).trans (Stp.row hg3 (HO2.out.alloc _) (by decide)))
      have HS4 : Hid (Stp wr.heap.size [51, 79] w2 w3) := ((Stp.refl _ _ _).alloc _).trans (Stp.row hg3 (HO2.out.alloc _) (by decide))
      have SA3 := mkHid (SL.monoK (SL.stpK SA.out HS4.out) fun _ hk => hk.more (B' := w.heap.size) hszr (fun _ ht => ht))
      have SH3 := mkHid (SL.monoH (SL.stpH SH.out HS4.out) fun _ hk => hk.more (B' := w.heap.size) hszr (fun _ ht => ht))
      clear hown3 hg3 hgr2 hr2
      have ho4 := HO.out.2
      rcases ho4 with ⟨_, hbad⟩ | ⟨g', cap', cur', rfl, hrest⟩
      · omega
      clear hrest
      go_wp2_with fail
      go_roundw
      case rel =>
        refine ⟨k + 1, zs ++ [([.string x.name, .bool x.static, .slice aa x.args.length ca, .int .i64 x.ret.kind, .string x.ret.cls, .int .i64 x.stack, .int .i64 x.locals, .string x.code, .slice ah x.hands.length ch], x)], p2, by omega, by go_num, by have := HZL.out; simp; omega, ?_, ?_, ?_, hr3, hp2, hgr3⟩
        · have e := HK'.out
          show _ = _
          rw [HPM2.out, show N - (k + 1) = k' by omega, List.map_append]
          rfl
        · rw [List.length_append, snoc_flat]
          exact HO.out
        · show ∀ z ∈ _, _
          intro z hz
          rcases List.mem_append.1 hz with hz | hz
          · exact ⟨(HZ.out z hz).1, (HZ.out z hz).2.stp HS3.out⟩
          · rw [List.mem_singleton] at hz
            subst hz
            exact ⟨rfl, ⟨_, _, rfl, SA3.out, SH3.out, HSZ.out⟩⟩
      case measure => simp [intOf]; omega

end Go.Proofs.YtaekpdcnnkmahaaGreatDoor
