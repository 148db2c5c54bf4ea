/- A method's first locals. -/
import Derived.Test.YtfibgdcpbkaaoaaGreatDoorJVmKVmC
import Derived.Test.YtfibgdcpbkaaoaaGreatDoorJLTieLBeg
import Derived.Test.YtfibgdcpbkaaoaaGreatDoorJVmJVmI
import Derived.Test.YtfibgdcpbkaaoaaGreatDoorJCdDecCdBegun
import Derived.Test.YtfibgdcpbkaaoaaGreatDoorTka
import Derived.Test.YtfibgdcpbkaaoaaGreatDoorJVmUVmV
import Derived.Test.YtfibgdcpbkaaoaaGreatDoorJLDifSpo
import Derived.Test.YtfibgdcpbkaaoaaGreatDoorJVkMVoA
import Derived.Test.YtfibgdcpbkaaoaaGreatDoorJVkNVkF
import Derived.Deep.RegionLaw
import Derived.Deep.DeepCutAuto
namespace Go.Proofs.YtfibgdcpbkaaoaaGreatDoor
open Go.RowKit Go.Maps
structure LkA (c : Lkr) (B P : Nat) (v : LkV) (w : World) : Prop where
  blk : w.heap[P]? = some (.cells #[v.kC, v.kS, v.kF, v.kN, v.kT, .map (some v.Bm), .string c.m.name, .bool c.m.static, v.vA, .int .i64 c.m.ret.kind, .string c.m.ret.cls, .int .i64 c.m.stack, .int .i64 c.m.locals, .string c.m.code, v.vH, .slice none 0 0, .slice none 0 0, .slice none 0 0] 108 (0, 0))
  pB : B ≤ P
  kd : Kd B w v.kC v.kS v.kF v.kN v.kT v.Bm c.d
  ag : SL 2 RK (· < B) w v.vA c.m.args
  hd : SL 4 RH (· < B) w v.vH c.m.hands
  gl : GlK w
  bg : 6 < B
  bw : P + 1 ≤ w.heap.size
theorem LkA.below {c : Lkr} {B P : Nat} {v : LkV} {w w' : World} (h : LkA c B P v w) (hb : Below (P + 1) w w') : LkA c B P v w' :=
  have hB : Below B w w' := hb.mono (by have := h.pB; omega)
  ⟨(hb.block P (by omega)).trans h.blk, h.pB, h.kd.below hB, h.ag.keptK (Kp.below hB), h.hd.keptH (Kp.below hB), h.gl.at hB h.bg, h.bg, Nat.le_trans h.bw hb.size⟩
theorem LkA.bB {c : Lkr} {B P : Nat} {v : LkV} {w : World} (h : LkA c B P v w) : B ≤ w.heap.size := by
  have := h.pB
  have := h.bw
  omega
def FstOut (res : Option (List KindD)) (r : Ending) (w w' : World) : Prop := Below w.heap.size w w' ∧ ((∃ lo v', res = some lo ∧ r = .returned v' ∧ OwnK w' w.heap.size v' lo) ∨ (res = none ∧ ∃ e p, e ≠ 0 ∧ r = .panicked [wrongV e p]))
def fst0 (c : Lkr) (ci : Nat) : List KindD := (if c.m.static then [] else [⟨3, (clsAt c.d.classes ci).name⟩]) ++ c.m.args
theorem first_no {c : Lkr} {ci : Nat} (h : ¬ ((fst0 c ci).length : Int) ≤ c.m.locals) : firstL c.d c.m ci = none := by
  unfold firstL
  show (if decide (((fst0 c ci).length : Int) ≤ c.m.locals) = true then _ else _) = _
  rw [if_neg (by rw [decide_eq_false h]; decide)]
theorem first_ok {c : Lkr} {ci : Nat} (h : ((fst0 c ci).length : Int) ≤ c.m.locals) : firstL c.d c.m ci = some (fst0 c ci ++ List.replicate (c.m.locals.toNat - (fst0 c ci).length) anyK) := by
  unfold firstL
  show (if decide (((fst0 c ci).length : Int) ≤ c.m.locals) = true then _ else _) = _
  rw [if_pos (decide_eq_true h)]
  rfl
def lenOf : Value → Nat
  | .slice _ n _ => n
  | _ => 0
theorem new_one {W : World} {X t : Nat} {a : KindD} (h : W.heap[X]? = some (.cells #[.int .i64 a.kind, .string a.cls] t (0, 0))) (hs : a.cls.size ≤ maxLen) : SL 2 RK (· = X) W (.slice (some ⟨X, 0, none⟩) 1 1) [a] := by
  refine ⟨_, _, rfl, Nat.le_refl _, by unfold maxLen; simp, fun k hk => ?_⟩
  obtain rfl : k = 0 := by simpa using hk
  refine ⟨X, 0, [.int .i64 a.kind, .string a.cls], rfl, rfl, lt_of h, rfl, fun j hj => ?_, rfl, hs⟩
  match j, hj with
  | 0, _ => exact cell_of h 0 rfl
  | 1, _ => exact cell_of h 1 rfl
set_option maxRecDepth 100000 in
set_option maxHeartbeats 4000000 in
theorem firstLocals_any {c : Lkr} {B P : Nat} {v : LkV} (hlc : c.m.locals ≤ 10) (hag : c.m.args.length ≤ 4) (w : World) (hl : LkA c B P v w) (ci : Nat) (hci : ci < c.d.classes.length) :
    Calls Tryz.prog 48 #[.pointer (some ⟨P, 0, none⟩), .int .i64 (ci : Int)] w fun r w' => FstOut (firstL c.d c.m ci) r w w' := by
  have HL := mkHid hl
  have HAG := mkHid hl.ag
  obtain ⟨aA, cA, eA, -⟩ := hl.ag
  rw [eA] at HAG
  have p7 := cell_of hl.blk 7 (x := .bool c.m.static) rfl
  have p8 : w.cell? ⟨P, 8, none⟩ = some (.slice aA c.m.args.length cA) := by rw [← eA]; exact cell_of hl.blk 8 rfl
  have p12 := cell_of hl.blk 12 (x := .int .i64 c.m.locals) rfl
  have lP := lt_of hl.blk
  obtain ⟨n9, hn9⟩ : ∃ n9, n9 = (fst0 c ci).length := ⟨_, rfl⟩
  have HN9 := mkHid hn9
  have HEA := mkHid eA
  have hn95 : n9 ≤ 5 := by
    rw [hn9]
    unfold fst0
    rw [List.length_append]
    split <;> simp <;> omega
  cases hst : c.m.static with
  | true =>
    have HF0 : Hid ([] ++ c.m.args = fst0 c ci) := by show _ = _; unfold fst0; rw [hst]; rfl
    rw [hst] at p7
    have HBz : Hid (Below w.heap.size w w) := Below.refl _ _
    have HOz : Hid (OwnK w w.heap.size (.slice none 0 0) []) := World.ownsRow_nil _ _ _ _
    clear hl eA hn9 p8 p12
    go_enter Tryz.func48, Tryz.ntmps48
    have HLK := mkHid (HL.out.below (HBz.out.mono HL.out.bw))
    have r8 : w.cell? ⟨P, 8, none⟩ = some (.slice aA c.m.args.length cA) := (by rw [← HEA.out]; exact cell_of HLK.out.blk 8 rfl)
    have HSA : Hid (SL 2 RK (· < B) w (.slice aA c.m.args.length cA) c.m.args) := HAG.out.keptK (Kp.below (HBz.out.mono HL.out.bB))
    go_wp2_with (at_builtin; refine wpList_append_kinds _ rfl _ _ rfl w.heap.size (.slice none 0 0) ([]) rfl HOz.out (· < B) (.slice aA c.m.args.length cA) c.m.args rfl HSA.out (by simp; omega) HBz.out.size ?_; intro v4 w4 ho4 hg4 hv4; have HB4 : Hid (Below w.heap.size w w4) := HBz.out.grown hg4 HBz.out.size (fun k e => (HOz.out.lt k e).1); have HL4 := mkHid (HL.out.below (HB4.out.mono HL.out.bw)); have s12 := cell_of HL4.out.blk 12 (x := .int .i64 c.m.locals) rfl; rw [show [] ++ c.m.args = fst0 c ci from HF0.out] at ho4; have HO4 := mkHid ho4; obtain ⟨a4, c4, e4⟩ := own_shape ho4; rw [← HN9.out] at e4; subst e4; clear ho4 hg4 hv4)
    refine (demand_any _ _ _).mono ?_
    rintro r w5 ⟨hw5, ⟨hb, rfl⟩ | ⟨hb, rfl⟩⟩
    · have hno : ¬ ((fst0 c ci).length : Int) ≤ c.m.locals := by rw [← HN9.out]; exact of_decide_eq_false hb
      exact ⟨rfl, by rw [hw5]; exact HB4.out, Or.inr ⟨first_no hno, 3, 0, by decide, rfl⟩⟩
    rw [hw5]
    have HYES := mkHid (of_decide_eq_true hb)
    clear hb hw5 w5 s12
    go_wp2_with fail
    go_loopw [5] (fun v5 wr => ∃ (k : Nat) (a5 : Option Addr) (c5 : Nat), v5 = .slice a5 (n9 + k) c5 ∧ Hid (n9 + k ≤ c.m.locals.toNat ∧ Below w.heap.size w wr ∧ OwnK wr w.heap.size (.slice a5 (n9 + k) c5) (fst0 c ci ++ List.replicate k anyK))) (fun v5 _ => c.m.locals.toNat - lenOf v5)
    case atStart => exact ⟨0, a4, c4, by rw [Nat.add_zero], by have := HYES.out; omega, HB4.out, by rw [Nat.add_zero, List.replicate_zero, List.append_nil]; exact HO4.out⟩
    case round =>
      rename World => wr
      obtain ⟨k, a5, c5, rfl, HST⟩ := hrel
      have HLr := mkHid (HL.out.below (HST.out.2.1.mono HL.out.bw))
      have t12 := cell_of HLr.out.blk 12 (x := .int .i64 c.m.locals) rfl
      have hle := HST.out.1
      by_cases hlt : n9 + k < c.m.locals.toNat
      · obtain ⟨-, -, g0, g1, -⟩ := HLr.out.gl
        have h01 : ((n9 + k : Nat) : Int) < c.m.locals := by omega
        have HLEN : Hid (n9 + k = (fst0 c ci ++ List.replicate k anyK).length) := by show _ = _; rw [List.length_append, List.length_replicate, ← HN9.out]
        have HBX := mkHid (HST.out.2.1.alloc HST.out.2.1.size (.cells #[.int .i64 6, .string noNm] 40))
        have HSX := mkHid (new_one (a := anyK) (heap_alloc_new wr (.cells #[.int .i64 6, .string noNm] 40)) (Nat.zero_le _))
        have HOX := mkHid (own_up HST.out.2.2 ((Below.refl wr.heap.size wr).alloc (Nat.le_refl _) (.cells #[.int .i64 6, .string noNm] 40)))
        have HNX : Hid (n9 + (k + 1) = (fst0 c ci ++ List.replicate k anyK ++ [anyK]).length) := by show _ = _; rw [List.length_append, ← HLEN.out]; rfl
        have HMT := mkHid (And.intro hlt (Nat.succ_le_of_lt hlt))
        have hlc3 : n9 + k + 1 ≤ 1000000 := by omega
        go_wp2_with (at_builtin; refine wpList_append_kinds _ rfl _ _ rfl w.heap.size (.slice a5 (n9 + k) c5) (fst0 c ci ++ List.replicate k anyK) rfl HOX.out (· = wr.heap.size) (.slice (some ⟨wr.heap.size, 0, none⟩) 1 1) [anyK] rfl HSX.out (by rw [← HLEN.out]; exact hlc3) HBX.out.size ?_; intro v7 w7 ho7 hg7 hv7; have HB7 : Hid (Below w.heap.size w w7) := HBX.out.grown hg7 HBX.out.size (fun k e => (HOX.out.lt k e).1); have HO7 := mkHid ho7; obtain ⟨a7, c7, e7⟩ := own_shape ho7; rw [← HNX.out] at e7; subst e7; clear ho7 hg7 hv7)
        go_roundw
        case rel => exact ⟨k + 1, a7, c7, rfl, by have := HMT.out.2; omega, HB7.out, by have h9 := HO7.out; rw [List.append_assoc, ← List.replicate_succ'] at h9; exact h9⟩
        case measure => have hm9 := HMT.out.1; simp [lenOf]; omega
      · have h01 : ¬ ((n9 + k : Nat) : Int) < c.m.locals := by omega
        have HFN : Hid (firstL c.d c.m ci = some (fst0 c ci ++ List.replicate k anyK)) := by
          have h9 := HYES.out
          show _ = _
          rw [first_ok (by rw [← HN9.out]; exact h9), ← HN9.out, show c.m.locals.toNat - n9 = k by omega]
        go_wp2_with fail
        go_ret
        exact ⟨HST.out.2.1, Or.inl ⟨_, _, HFN.out, rfl, HST.out.2.2⟩⟩
  | false =>
    have HF0 : Hid ([⟨3, (clsAt c.d.classes ci).name⟩] ++ c.m.args = fst0 c ci) := by show _ = _; unfold fst0; rw [hst]; rfl
    rw [hst] at p7
    rw [clsAt_eq hci] at HF0
    have hC := hl.kd.lk.C
    obtain ⟨aC, cC, eC, -⟩ := hl.kd.lk.C
    rw [eC] at hC
    obtain ⟨bC, oC, vf, vm, e9, hbC, k0, -, -, -, -, -, hnsz, -⟩ := hC.atC ci hci
    subst e9
    have p0 : w.cell? ⟨P, 0, none⟩ = some (.slice (some ⟨bC, oC, none⟩) c.d.classes.length cC) := by rw [← eC]; exact cell_of hl.blk 0 rfl
    have h00 : (0 : Int) ≤ ci := by omega
    have h01 : (ci : Int) < c.d.classes.length := by omega
    have HNS := mkHid hnsz
    generalize c.d.classes[ci].name = nm at *
    clear hl eA hn9 p8 p12 hC eC hbC hnsz
    go_enter Tryz.func48, Tryz.ntmps48
    go_wp2_with fail
    refine (object_any _ _).mono ?_
    rintro r w1 ⟨rfl, hb1⟩
    have HBX := mkHid (hb1.alloc hb1.size (.cells #[.int .i64 3, .string nm] 40))
    have HSX := mkHid (new_one (a := ⟨3, nm⟩) (heap_alloc_new w1 (.cells #[.int .i64 3, .string nm] 40)) HNS.out)
    clear hb1 p7 p0 k0
    go_wp2_with (first | (at_builtin; refine wpList_append_kinds _ rfl _ _ rfl w.heap.size (.slice none 0 0) [] rfl (World.ownsRow_nil _ _ _ _) (· = w1.heap.size) (.slice (some ⟨w1.heap.size, 0, none⟩) 1 1) [⟨3, nm⟩] rfl HSX.out (by simp) HBX.out.size ?_; intro v2 w2 ho2 hg2 hv2; have HBz : Hid (Below w.heap.size w w2) := HBX.out.grown hg2 HBX.out.size (fun k e => by simp [Value.ownBlock] at e); have HOz : Hid (OwnK w2 w.heap.size v2 [⟨3, nm⟩]) := ho2; obtain ⟨a2, c2, e2⟩ : ∃ a2 c2, v2 = .slice a2 1 c2 := own_shape HOz.out; subst e2; clear ho2 hg2 hv2; have HLK := mkHid (HL.out.below (HBz.out.mono HL.out.bw)); have r8 : w2.cell? ⟨P, 8, none⟩ = some (.slice aA c.m.args.length cA) := (by rw [← HEA.out]; exact cell_of HLK.out.blk 8 rfl); have HSA : Hid (SL 2 RK (· < B) w2 (.slice aA c.m.args.length cA) c.m.args) := HAG.out.keptK (Kp.below (HBz.out.mono HL.out.bB))) | (at_builtin; refine wpList_append_kinds _ rfl _ _ rfl w.heap.size (.slice a2 1 c2) ([⟨3, nm⟩]) rfl HOz.out (· < B) (.slice aA c.m.args.length cA) c.m.args rfl HSA.out (by simp; omega) HBz.out.size ?_; intro v4 w4 ho4 hg4 hv4; have HB4 : Hid (Below w.heap.size w w4) := HBz.out.grown hg4 HBz.out.size (fun k e => (HOz.out.lt k e).1); have HL4 := mkHid (HL.out.below (HB4.out.mono HL.out.bw)); have s12 := cell_of HL4.out.blk 12 (x := .int .i64 c.m.locals) rfl; rw [show [⟨3, nm⟩] ++ c.m.args = fst0 c ci from HF0.out] at ho4; have HO4 := mkHid ho4; obtain ⟨a4, c4, e4⟩ := own_shape ho4; rw [← HN9.out] at e4; subst e4; clear ho4 hg4 hv4))
    refine (demand_any _ _ _).mono ?_
    rintro r w5 ⟨hw5, ⟨hb, rfl⟩ | ⟨hb, rfl⟩⟩
    · have hno : ¬ ((fst0 c ci).length : Int) ≤ c.m.locals := by rw [← HN9.out]; exact of_decide_eq_false hb
      exact ⟨rfl, by rw [hw5]; exact HB4.out, Or.inr ⟨first_no hno, 3, 0, by decide, rfl⟩⟩
    rw [hw5]
    have HYES := mkHid (of_decide_eq_true hb)
    clear hb hw5 w5 s12
    go_wp2_with fail
    go_loopw [5] (fun v5 wr => ∃ (k : Nat) (a5 : Option Addr) (c5 : Nat), v5 = .slice a5 (n9 + k) c5 ∧ Hid (n9 + k ≤ c.m.locals.toNat ∧ Below w.heap.size w wr ∧ OwnK wr w.heap.size (.slice a5 (n9 + k) c5) (fst0 c ci ++ List.replicate k anyK))) (fun v5 _ => c.m.locals.toNat - lenOf v5)
    case atStart => exact ⟨0, a4, c4, by rw [Nat.add_zero], by have := HYES.out; omega, HB4.out, by rw [Nat.add_zero, List.replicate_zero, List.append_nil]; exact HO4.out⟩
    case round =>
      rename World => wr
      obtain ⟨k, a5, c5, rfl, HST⟩ := hrel
      have HLr := mkHid (HL.out.below (HST.out.2.1.mono HL.out.bw))
      have t12 := cell_of HLr.out.blk 12 (x := .int .i64 c.m.locals) rfl
      have hle := HST.out.1
      by_cases hlt : n9 + k < c.m.locals.toNat
      · obtain ⟨-, -, g0, g1, -⟩ := HLr.out.gl
        have h01 : ((n9 + k : Nat) : Int) < c.m.locals := by omega
        have HLEN : Hid (n9 + k = (fst0 c ci ++ List.replicate k anyK).length) := by show _ = _; rw [List.length_append, List.length_replicate, ← HN9.out]
        have HBX := mkHid (HST.out.2.1.alloc HST.out.2.1.size (.cells #[.int .i64 6, .string noNm] 40))
        have HSX := mkHid (new_one (a := anyK) (heap_alloc_new wr (.cells #[.int .i64 6, .string noNm] 40)) (Nat.zero_le _))
        have HOX := mkHid (own_up HST.out.2.2 ((Below.refl wr.heap.size wr).alloc (Nat.le_refl _) (.cells #[.int .i64 6, .string noNm] 40)))
        have HNX : Hid (n9 + (k + 1) = (fst0 c ci ++ List.replicate k anyK ++ [anyK]).length) := by show _ = _; rw [List.length_append, ← HLEN.out]; rfl
        have HMT := mkHid (And.intro hlt (Nat.succ_le_of_lt hlt))
        have hlc3 : n9 + k + 1 ≤ 1000000 := by omega
        go_wp2_with (at_builtin; refine wpList_append_kinds _ rfl _ _ rfl w.heap.size (.slice a5 (n9 + k) c5) (fst0 c ci ++ List.replicate k anyK) rfl HOX.out (· = wr.heap.size) (.slice (some ⟨wr.heap.size, 0, none⟩) 1 1) [anyK] rfl HSX.out (by rw [← HLEN.out]; exact hlc3) HBX.out.size ?_; intro v7 w7 ho7 hg7 hv7; have HB7 : Hid (Below w.heap.size w w7) := HBX.out.grown hg7 HBX.out.size (fun k e => (HOX.out.lt k e).1); have HO7 := mkHid ho7; obtain ⟨a7, c7, e7⟩ := own_shape ho7; rw [← HNX.out] at e7; subst e7; clear ho7 hg7 hv7)
        go_roundw
        case rel => exact ⟨k + 1, a7, c7, rfl, by have := HMT.out.2; omega, HB7.out, by have h9 := HO7.out; rw [List.append_assoc, ← List.replicate_succ'] at h9; exact h9⟩
        case measure => have hm9 := HMT.out.1; simp [lenOf]; omega
      · have h01 : ¬ ((n9 + k : Nat) : Int) < c.m.locals := by omega
        have HFN : Hid (firstL c.d c.m ci = some (fst0 c ci ++ List.replicate k anyK)) := by
          have h9 := HYES.out
          show _ = _
          rw [first_ok (by rw [← HN9.out]; exact h9), ← HN9.out, show c.m.locals.toNat - n9 = k by omega]
        go_wp2_with fail
        go_ret
        exact ⟨HST.out.2.1, Or.inl ⟨_, _, HFN.out, rfl, HST.out.2.2⟩⟩
end Go.Proofs.YtfibgdcpbkaaoaaGreatDoor
/- The contract of link's Check. -/
namespace Go.Proofs.YtfibgdcpbkaaoaaGreatDoor
open Go.RowKit Go.Maps
theorem nilSL0 (M : Nat → Prop) (w : World) : SL 1 RI M w (.slice none 0 0) [] := ⟨none, 0, rfl, Nat.le_refl _, by unfold maxLen; simp, fun k hk => by cases hk⟩
set_option maxHeartbeats 1000000 in
theorem lcheck1_any (w : World) (B P : Nat) (kC kS kF kN kT : Value) (d : LinkD) (hk : RLk (· < B) w kC kS kF kN kT d) (hB : B ≤ w.heap.size) (hP : w.heap[P]? = some (.cells #[kC, kS, kF, kN, kT] 29 (0, 0))) :
    Calls Tryz.prog 85 #[.pointer (some ⟨P, 0, none⟩)] w fun r w' => ChkOut (chkRes d []) r ∧ Below w.heap.size w w' := by
  have HCK := mkHid (checked_any w B kC kS kF kN kT d hk hB (fun _ => True) _ [] (nilSL0 _ _))
  have hPl := lt_of hP
  have c0 := cell_of hP 0 (x := kC) rfl
  have c1 := cell_of hP 1 (x := kS) rfl
  have c2 := cell_of hP 2 (x := kF) rfl
  have c3 := cell_of hP 3 (x := kN) rfl
  have c4 := cell_of hP 4 (x := kT) rfl
  obtain ⟨aC, cC, aS, cS, aF, cF, aN, cN, aT, cT, rfl, rfl, rfl, rfl, rfl⟩ := hk.agg
  clear hk hP
  go_enter Tryz.func85, Tryz.ntmps85
  go_wp2_with fail
  refine HCK.out.mono ?_
  rintro r w1 ⟨hb, ⟨h0, -, b, vS, vF, vN, vT, vL, Bm, rfl, -⟩ | ⟨h0, rfl⟩⟩
  · have HC := mkHid h0
    have HB := mkHid hb
    clear h0 hb c0 c1 c2 c3 c4
    go_wp2_with fail
    go_end0
    exact ⟨Or.inr ⟨HC.out, rfl⟩, HB.out⟩
  · exact ⟨rfl, Or.inl ⟨h0, rfl⟩, hb⟩
theorem callLCheck1 (args : Array Value) (w : World) : (callFunc 85 args).run Tryz.prog w = .ok (.enter 85 args) w := by kernel_rfl
set_option maxHeartbeats 1000000 in
theorem LCheck_any (w : World) (B : Nat) (kC kS kF kN kT : Value) (d : LinkD) (hk : RLk (· < B) w kC kS kF kN kT d) (hB' : B ≤ w.heap.size) :
    Calls Tryz.prog 44 #[.agg #[kC, kS, kF, kN, kT]] w fun r w' => r = .returned (.int .i64 (chkRes d [])) ∧ Below w.heap.size w w' := by
  have hmf : ∀ (fn : Fn) (first cap : Array Value) (w : World), (Instr.makeFunc fn first cap).run Tryz.prog w = .ok (.func fn first cap) w := fun _ _ _ _ => rfl
  have HK := mkHid hk
  obtain ⟨aC, cC, aS, cS, aF, cF, aN, cN, aT, cT, rfl, rfl, rfl, rfl, rfl⟩ := hk.agg
  clear hk
  have hB0 := (Below.refl w.heap.size w).alloc (Nat.le_refl _) (.cells #[.slice aC d.classes.length cC, .slice aS d.supers.length cS, .slice aF d.fields.length cF, .slice aN d.names.length cN, .slice aT d.targets.length cT] 29)
  have hB1 := hB0.alloc hB0.size (.cells #[.int .i64 0, .int .i64 0] 46)
  go_enter Tryz.func44, Tryz.ntmps44
  go_wp2_with fail
  refine (caught_any 85 _ _ (fun w1 => chkRes d [] = 0 ∧ Below w.heap.size w w1) (fun e p w1 => chkRes d [] = e ∧ Below w.heap.size w w1) (callLCheck1 _) ?hc).mono ?_
  case hc =>
    refine (lcheck1_any _ B w.heap.size _ _ _ _ _ d (HK.out.kept (Kp.below (hB1.mono hB'))) (Nat.le_trans hB' hB1.size) ((Below.heap_alloc _ _ _ (by simp)).trans (heap_alloc_new w _))).mono ?_
    rintro r w1 ⟨hr, hb⟩
    have hb' := hB1.trans (hb.mono hB1.size)
    refine ⟨?_, ?_⟩
    · rw [hb.block (w.alloc (.cells #[.slice aC d.classes.length cC, .slice aS d.supers.length cS, .slice aF d.fields.length cF, .slice aN d.names.length cN, .slice aT d.targets.length cT] 29)).heap.size (by simp)]
      exact heap_alloc_new _ _
    · rcases hr with ⟨hc, rfl⟩ | ⟨hc, rfl⟩
      · exact Or.inr ⟨_, _, rfl, rfl, hb'⟩
      · exact Or.inl ⟨rfl, hc, hb'⟩
  rintro r w2 ⟨w1, hg, hr⟩
  have hz : (w.alloc (.cells #[.slice aC d.classes.length cC, .slice aS d.supers.length cS, .slice aF d.fields.length cF, .slice aN d.names.length cN, .slice aT d.targets.length cT] 29)).heap.size = w.heap.size + 1 := by simp
  rw [hz] at hg
  clear hB0 hB1 hz
  rcases hr with ⟨rfl, hc, hB⟩ | ⟨e, p, rfl, hc, hB⟩
  · have HC := mkHid hc
    have HB := mkHid (below_of_grown hB hg (by omega))
    clear hc hg hB hmf hB' HK
    have hfd := fieldErr
    go_wp2
    go_ret
    exact ⟨by rw [HC.out]; rfl, HB.out⟩
  · have HC := mkHid hc
    have HB := mkHid (below_of_grown hB hg (by omega))
    clear hc hg hB hmf hB' HK
    have hfd := fieldErr
    go_wp2
    go_ret
    exact ⟨by rw [HC.out]; rfl, HB.out⟩
end Go.Proofs.YtfibgdcpbkaaoaaGreatDoor
/- A method's code is decoded. -/
namespace Go.Proofs.YtfibgdcpbkaaoaaGreatDoor
open Go.RowKit Go.Maps
theorem Tryz.infoState : (Tryz.prog.info? 53).map (fun i => (i.zero, i.size, i.bytes)) = some (some (.agg #[.bool false, .slice none 0 0, .slice none 0 0]), 3, 56) := by kernel_rfl
theorem Tryz.infoBool : (Tryz.prog.info? 4).map (fun i => (i.zero, i.size, i.bytes)) = some (some (.bool false), 1, 1) := by kernel_rfl
theorem made3 (a b c : Value) (n k j : Nat) (hk : k < n) (hj : j < 3) : (madeCells #[a, b, c] (n * 3))[k * 3 + j]? = #[a, b, c][j]? := by
  have h1 : k * 3 + j < n * 3 := by omega
  have h2 : (k * 3 + j) % 3 = j := by omega
  simp only [madeCells, Array.getElem?_map, Array.getElem?_range, h1, if_true, Option.map_some, List.size_toArray, List.length_cons, List.length_nil]
  match j, hj with
  | 0, _ => simp
  | 1, _ => simp [h2]
  | 2, _ => simp [h2]
theorem made1 (a : Value) (n k : Nat) (hk : k < n) : (madeCells #[a] n)[k]? = some a := by
  simp [madeCells, hk, Nat.mod_one]
theorem full_ne {s : ByteArray} {e p : Int} (h : Cd.full s = .error (e, p)) : e ≠ 0 := by
  unfold Cd.full at h
  split at h
  · cases h; decide
  · split at h
    · cases h; decide
    · unfold Cd.dec at h
      have scan_ne : ∀ (f q : Nat) (acc : List Cd.Op4) (x : Int × Int), Cd.scan s f q acc = .error x → x.1 ≠ 0 := fun f => by
        induction f with
        | zero => intro q acc x hx; simp [Cd.scan] at hx
        | succ f ih =>
          intro q acc x hx
          unfold Cd.scan at hx
          split at hx
          · split at hx
            · cases hx; show (7 : Int) ≠ 0; decide
            · split at hx
              · cases hx; show (1 : Int) ≠ 0; decide
              · exact ih _ _ _ hx
          · cases hx
      split at h
      · rename_i x hx
        cases h
        exact scan_ne _ _ _ _ hx
      · split at h
        · cases h; decide
        · cases h
theorem full_pos {s : ByteArray} {l : List Cd.Op4} (h : Cd.full s = .ok l) : 0 < l.length := by
  unfold Cd.full at h
  split at h
  · cases h
  · split at h
    · cases h
    · rename_i h0
      unfold Cd.dec at h
      have more : ∀ (f q : Nat) (acc l : List Cd.Op4), Cd.scan s f q acc = .ok l → acc.length ≤ l.length := fun f => by
        induction f with
        | zero => intro q acc l hx; simp [Cd.scan] at hx; rw [hx]; exact Nat.le_refl _
        | succ f ih =>
          intro q acc l hx
          unfold Cd.scan at hx
          split at hx
          · split at hx
            · cases hx
            · split at hx
              · cases hx
              · have := ih _ _ _ hx
                simp at this
                omega
          · cases hx; exact Nat.le_refl _
      split at h
      · cases h
      · rename_i l' hx
        split at h
        · cases h
        · cases h
          cases hs : s.size with
          | zero => exact absurd hs h0
          | succ f =>
            rw [hs] at hx
            unfold Cd.scan at hx
            split at hx
            · split at hx
              · cases hx
              · split at hx
                · cases hx
                · have := more _ _ _ _ hx
                  simp at this
                  omega
            · rename_i hq
              omega
theorem own_has {w : World} {B : Nat} {g cap : Nat} {l : List Cd.Op4} (h : w.ownsRow B 55 4 (.slice (some ⟨g, 0, none⟩) l.length cap) l.length (Cd.cellsOf l)) : Cd.Has w g 0 l ∧ l.length ≤ cap := by
  have hc : ∀ k, k < l.length → ∀ j, j < 4 → w.cell? ⟨g, 0 + k * 4 + j, none⟩ = (Cd.get4 l k).cells[j]? := fun k hk j hj => by
    rw [← Cd.cellsOf_get l k hk j hj, Nat.zero_add]
    exact h.cellAt (k * 4 + j) (by omega)
  refine ⟨⟨fun k hk => hc k hk 0 (by omega), fun k hk => hc k hk 1 (by omega), fun k hk => hc k hk 2 (by omega), fun k hk => hc k hk 3 (by omega), (h.lt g rfl).2⟩, ?_⟩
  rcases h.2 with ⟨e, -⟩ | ⟨g', cap', cur, e, -, -, hc, -⟩
  · cases e
  · cases e
    exact hc
def sa0 (n : Nat) : SA := ⟨List.replicate n st0, List.replicate n false⟩
def DecO (c : Lkr) (P : Nat) (v : LkV) (r : Ending) (w w' : World) : Prop :=
  (∃ l B' g cI bS bA own, Cd.full c.m.code = .ok l ∧ r = .returned (.tuple #[]) ∧ w.heap.size ≤ B' ∧ (∀ b, own b ≠ none → w.heap.size ≤ b) ∧ LkW { c with ins := l } B' P { v with gI := g, cI := cI, bS := bS, bA := bA } w' ∧ LkM { c with ins := l } B' { v with gI := g, cI := cI, bS := bS, bA := bA } own (fun _ => (.slice none 0 0, .slice none 0 0)) (sa0 l.length) w' ∧ Wr (· = P) w w') ∨
  ((∀ l, Cd.full c.m.code ≠ .ok l) ∧ ∃ e p, e ≠ 0 ∧ r = .panicked [wrongV e p] ∧ Below w.heap.size w w')
set_option maxRecDepth 100000 in
set_option maxHeartbeats 4000000 in
theorem decode_any {c : Lkr} {B P : Nat} {v : LkV} (w : World) (hl : LkA c B P v w) (hT : Cd.Tabs w) (hcs : c.m.code.size ≤ maxLen) :
    Calls Tryz.prog 49 #[.pointer (some ⟨P, 0, none⟩)] w fun r w' => DecO c P v r w w' := by
  have HL := mkHid hl
  have p13 := cell_of hl.blk 13 (x := .string c.m.code) rfl
  have lP : P < w.heap.size := lt_of hl.blk
  have HDE := mkHid (Cd.Decode_any w c.m.code hT hcs)
  obtain ⟨iS, hiS, hzS0, hzS1, hzS2⟩ := info_parts Tryz.infoState
  obtain ⟨iB, hiB, hzB0, hzB1, hzB2⟩ := info_parts Tryz.infoBool
  clear hl hT hcs
  go_enter Tryz.func49, Tryz.ntmps49
  go_wp2_with fail
  refine HDE.out.mono ?_
  rintro r w1 ⟨hb1, ⟨l, vI, hful, hlen, rfl, hown⟩ | ⟨e, p, hful, rfl⟩⟩
  rotate_left
  · have he := full_ne hful
    have HE := mkHid he
    have HF := mkHid hful
    have HB1 := mkHid (hb1.alloc hb1.size (.cells #[.int .i64 e, .int .i64 p] 46))
    have heb : (e == 0) = false := beq_eq_false_iff_ne.2 he
    clear he hful hb1
    go_wp2_with fail
    refine (demandAt_any _ _ _ _).mono ?_
    rintro r w2 ⟨hw2, ⟨hb, rfl⟩ | ⟨hb, rfl⟩⟩
    · exact ⟨rfl, Or.inr ⟨fun l hl => (by rw [HF.out] at hl; cases hl), e, p, HE.out, rfl, by rw [hw2]; exact HB1.out⟩⟩
    · exact absurd hb (by simp)
  have hpos := full_pos hful
  have HF := mkHid hful
  obtain ⟨g, cI, eI, -⟩ := hown.form hpos
  subst eI
  have HH := mkHid (own_has hown)
  have HGL := mkHid (hown.lt g rfl)
  have HB1 := mkHid hb1
  have rS : ∀ V, (Instr.makeSlice 44 (.int .i64 (l.length : Int)) (.int .i64 (l.length : Int))).run Tryz.prog V = .ok (.slice (some ⟨V.heap.size, 0, none⟩) l.length l.length) (V.alloc (.cells (madeCells #[.bool false, .slice none 0 0, .slice none 0 0] (l.length * 3)) 53)) := fun V => by
    have := run_makeSlice (P := Tryz.prog) V 44 53 iS (.agg #[.bool false, .slice none 0 0, .slice none 0 0]) Tryz.underlying44 hiS hzS0 .i64 .i64 l.length l.length (by omega) (by omega) (by rw [hzS1]; simp; omega) (by rw [hzS2]; omega) (by omega)
    rw [hzS1, show (Value.agg #[.bool false, .slice none 0 0, .slice none 0 0]).cells = #[.bool false, .slice none 0 0, .slice none 0 0] from rfl] at this
    simpa using this
  have rB : ∀ V, (Instr.makeSlice 106 (.int .i64 (l.length : Int)) (.int .i64 (l.length : Int))).run Tryz.prog V = .ok (.slice (some ⟨V.heap.size, 0, none⟩) l.length l.length) (V.alloc (.cells (madeCells #[.bool false] l.length) 4)) := fun V => by
    have := run_makeSlice (P := Tryz.prog) V 106 4 iB (.bool false) Tryz.underlying106 hiB hzB0 .i64 .i64 l.length l.length (by omega) (by omega) (by rw [hzB1]; simp; omega) (by rw [hzB2]; omega) (by omega)
    rw [hzB1, show (Value.bool false).cells = #[.bool false] from rfl] at this
    simpa using this
  have hq := (hb1.block P lP).trans HL.out.blk
  have HQ := mkHid hq
  have q15 := cell_of hq 15 (x := .slice none 0 0) rfl
  have q16 := cell_of hq 16 (x := .slice none 0 0) rfl
  have q17 := cell_of hq 17 (x := .slice none 0 0) rfl
  have qf := frz_of hq
  have lP1 : P < w1.heap.size := lt_of hq
  have lP2 : P < w1.heap.size + 1 := by omega
  have lP3 : P < w1.heap.size + 1 + 1 := by omega
  have nP1 : ¬ P = w1.heap.size := by omega
  have nP2 : ¬ P = w1.heap.size + 1 := by omega
  have nP3 : ¬ P = w1.heap.size + 1 + 1 := by omega
  clear hown hful hb1 hq
  go_wp2_with fail
  refine (demandAt_any _ _ _ _).mono ?_
  rintro r w2 ⟨hw2, ⟨hb, rfl⟩ | ⟨hb, rfl⟩⟩
  · exact absurd hb (by simp)
  rw [hw2]
  clear hb hw2
  go_wp2_with fail
  go_end0
  obtain ⟨V, hV⟩ : ∃ V, V = ((w1.setCell ⟨P, 15, none⟩ (.slice (some ⟨g, 0, none⟩) l.length cI)).setCell ⟨P, 16, none⟩ (.slice (some ⟨w1.heap.size + 1, 0, none⟩) l.length l.length)).setCell ⟨P, 17, none⟩ (.slice (some ⟨w1.heap.size + 1 + 1, 0, none⟩) l.length l.length) := ⟨_, rfl⟩
  rw [← hV]
  have hVs : V.heap.size = w1.heap.size := by rw [hV]; simp [World.setCell]
  have hVP : V.heap[P]? = some (.cells #[v.kC, v.kS, v.kF, v.kN, v.kT, .map (some v.Bm), .string c.m.name, .bool c.m.static, v.vA, .int .i64 c.m.ret.kind, .string c.m.ret.cls, .int .i64 c.m.stack, .int .i64 c.m.locals, .string c.m.code, v.vH, .slice (some ⟨g, 0, none⟩) l.length cI, .slice (some ⟨w1.heap.size + 1, 0, none⟩) l.length l.length, .slice (some ⟨w1.heap.size + 1 + 1, 0, none⟩) l.length l.length] 108 (0, 0)) := by
    rw [hV]
    exact heap_setX (heap_setX (heap_setX HQ.out _) _) _
  have hVk : ∀ k, k ≠ P → V.heap[k]? = w1.heap[k]? := fun k hk => by rw [hV, Below.heap_setCell _ _ _ _ hk, Below.heap_setCell _ _ _ _ hk, Below.heap_setCell _ _ _ _ hk]
  have hVW : Wr (· = P) w V := by
    rw [hV]
    exact (Wr.of HB1.out).trans ((Wr.set (M := (· = P)) rfl _ _).trans ((Wr.set (M := (· = P)) rfl _ _).trans (Wr.set (M := (· = P)) rfl _ _)))
  clear hV
  obtain ⟨W, hW, hBW, hsW, x0, x1, x2⟩ := boxes3 V #[.int .i64 0, .int .i64 0] (madeCells #[.bool false, .slice none 0 0, .slice none 0 0] (l.length * 3)) (madeCells #[.bool false] l.length) 46 53 4
  rw [← hW]
  rw [hVs] at x0 x1 x2 hsW
  clear hW
  have hWr : Wr (· = P) w W := hVW.trans (Wr.of hBW)
  have hBB : Below B w W := hWr.below (fun b hb => by rw [hb]; exact HL.out.pB) HL.out.bB
  have hgP : g ≠ P := fun e => by have := HGL.out.1; omega
  have hgW : W.heap[g]? = w1.heap[g]? := (hBW.block g (by rw [hVs]; exact HGL.out.2)).trans (hVk g hgP)
  have hmB : ∀ k, k < B → k < w1.heap.size + 1 := fun k hk => by have := HL.out.pB; omega
  refine Or.inl ⟨l, w1.heap.size + 1, g, cI, w1.heap.size + 1, w1.heap.size + 1 + 1, fun b => if b = w1.heap.size + 1 then some (0, 2) else if b = w1.heap.size + 1 + 1 then some (0, 3) else none, HF.out, rfl, by have := HB1.out.size; omega, fun b hb => ?_, ?_, ?_, hWr⟩
  · have := HB1.out.size
    by_cases e1 : b = w1.heap.size + 1
    · omega
    · by_cases e2 : b = w1.heap.size + 1 + 1
      · omega
      · exact absurd (by simp [e1, e2]) hb
  · have hkd := HL.out.kd.below hBB
    refine ⟨(hBW.block P (by omega)).trans hVP, by omega, ⟨hkd.lk.mono hmB, hkd.nm, hmB _ hkd.bm⟩, (HL.out.ag.keptK (Kp.below hBB)).monoK hmB, (HL.out.hd.keptH (Kp.below hBB)).monoH hmB, ?_, by have := HGL.out.2; show g < _; omega, HH.out.2, HL.out.gl.at hBB HL.out.bg, hmB _ HL.out.bg, by omega⟩
    have hc : ∀ j, W.cell? ⟨g, j, none⟩ = w1.cell? ⟨g, j, none⟩ := fun j => World.cell?_of_block (a := ⟨g, j, none⟩) hgW
    exact ⟨fun k hk => (hc _).trans (HH.out.1.c0 k hk), fun k hk => (hc _).trans (HH.out.1.c1 k hk), fun k hk => (hc _).trans (HH.out.1.c2 k hk), fun k hk => (hc _).trans (HH.out.1.c3 k hk), by have := HGL.out.2; show g < _; omega⟩
  · refine ⟨by simp [sa0], by simp [sa0], by simp, by simp, fun b t e => ?_, fun n hn => ?_, fun n hn => ?_, fun n hn => ?_, fun n hn => ?_⟩
    · by_cases e1 : b = w1.heap.size + 1
      · subst e1
        exact ⟨Nat.le_refl _, _, _, x1⟩
      · by_cases e2 : b = w1.heap.size + 1 + 1
        · subst e2
          exact ⟨by omega, _, _, x2⟩
        · simp [e1, e2] at e
    · have hn' : n < l.length := by simpa [sa0] using hn
      have e0 : (sa0 l.length).S[n] = st0 := by simp [sa0]
      rw [e0]
      exact ⟨cell_of x1 (n * 3) (made3 _ _ _ l.length n 0 hn' (by omega)), cell_of x1 (n * 3 + 1) (made3 _ _ _ l.length n 1 hn' (by omega)), cell_of x1 (n * 3 + 2) (made3 _ _ _ l.length n 2 hn' (by omega))⟩
    · have hn' : n < l.length := by simpa [sa0] using hn
      have e0 : (sa0 l.length).A[n] = false := by simp [sa0]
      rw [e0]
      exact cell_of x2 n (made1 _ l.length n hn')
    · have e0 : (sa0 l.length).S[n] = st0 := by simp [sa0]
      rw [e0]
      exact ⟨none, 0, rfl, Nat.le_refl _, Nat.zero_le _, fun k hk => by cases hk⟩
    · have e0 : (sa0 l.length).S[n] = st0 := by simp [sa0]
      rw [e0]
      exact ⟨none, 0, rfl, Nat.le_refl _, Nat.zero_le _, fun k hk => by cases hk⟩
end Go.Proofs.YtfibgdcpbkaaoaaGreatDoor
/- Which one is to be looked at next. -/
namespace Go.Proofs.YtfibgdcpbkaaoaaGreatDoor
open Go.RowKit Go.Maps
def nextV (s : SA) : Int := match nextD s with | some n => n | none => -1
theorem next_hit {s : SA} {k : Nat} (hk : k < s.A.length) (h : s.A[k] = true) (h0 : ∀ j (hj : j < s.A.length), j < k → s.A[j] = false) : nextD s = some k := by
  unfold nextD
  rw [List.findIdx?_eq_some_iff_getElem]
  exact ⟨hk, h, fun j hj => by rw [h0 j (by omega) hj]; decide⟩
theorem next_none {s : SA} (h0 : ∀ j (hj : j < s.A.length), s.A[j] = false) : nextD s = none := by
  unfold nextD
  rw [List.findIdx?_eq_none_iff]
  intro x hx
  obtain ⟨j, hj, rfl⟩ := List.mem_iff_getElem.1 hx
  rw [h0 j hj]
theorem next_some {s : SA} {k : Nat} (h : nextD s = some k) : ∃ hk : k < s.A.length, s.A[k] = true := by
  unfold nextD at h
  rw [List.findIdx?_eq_some_iff_getElem] at h
  exact ⟨h.1, h.2.1⟩
set_option maxHeartbeats 1000000 in
theorem indexB_any (w : World) (bA N : Nat) (s : SA) (hN : s.A.length = N) (hN2 : N ≤ 1000) (hc : ∀ n (h : n < s.A.length), w.cell? ⟨bA, n, none⟩ = some (.bool s.A[n])) :
    Calls Tryz.prog 91 #[.slice (some ⟨bA, 0, none⟩) N N, .bool true] w fun r w' => r = .returned (.int .i64 (nextV s)) ∧ w' = w := by
  go_enter Tryz.func91, Tryz.ntmps91
  go_wp2_with fail
  go_loopw [8] (fun i wr => ∃ k : Nat, k ≤ N ∧ i = .int .i64 k ∧ wr = w ∧ Hid (∀ j (hj : j < s.A.length), j < k → s.A[j] = false)) (fun i _ => N - (intOf i).toNat)
  case atStart => exact ⟨0, Nat.zero_le _, rfl, rfl, fun j _ hj => by omega⟩
  case round =>
    rename World => wr
    obtain ⟨k, hk, rfl, rfl, HST⟩ := hrel
    by_cases hlt : k < N
    · have hkA : k < s.A.length := by rw [hN]; exact hlt
      have c0 := hc k hkA
      have h00 : (0 : Int) ≤ k := by omega
      have h01 : (k : Int) < N := by omega
      cases hv : s.A[k] with
      | true =>
        rw [hv] at c0
        have HR : Hid (nextV s = k) := by show _ = _; unfold nextV; rw [next_hit hkA hv HST.out]
        clear hc
        go_wp2_with fail
        go_ret
        exact ⟨by rw [HR.out]; rfl, rfl⟩
      | false =>
        rw [hv] at c0
        have HNX : Hid (∀ j (hj : j < s.A.length), j < k + 1 → s.A[j] = false) := fun j hj hjk => by
          by_cases e : j = k
          · subst e; exact hv
          · exact HST.out j hj (by omega)
        clear hc
        go_wp2_with fail
        go_roundw
        case rel => exact ⟨k + 1, by omega, by go_num, trivial, HNX.out⟩
        case measure => simp [intOf]; omega
    · have HR : Hid (nextV s = -1) := by show _ = _; unfold nextV; rw [next_none fun j hj => HST.out j hj (by omega)]
      have h01 : ¬ (k : Int) < N := by omega
      clear hc
      go_wp2_with fail
      go_ret
      exact ⟨by rw [HR.out]; rfl, rfl⟩
theorem next_any {c : Lkr} {B P : Nat} {v : LkV} (hw : Wf c) (w : World) (hl : LkW c B P v w) {own : Own} {sl : Nat → Value × Value} {s : SA} (hm : LkM c B v own sl s w) :
    Calls Tryz.prog 52 #[.pointer (some ⟨P, 0, none⟩)] w fun r w' => r = .returned (.int .i64 (nextV s)) ∧ w' = w := by
  have p17 := cell_of hl.blk 17 (x := .slice (some ⟨v.bA, 0, none⟩) c.ins.length c.ins.length) rfl
  have HIX := mkHid (indexB_any w v.bA c.ins.length s hm.la (by have := hw.le; omega) hm.cA)
  clear hl hm
  go_enter Tryz.func52, Tryz.ntmps52
  go_wp2_with fail
  refine HIX.out.mono ?_
  rintro r w1 ⟨rfl, hw1⟩
  rw [hw1]
  go_wp2_with fail
  go_ret
  exact ⟨rfl, rfl⟩
end Go.Proofs.YtfibgdcpbkaaoaaGreatDoor
/- The states of a method. -/
namespace Go.Proofs.YtfibgdcpbkaaoaaGreatDoor
open Go.RowKit Go.Maps
theorem tp_len {c : Lkr} {lo st asked : List KindD} {puts : List KindD → Option (List KindD)} {r : LS} (h : tpD c lo st asked puts = some r) : r.1.length = lo.length := by rw [(tp_out h).1]
theorem stack_len {c : Lkr} {x : Cd.Op4} {lo st : List KindD} {r : LS} (h : stackD c x lo st = some r) : r.1.length = lo.length := by
  unfold stackD at h
  (repeat' split at h) <;> first | exact tp_len h | (cases h; rfl) | (cases h; done) | (obtain ⟨a, h1, h2⟩ := Option.map_eq_some_iff.1 h; subst h2; simp)
theorem branch_len {c : Lkr} {x : Cd.Op4} {lo st : List KindD} {r : LS} (h : branchD c x lo st = some r) : r.1.length = lo.length := by
  unfold branchD at h
  (repeat' split at h) <;> first | exact tp_len h | (cases h; rfl)
theorem rowO_len {c : Lkr} {x : Cd.Op4} {lo st : List KindD} {r : LS} (h : rowD c x lo st = some r) : r.1.length = lo.length := by
  unfold rowD at h
  (repeat' split at h) <;> first | exact tp_len h | (cases h; rfl)
theorem thing_len {c : Lkr} {x : Cd.Op4} {lo st : List KindD} {r : LS} (h : thingD c x lo st = some r) : r.1.length = lo.length := by
  unfold thingD at h
  (repeat' split at h) <;> first | exact tp_len h | (cases h; rfl)
theorem callO_len {c : Lkr} {x : Cd.Op4} {lo st : List KindD} {r : LS} (h : callD c x lo st = some r) : r.1.length = lo.length := by
  unfold callD at h
  (repeat' split at h) <;> first | exact tp_len h | (cases h; rfl)
theorem run_len {c : Lkr} {x : Cd.Op4} {lo st lo' st' : List KindD} (h : runD c x lo st = some (lo', st')) : lo'.length = lo.length ∧ (st'.length : Int) ≤ c.m.stack := by
  unfold runD at h
  split at h
  · obtain ⟨r', h1, h2⟩ := Option.bind_eq_some_iff.1 h
    split at h2
    · rename_i hst
      cases h2
      refine ⟨?_, of_decide_eq_true hst⟩
      unfold workD at h1
      (repeat' split at h1)
      · exact tp_len h1
      · exact branch_len h1
      · exact rowO_len h1
      · exact thing_len h1
      · exact callO_len h1
      · exact stack_len h1
    · cases h2
  · cases h
def RSt (M : Nat → Prop) (w : World) (cs : List Value) (s : StD) : Prop := ∃ vL vS, cs = [.bool s.comes, vL, vS] ∧ SL 2 RK M w vL s.locals ∧ SL 2 RK M w vS s.stack
theorem SL.monoSt {M M' : Nat → Prop} {w : World} {v : Value} {l : List StD} (h : SL 3 RSt M w v l) (hM : ∀ b, M b → M' b) : SL 3 RSt M' w v l := h.mono hM fun _ _ ⟨vL, vS, e, h1, h2⟩ => ⟨vL, vS, e, h1.monoK hM, h2.monoK hM⟩
theorem SL.keptSt {M : Nat → Prop} {w w' : World} {v : Value} {l : List StD} (h : SL 3 RSt M w v l) (hk : Kp M w w') : SL 3 RSt M w' v l := h.kept hk fun _ _ ⟨vL, vS, e, h1, h2⟩ => ⟨vL, vS, e, h1.keptK hk, h2.keptK hk⟩
theorem LkM.states {c : Lkr} {B : Nat} {v : LkV} {own : Own} {sl : Nat → Value × Value} {s : SA} {w : World} (h : LkM c B v own sl s w) (hl : c.ins.length ≤ 1000) : SL 3 RSt (fun k => B ≤ k ∧ k < w.heap.size) w (.slice (some ⟨v.bS, 0, none⟩) c.ins.length c.ins.length) s.S := by
  refine ⟨some ⟨v.bS, 0, none⟩, c.ins.length, by rw [h.ls], by rw [h.ls]; exact Nat.le_refl _, by rw [h.ls]; unfold maxLen; omega, fun k hk => ?_⟩
  obtain ⟨c0, c1, c2⟩ := h.cS k hk
  refine ⟨v.bS, 0, [.bool s.S[k].comes, (sl k).1, (sl k).2], rfl, ⟨(h.blk _ _ h.oS).1, h.lt h.oS⟩, h.lt h.oS, rfl, fun j hj => ?_, _, _, rfl, (h.rL k hk).monoK fun b hb => ⟨(h.blk _ _ hb).1, h.lt hb⟩, (h.rS k hk).monoK fun b hb => ⟨(h.blk _ _ hb).1, h.lt hb⟩⟩
  match j, hj with
  | 0, _ => rw [Nat.zero_add]; exact c0
  | 1, _ => rw [Nat.zero_add]; exact c1
  | 2, _ => rw [Nat.zero_add]; exact c2
def statesD (d : LinkD) (L : ByteArray → List ByteArray) (m : MethD) (ci : Nat) : Option SA :=
  match firstL d m ci with
  | none => none
  | some lo => match Cd.full m.code with
    | .error _ => none
    | .ok l => if m.hands.all (handOk ⟨d, L, m, l⟩) then (comeD ⟨d, L, m, l⟩ (sa0 l.length) 0 lo []).bind fun s0 => loopD ⟨d, L, m, l⟩ (mu ⟨d, L, m, l⟩ s0 + 1) s0 else none
def StsOut (res : Option SA) (r : Ending) (w w' : World) : Prop := Below w.heap.size w w' ∧ ((∃ s v, res = some s ∧ r = .returned v ∧ SL 3 RSt (fun k => w.heap.size ≤ k ∧ k < w'.heap.size) w' v s.S) ∨ (res = none ∧ ∃ e p, e ≠ 0 ∧ r = .panicked [wrongV e p]))
def HandOk (c : Lkr) (h : HandD) : Prop := ∀ (B P : Nat) (v : LkV) (W : World), LkW c B P v W → Calls Tryz.prog 50 #[.pointer (some ⟨P, 0, none⟩), .agg #[.int .i64 h.frm, .int .i64 h.upto, .int .i64 h.loc, .string h.cls]] W fun r w' => Below W.heap.size W w' ∧ ((handOk c h = true ∧ r = .returned (.tuple #[])) ∨ (handOk c h = false ∧ ∃ e p, e ≠ 0 ∧ r = .panicked [wrongV e p]))
theorem sa0_inv (c : Lkr) (n : Nat) : Inv c (sa0 n) := fun k hk => by
  have e : (sa0 n).S[k] = st0 := by simp [sa0]
  rw [e]
  exact ⟨fun h => by simp [st0] at h, nil_gd, nil_gd⟩
theorem sa0_a (n : Nat) : AInv (sa0 n) := fun k hk hk' e => by simp [sa0] at e
theorem first_gd {c : Lkr} (hc : Cls c.d c.L) {ci : Nat} {lo : List KindD} (hci : ci < c.d.classes.length) (hga : ∀ k ∈ c.m.args, GdK (Kn c) k) (h : firstL c.d c.m ci = some lo) : lo.length = c.m.locals.toNat ∧ ∀ k ∈ lo, GdK (Kn c) k := by
  by_cases h0 : ((fst0 c ci).length : Int) ≤ c.m.locals
  · rw [first_ok h0] at h
    cases h
    refine ⟨by rw [List.length_append, List.length_replicate]; omega, fun k hk => ?_⟩
    rcases List.mem_append.1 hk with hk | hk
    · unfold fst0 at hk
      rcases List.mem_append.1 hk with hk | hk
      · split at hk
        · cases hk
        · simp at hk
          rw [hk]
          refine Or.inl ⟨Or.inl rfl, ?_⟩
          show 0 ≤ num c.d.classes (clsAt c.d.classes ci).name
          rw [clsAt_eq hci, hc.nn ci hci]
          omega
      · exact hga k hk
    · rw [List.eq_of_mem_replicate hk]
      exact anyK_gd c
  · rw [first_no h0] at h
    cases h
theorem loop_end {c : Lkr} {f : Nat} {s : SA} (h : nextD s = none) : loopD c (f + 1) s = some s := by
  unfold loopD
  rw [h]
theorem loop_go {c : Lkr} {f : Nat} {s : SA} {n : Nat} (h : nextD s = some n) : loopD c (f + 1) s = (lookD c ⟨s.S, s.A.set n false⟩ n).bind (loopD c f) := by
  rw [loopD]
  rw [h]
set_option maxRecDepth 100000 in
set_option maxHeartbeats 16000000 in
theorem statesOf_any (w : World) (kC kS kF kN kT : Value) (Bm : Nat) (d : LinkD) (L : ByteArray → List ByteArray) (hk : Kd w.heap.size w kC kS kF kN kT Bm d) (hg : GlK w) (hT : Cd.Tabs w) (ci mi : Nat) (hci : ci < d.classes.length) (hmi : mi < d.classes[ci].meths.length) (m : MethD) (hm : m = d.classes[ci].meths[mi])
    (hcls : Cls d L) (hlc : m.locals ≤ 10) (hag : m.args.length ≤ 4) (hga : ∀ k ∈ m.args, GdK (fun s => 0 ≤ num d.classes s) k) (hwf : ∀ l, Cd.full m.code = .ok l → Wf ⟨d, L, m, l⟩)
    (hrun : ∀ l B P v n, Cd.full m.code = .ok l → n < l.length → RunOk ⟨d, L, m, l⟩ B P v (Cd.get4 l n)) (hch : ∀ l, Cd.full m.code = .ok l → ∀ h ∈ m.hands, HandOk ⟨d, L, m, l⟩ h) :
    Calls Tryz.prog 23 #[kdV kC kS kF kN kT Bm, .int .i64 (ci : Int), .int .i64 (mi : Int)] w fun r w' => StsOut (statesD d L m ci) r w w' := by
  obtain ⟨W0, hW0, hB0, hs0, hx0⟩ := boxes1 w #[kC, kS, kF, kN, kT, .map (some Bm)] 75
  have hk0 := hk.below hB0
  have hC := hk0.lk.C
  obtain ⟨aC, cC, rfl, -⟩ := hk0.lk.C
  obtain ⟨aS, cS, rfl, -⟩ := hk0.lk.S
  obtain ⟨aF, cF, rfl, -⟩ := hk0.lk.F
  obtain ⟨aN, cN, rfl, -⟩ := hk0.lk.N
  obtain ⟨aT, cT, rfl, -⟩ := hk0.lk.T
  obtain ⟨bC, oC, vf, vm, e9, hbC, -, -, -, k3, -, hM, -, -⟩ := hC.atC ci hci
  subst e9
  have hM0 := hM
  obtain ⟨aM, cM, rfl, -, hlM, -⟩ := hM0
  obtain ⟨bM, oM, va, vh, e9, hbM, m0, m1, m2, m3, m4, m5, m6, m7, m8, hva, hvh, -, -, hcsz⟩ := hM.atM mi hmi
  subst e9
  rw [← hm] at m0 m1 m3 m4 m5 m6 m7 hva hvh hcsz
  have HVA := mkHid hva
  have HVH := mkHid hvh
  obtain ⟨aa, ca, rfl, -⟩ := hva
  obtain ⟨ah, ch, rfl, -, hlh, -⟩ := hvh
  have x0 := cell_of hx0 0 (x := .slice (some ⟨bC, oC, none⟩) d.classes.length cC) rfl
  have x1 := cell_of hx0 1 (x := .slice aS d.supers.length cS) rfl
  have x2 := cell_of hx0 2 (x := .slice aF d.fields.length cF) rfl
  have x3 := cell_of hx0 3 (x := .slice aN d.names.length cN) rfl
  have x4 := cell_of hx0 4 (x := .slice aT d.targets.length cT) rfl
  have x5 := cell_of hx0 5 (x := .map (some Bm)) rfl
  have HCSZ := mkHid hcsz
  have HK0 := mkHid hk0
  have HB0 := mkHid hB0
  have HG := mkHid hg
  have HT := mkHid hT
  have HGA := mkHid hga
  have HWF := mkHid hwf
  have HRN := mkHid hrun
  have HCH := mkHid hch
  have HCL := mkHid hcls
  have lC : bC < W0.heap.size := hbC
  have lM : bM < W0.heap.size := hbM
  have lX : w.heap.size < W0.heap.size := by omega
  have h00 : (0 : Int) ≤ ci := by omega
  have h01 : (ci : Int) < d.classes.length := by omega
  have h02 : (0 : Int) ≤ mi := by omega
  have h03 : (mi : Int) < d.classes[ci].meths.length := by omega
  have HCI := mkHid hci
  have HS0 := mkHid hs0
  have HMB : Hid (6 < w.heap.size) := hg.big
  have HMH : Hid (m.hands.length ≤ maxLen) := hlh
  obtain ⟨P, hP⟩ : ∃ P, P = W0.heap.size := ⟨_, rfl⟩
  obtain ⟨v, hv⟩ : ∃ v : LkV, v = ⟨.slice (some ⟨bC, oC, none⟩) d.classes.length cC, .slice aS d.supers.length cS, .slice aF d.fields.length cF, .slice aN d.names.length cN, .slice aT d.targets.length cT, Bm, .slice aa m.args.length ca, .slice ah m.hands.length ch, 0, 0, 0, 0⟩ := ⟨_, rfl⟩
  obtain ⟨W1, hW1⟩ : ∃ W1, W1 = (W0.alloc (.cells #[.slice (some ⟨bC, oC, none⟩) d.classes.length cC, .slice aS d.supers.length cS, .slice aF d.fields.length cF, .slice aN d.names.length cN, .slice aT d.targets.length cT, .map (some Bm), .string m.name, .bool m.static, .slice aa m.args.length ca, .int .i64 m.ret.kind, .string m.ret.cls, .int .i64 m.stack, .int .i64 m.locals, .string m.code, .slice ah m.hands.length ch, .slice none 0 0, .slice none 0 0, .slice none 0 0] 108)).drew := ⟨_, rfl⟩
  have hB1 : Below W0.heap.size W0 W1 := by rw [hW1]; exact ((Below.refl _ _).alloc (Nat.le_refl _) _).drew
  have HB1 : Hid (Below w.heap.size w W1) := hB0.trans (hB1.mono hB0.size)
  have hs1 : W1.heap.size = P + 1 := by rw [hW1, hP]; simp
  have HLA : Hid (LkA ⟨d, L, m, []⟩ w.heap.size P v W1) := by
    have hbb := hB1.mono hB0.size
    refine ⟨?_, by rw [hP]; exact hB0.size, by rw [hv]; exact HK0.out.below hbb, by rw [hv]; exact (HVA.out.keptK (Kp.below hbb)), by rw [hv]; exact (HVH.out.keptH (Kp.below hbb)), HG.out.below HB1.out, hg.big, by omega⟩
    rw [hv, hW1, hP]
    exact heap_alloc_new W0 _
  have HS1 := mkHid hs1
  have HPW : Hid (P = W0.heap.size) := hP
  clear hk hk0 hC hM hm hmi hB0 hx0 hbC hbM hg hT hcls hga hwf hrun hch hlM hcsz hB1 hs1 hs0
  generalize d.classes[ci].meths.length = lm at *
  go_enter Tryz.func23, Tryz.ntmps23
  go_wp2_with fail
  rw [← hW0]
  clear hW0
  refine wp_region_held_drew (S := fun W' => ∀ p : Addr, p.block < W0.heap.size → W'.cell? p = W0.cell? p) (by kernel_rfl) (fun p hp => rfl) fun hH => ?_
  refine ta 0 (.agg #[.slice (some ⟨bC, oC, none⟩) d.classes.length cC, .slice aS d.supers.length cS, .slice aF d.fields.length cF, .slice aN d.names.length cN, .slice aT d.targets.length cT, .map (some Bm)]) rfl hH ?_
  refine ta 1 (.pointer (some ⟨w.heap.size, 0, none⟩)) rfl hH ?_
  refine ta 2 (.pointer (some ⟨w.heap.size, 0, none⟩)) rfl hH ?_
  refine ta 3 (.slice (some ⟨bC, oC, none⟩) d.classes.length cC) rfl hH ?_
  refine ta 4 (.int .i64 (ci : Int)) rfl hH ?_
  refine ta 5 (.pointer (some ⟨bC, oC + ci * 4, none⟩)) rfl hH ?_
  refine ta 6 (.pointer (some ⟨bC, oC + ci * 4 + 3, none⟩)) rfl hH ?_
  refine ta 7 (.slice (some ⟨bM, oM, none⟩) lm cM) rfl hH ?_
  refine ta 8 (.int .i64 (mi : Int)) rfl hH ?_
  refine ta 9 (.pointer (some ⟨bM, oM + mi * 9, none⟩)) rfl hH ?_
  refine ta 10 (.agg #[.string m.name, .bool m.static, .slice aa m.args.length ca, .int .i64 m.ret.kind, .string m.ret.cls, .int .i64 m.stack, .int .i64 m.locals, .string m.code, .slice ah m.hands.length ch]) rfl hH ?_
  refine ta 11 (.agg #[.slice (some ⟨bC, oC, none⟩) d.classes.length cC, .slice aS d.supers.length cS, .slice aF d.fields.length cF, .slice aN d.names.length cN, .slice aT d.targets.length cT, .map (some Bm), .string m.name, .bool m.static, .slice aa m.args.length ca, .int .i64 m.ret.kind, .string m.ret.cls, .int .i64 m.stack, .int .i64 m.locals, .string m.code, .slice ah m.hands.length ch, .slice none 0 0, .slice none 0 0, .slice none 0 0]) rfl hH ?_
  refine wpAnyH_ready (rs := [12]) (by kernel_rfl) (by simp) ?_
  refine AllReadyH.cons rfl (fun K12 hK12 => ?_) AllReadyH.nil
  go_simp
  refine hK12.out _ _ (fun p hp => Below.cell (B := W0.heap.size) (w := W0) ((Below.refl _ _).drew.alloc (Nat.le_refl _) _) hp) fun hH => ?_
  refine ta 13 (.pointer (some ⟨W0.heap.size, 0, none⟩)) rfl hH ?_
  refine wpAnyH_done (by kernel_rfl) ?_ _
  clear hH
  try simp only [Act.put, List.setIfInBounds_toArray, List.set_cons_zero, List.set_cons_succ, List.getElem_toArray, List.getElem_cons_zero, List.getElem_cons_succ]
  go_wp2_with fail
  rw [← hP]
  rw [← hW1]
  clear hW1 hP x0 x1 x2 x3 x4 x5 k3 m0 m1 m2 m3 m4 m5 m6 m7 m8
  refine (firstLocals_any (c := ⟨d, L, m, []⟩) hlc hag W1 HLA.out ci HCI.out).mono ?_
  rintro r w2 ⟨hb2, ⟨lo, vLo, hfi, rfl, hoL⟩ | ⟨hfi, e2, p2, he2, rfl⟩⟩
  rotate_left
  · exact ⟨rfl, HB1.out.trans (hb2.mono HB1.out.size), Or.inr ⟨by unfold statesD; rw [show firstL d m ci = none from hfi], e2, p2, he2, rfl⟩⟩
  have HB2 := mkHid (HB1.out.trans (hb2.mono HB1.out.size))
  have HFI : Hid (firstL d m ci = some lo) := hfi
  obtain ⟨aL, cL, rfl⟩ := own_shape hoL
  have HOL := mkHid hoL
  have HDC := mkHid (decode_any (c := ⟨d, L, m, []⟩) w2 (HLA.out.below (hb2.mono HLA.out.bw)) (HT.out.below HB2.out) HCSZ.out)
  have HS2 : Hid (P + 1 ≤ w2.heap.size) := (by have := hb2.size; have := HS1.out; omega : P + 1 ≤ w2.heap.size)
  clear hb2 hfi hoL
  go_wp2_with fail
  refine HDC.out.mono ?_
  rintro r w3 (⟨l, B3, gI, cI, bS, bA, own, hfl, rfl, hBs, hown, hlw, hlm, hwr⟩ | ⟨hno, e3, p3, he3, rfl, hb3⟩)
  rotate_left
  · refine ⟨rfl, HB2.out.trans (hb3.mono HB2.out.size), Or.inr ⟨?_, e3, p3, he3, rfl⟩⟩
    unfold statesD
    rw [HFI.out]
    cases hq : Cd.full m.code with
    | error e => simp
    | ok l => exact absurd hq (hno l)
  have hWF := HWF.out l hfl
  obtain ⟨c, hc⟩ : ∃ c : Lkr, c = ⟨d, L, m, l⟩ := ⟨_, rfl⟩
  have HWC : Hid (Wf c) := hc ▸ hWF
  have HRC : Hid (∀ B P v n, n < l.length → RunOk c B P v (Cd.get4 l n)) := hc ▸ fun B P v n hn => HRN.out l B P v n hfl hn
  have HCC : Hid (∀ h ∈ m.hands, HandOk c h) := hc ▸ HCH.out l hfl
  have HST : Hid (statesD d L m ci = if m.hands.all (handOk c) then (comeD c (sa0 l.length) 0 lo []).bind fun s0 => loopD c (mu c s0 + 1) s0 else none) := by
    show _ = _
    unfold statesD
    rw [HFI.out, hfl, hc]
  obtain ⟨v3, hv3⟩ : ∃ v3 : LkV, v3 = { v with gI := gI, cI := cI, bS := bS, bA := bA } := ⟨_, rfl⟩
  have HLW : Hid (LkW c B3 P v3 w3) := by rw [hc, hv3]; exact hlw
  have HLM : Hid (LkM c B3 v3 own (fun _ => (.slice none 0 0, .slice none 0 0)) (sa0 l.length) w3) := by rw [hc, hv3]; exact hlm
  have HCI3 : Hid (c.ins = l ∧ c.m = m ∧ c.d = d) := by rw [hc]; exact ⟨rfl, rfl, rfl⟩
  have HV3 : Hid (v3.vH = .slice ah m.hands.length ch) := by rw [hv3, hv]; rfl
  have hb3 : Below w.heap.size w w3 := HB2.out.trans (hwr.below (fun b hb => by subst hb; have := HPW.out; omega) HB2.out.size)
  have HB3 := mkHid hb3
  have HPOS := mkHid (full_pos hfl)
  have HBS : Hid (w.heap.size ≤ B3) := Nat.le_trans HB2.out.size hBs
  have HFG := mkHid (first_gd (c := ⟨d, L, m, l⟩) HCL.out HCI.out HGA.out HFI.out)
  have HFG2 : Hid (lo.length = c.m.locals.toNat ∧ ∀ k ∈ lo, GdK (Kn c) k) := by rw [hc]; exact HFG.out
  have HOL3 : Hid (OwnK w3 W1.heap.size (.slice aL lo.length cL) lo) := by
    refine ⟨HOL.out.1, ?_⟩
    rcases HOL.out.2 with h1 | ⟨g, cap, cur, e, h2, h3, h4⟩
    · exact Or.inl h1
    · exact Or.inr ⟨g, cap, cur, e, h2, (hwr.block g (lt_of h3) (fun e' => by have := HS1.out; omega)).trans h3, h4⟩
  have HON : Hid (∀ b, (Value.slice aL lo.length cL).ownBlock = some b → own b = none ∧ b < w3.heap.size) := fun b e => ⟨by
    cases h : own b with
    | none => rfl
    | some t => exact absurd (hown b (by rw [h]; simp)) (by have := (HOL.out.lt b e).2; omega), (HOL3.out.lt b e).2⟩
  clear hlw hlm hwr hown hBs hfl hWF hv3 hv hb3 hc
  have p14 : w3.cell? ⟨P, 14, none⟩ = some (.slice ah m.hands.length ch) := by rw [← HV3.out]; exact cell_of HLW.out.blk 14 rfl
  have HHD : Hid (SL 4 RH (· < B3) w3 (.slice ah m.hands.length ch) m.hands) := by have := HLW.out.hd; rw [HV3.out, HCI3.out.2.1] at this; exact this
  have hmh : m.hands.length ≤ 9223372036854775807 := by have := HMH.out; unfold maxLen at this; omega
  go_wp2_with fail
  go_loopw [36] (fun i wr => ∃ k : Nat, k ≤ m.hands.length ∧ i = .int .i64 k ∧ Hid (Below w3.heap.size w3 wr ∧ (m.hands.take k).all (handOk c) = true)) (fun i _ => m.hands.length - (intOf i).toNat)
  case atStart => exact ⟨0, Nat.zero_le _, rfl, Below.refl _ _, rfl⟩
  case round =>
    rename World => wr
    obtain ⟨k, hkk, rfl, HIT⟩ := hrel
    have HBr := mkHid (HB3.out.trans (HIT.out.1.mono HB3.out.size))
    by_cases hlt : k < m.hands.length
    · have HHr : Hid (SL 4 RH (· < B3) wr (.slice ah m.hands.length ch) m.hands) := HHD.out.keptH (Kp.below (HIT.out.1.mono HLW.out.bw))
      obtain ⟨bH, oH, e9, hbH, d0, d1, d2, d3, dsz⟩ := HHr.out.atH k hlt
      subst e9
      have HLWr := mkHid (HLW.out.below (HIT.out.1.mono HLW.out.bw))
      have HTA : Hid ((m.hands.take (k + 1)).all (handOk c) = handOk c m.hands[k]) := by
        show _ = _
        rw [List.take_succ_eq_append_getElem hlt, List.all_append, HIT.out.2]
        simp
      have HNO : Hid (handOk c m.hands[k] = false → m.hands.all (handOk c) = false) := fun h => by
        rw [List.all_eq_false]
        exact ⟨m.hands[k], List.getElem_mem hlt, by rw [h]; decide⟩
      have HOKH := mkHid (HCC.out _ (List.getElem_mem hlt))
      have HMT := mkHid (And.intro hlt (Nat.succ_le_of_lt hlt))
      have g00 : (0 : Int) ≤ k := by omega
      have g01 : (k : Int) < m.hands.length := by omega
      generalize m.hands[k] = hd at *
      have HBX := mkHid ((Below.refl wr.heap.size wr).alloc (Nat.le_refl _) (.cells #[.int .i64 hd.frm, .int .i64 hd.upto, .int .i64 hd.loc, .string hd.cls] 111))
      have HCK := mkHid (HOKH.out B3 P v3 _ (HLWr.out.below (HBX.out.mono HLWr.out.bw)))
      go_wp2_with fail
      refine HCK.out.mono ?_
      rintro r w5 ⟨hb5, ⟨hok, rfl⟩ | ⟨hok, e5, p5, he5, rfl⟩⟩
      rotate_left
      · exact ⟨rfl, HBr.out.trans ((HBX.out.trans (hb5.mono HBX.out.size)).mono HBr.out.size), Or.inr ⟨by rw [HST.out, HNO.out hok]; rfl, e5, p5, he5, rfl⟩⟩
      have HB5 := mkHid (HIT.out.1.trans ((HBX.out.trans (hb5.mono HBX.out.size)).mono HIT.out.1.size))
      have HOKK := mkHid hok
      clear hb5 hok
      go_wp2_with fail
      go_roundw
      case rel => exact ⟨k + 1, HMT.out.2, by go_num, HB5.out, HTA.out.trans HOKK.out⟩
      case measure => have hmt9 := HMT.out.1; simp [intOf]; omega
    have HALL : Hid (statesD d L m ci = (comeD c (sa0 l.length) 0 lo []).bind fun s0 => loopD c (mu c s0 + 1) s0) := by
      show _ = _
      rw [HST.out, if_pos]
      have h9 := HIT.out.2
      rwa [List.take_of_length_le (by omega)] at h9
    have HLWr := mkHid (HLW.out.below (HIT.out.1.mono HLW.out.bw))
    have HLMr := mkHid (HLM.out.up HIT.out.1)
    have HNP : Hid (0 < c.ins.length) := by rw [HCI3.out.1]; exact HPOS.out
    have HNL : Hid (c.ins.length ≤ 1000) := (by have := HWC.out.le; omega : c.ins.length ≤ 1000)
    have h01' : ¬ (k : Int) < m.hands.length := by omega
    have HCO : Hid (Calls Tryz.prog 51 #[.pointer (some ⟨P, 0, none⟩), .int .i64 ((0 : Nat) : Int), .slice aL lo.length cL, .slice none 0 0] wr fun r w' => CmOut c B3 v3 own (fun _ => (.slice none 0 0, .slice none 0 0)) (sa0 l.length) (comeD c (sa0 l.length) 0 lo []) r wr w') := by
      refine come_any HWC.out wr HLWr.out HLMr.out (sa0_inv c _) 0 HNP.out _ _ lo [] (Or.inl ⟨_, own_SLK (own_up HOL3.out HIT.out.1) (fun k hk => gd_small HWC.out.cls HLWr.out.kd (HFG2.out.2 k hk)), fun b hb => ⟨(HON.out b hb).1, Nat.lt_of_lt_of_le (HON.out b hb).2 HIT.out.1.size⟩⟩) (fun _ => False) ⟨none, 0, rfl, Nat.le_refl _, Nat.zero_le _, fun k hk => by cases hk⟩ (fun b hb => hb.elim) HFG2.out.1 (by simp) HFG2.out.2 nil_gd
    clear HST HHD HCC HON
    go_wp2_with fail
    refine HCO.out.mono ?_
    rintro r w6 ⟨hk6, ⟨s0, own0, sl0, hr0, rfl, ho0, hs0, hm0⟩ | ⟨hr0, e6, p6, he6, rfl⟩⟩
    rotate_left
    · exact ⟨rfl, HBr.out.trans (hk6.below (fun b hb => Nat.le_trans HBS.out (HLMr.out.geN hb)) HBr.out.size), Or.inr ⟨by rw [HALL.out, hr0]; rfl, e6, p6, he6, rfl⟩⟩
    have HFIN : Hid (statesD d L m ci = loopD c (mu c s0 + 1) s0) := by show _ = _; rw [HALL.out, hr0]; rfl
    have hGO0 := come_go HWC.out HLMr.out.ls HLMr.out.la HNP.out (sa0_inv c _) (sa0_a _) HFG2.out.1 HFG2.out.2 nil_gd hr0
    have HB6 : Hid (Below B3 w3 w6) := (HIT.out.1.mono HLW.out.bw).trans (hk6.below (fun b hb => HLMr.out.geN hb) HLWr.out.bw)
    have HM6 := mkHid hm0
    have HI6 := mkHid hGO0.iv
    have HA6 := mkHid hGO0.av
    have HLW6 := mkHid (HLW.out.below HB6.out)
    clear hk6 hr0 ho0 hs0 hm0 hGO0 HCO HALL
    go_wp2_with fail
    refine (next_any HWC.out w6 HLW6.out HM6.out).mono ?_
    rintro r w7 ⟨rfl, hw7⟩
    rw [hw7]
    clear hw7 w7
    go_wp2_with fail
    go_loopg [11] (mu c s0 + 1) (fun gk n wz => ∃ s own1 sl1, n = .int .i64 (nextV s) ∧ Hid (mu c s < gk ∧ loopD c (mu c s0 + 1) s0 = loopD c gk s ∧ LkM c B3 v3 own1 sl1 s wz ∧ Inv c s ∧ AInv s ∧ Below B3 w3 wz))
    case atStart => exact ⟨s0, own0, sl0, rfl, Nat.lt_succ_self _, rfl, HM6.out, HI6.out, HA6.out, HB6.out⟩
    case round =>
      rename Nat => gk
      rename World => wz
      obtain ⟨s, own1, sl1, rfl, HZ⟩ := hrel
      obtain ⟨gk', rfl⟩ : ∃ gk', gk = gk' + 1 := ⟨gk - 1, by have := HZ.out.1; omega⟩
      have HLWz := mkHid (HLW.out.below HZ.out.2.2.2.2.2)
      have HMz := mkHid HZ.out.2.2.1
      have HBz : Hid (Below w.heap.size w wz) := HB3.out.trans (HZ.out.2.2.2.2.2.mono HBS.out)
      cases hnx : nextD s with
      | none =>
        have hnv : nextV s = -1 := by unfold nextV; rw [hnx]
        have HRE : Hid (statesD d L m ci = some s) := by show _ = _; rw [HFIN.out, HZ.out.2.1, loop_end hnx]
        have HSTS := mkHid ((HMz.out.states HNL.out).monoSt (M' := fun k => w.heap.size ≤ k ∧ k < wz.heap.size) fun k hk => ⟨Nat.le_trans HBS.out hk.1, hk.2⟩)
        have q16 := cell_of HLWz.out.blk 16 (x := .slice (some ⟨v3.bS, 0, none⟩) c.ins.length c.ins.length) rfl
        rw [hnv]
        clear hnx hnv
        go_wp2_with fail
        go_ret
        exact ⟨HBz.out, Or.inl ⟨s, _, HRE.out, rfl, HSTS.out⟩⟩
      | some n =>
        have hnv : nextV s = n := by unfold nextV; rw [hnx]
        obtain ⟨hnA, hon⟩ := next_some hnx
        have hnI : n < c.ins.length := by rw [← HMz.out.la]; exact hnA
        have hnS : n < s.S.length := by rw [HMz.out.ls]; exact hnI
        have HGO : Hid (loopD c (gk' + 1) s = (lookD c ⟨s.S, s.A.set n false⟩ n).bind (loopD c gk')) := loop_go hnx
        obtain ⟨hmu, hav, hcm⟩ := off_mu (c := c) HMz.out.ls HMz.out.la hnI HZ.out.2.2.2.2.1 (fun _ => hon)
        have HMU := mkHid hmu
        have HMK := mkHid (HMz.out.mark hnA false)
        have HIV : Hid (Inv c ⟨s.S, s.A.set n false⟩) := HZ.out.2.2.2.1
        have HAV := mkHid hav
        have HCM := mkHid hcm
        have q17 := cell_of HLWz.out.blk 17 (x := .slice (some ⟨v3.bA, 0, none⟩) c.ins.length c.ins.length) rfl
        have a0 := HMz.out.cA n hnA
        obtain ⟨hBA, csA, tyA, hbA⟩ := HMz.out.blk _ _ HMz.out.oA
        have fa := frz_of hbA
        have HBK : Hid (Below B3 w3 (wz.setCell ⟨v3.bA, n, none⟩ (.bool false))) := HZ.out.2.2.2.2.2.setCell hBA _
        have HLWk := mkHid (HLW.out.below HBK.out)
        have HLOOK := mkHid (look_any HWC.out _ HLWk.out HNP.out HMK.out HIV.out n hnI (hcm hnS) (by have h9 := HRC.out B3 P v3 n (by rw [← HCI3.out.1]; exact hnI); rw [← HCI3.out.1] at h9; exact h9) (fun x lo st lo' st' h => run_len h))
        have n00 : (0 : Int) ≤ n := by omega
        have n01 : (n : Int) < c.ins.length := by omega
        rw [hnv]
        clear hnx hnv hbA hmu hav hcm hBA
        go_wp2_with fail
        refine HLOOK.out.mono ?_
        rintro r w8 ⟨hk8, ⟨s8, own8, sl8, hr8, rfl, ho8, hs8, hm8⟩ | ⟨hr8, e8, p8, he8, rfl⟩⟩
        rotate_left
        · refine ⟨rfl, ?_, Or.inr ⟨by rw [HFIN.out, HZ.out.2.1, HGO.out, hr8]; rfl, e8, p8, he8, rfl⟩⟩
          have h9 : Below w.heap.size w (wz.setCell ⟨v3.bA, n, none⟩ (.bool false)) := HB3.out.trans (HBK.out.mono HBS.out)
          exact h9.trans (hk8.below (fun b hb => Nat.le_trans HBS.out (HMK.out.geN hb)) h9.size)
        have hG8 := look_go HWC.out HNP.out HMK.out.ls HMK.out.la hnI HIV.out HAV.out (fun h => HCM.out h) hr8
        have HB8 : Hid (Below B3 w3 w8) := HBK.out.trans (hk8.below (fun b hb => HMK.out.geN hb) HLWk.out.bw)
        have HLW8 := mkHid (HLW.out.below HB8.out)
        have HM8 := mkHid hm8
        have HZ8 : Hid (mu c s8 < gk' ∧ loopD c (mu c s0 + 1) s0 = loopD c gk' s8 ∧ Inv c s8 ∧ AInv s8) := ⟨by have h1 := hG8.mu; have h2 := HMU.out; have h3 := HZ.out.1; omega, by rw [HZ.out.2.1, HGO.out, hr8]; rfl, hG8.iv, hG8.av⟩
        clear hk8 hr8 ho8 hs8 hm8 hG8
        go_wp2_with fail
        refine (next_any HWC.out w8 HLW8.out HM8.out).mono ?_
        rintro r w9 ⟨rfl, hw9⟩
        rw [hw9]
        clear hw9 w9
        go_wp2_with fail
        go_roundg gk'
        case measure => omega
        case rel => exact ⟨s8, own8, sl8, rfl, HZ8.out.1, HZ8.out.2.1, HM8.out, HZ8.out.2.2.1, HZ8.out.2.2.2, HB8.out⟩
end Go.Proofs.YtfibgdcpbkaaoaaGreatDoor
/- The check of a handler. -/
namespace Go.Proofs.YtfibgdcpbkaaoaaGreatDoor
open Go.RowKit Go.Maps
set_option maxHeartbeats 2000000 in
theorem begins_any {c : Lkr} {B P : Nat} {v : LkV} (hw : Wf c) (w : World) (hl : LkW c B P v w) (loc : Int) :
    Calls Tryz.prog 88 #[.pointer (some ⟨P, 0, none⟩), .int .i64 loc] w fun r w' => r = .returned (.bool (beginsD c.ins loc)) ∧ Below w.heap.size w w' := by
  have p15 := cell_of hl.blk 15 (x := .slice (some ⟨v.gI, 0, none⟩) c.ins.length v.cI) rfl
  have HPL := mkHid (Cd.place_any w v.gI 0 v.cI c.ins loc hl.hi (by have := hw.le; omega) hl.le)
  have HR : Hid (beginsD c.ins loc = decide (Cd.placeE c.ins loc = 0)) := rfl
  generalize Cd.placeE c.ins loc = e at *
  clear hl
  go_enter Tryz.func88, Tryz.ntmps88
  go_wp2_with fail
  refine HPL.out.mono ?_
  rintro r w1 ⟨rfl, hb1⟩
  go_wp2_with fail
  go_ret
  exact ⟨by rw [HR.out]; by_cases h : e = 0 <;> simp [h], hb1⟩
theorem and3_1 {a b d : Bool} (h : a = false) : ((a && b) && d) = false := by rw [h]; rfl
theorem and3_2 {a b d : Bool} (h : b = false) : ((a && b) && d) = false := by rw [h]; cases a <;> rfl
set_option maxRecDepth 100000 in
set_option maxHeartbeats 8000000 in
theorem hand_any {c : Lkr} (hw : Wf c) {h : HandD} (hm : h ∈ c.m.hands) : HandOk c h := by
  intro B P v W hl
  have hkn := hw.hk h hm
  have hsz : h.cls.size ≤ maxLen := by
    obtain ⟨k, hk, e⟩ := List.mem_iff_getElem.1 hm
    have hd := hl.hd
    obtain ⟨aH, cH, eH, -⟩ := hl.hd
    rw [eH] at hd
    obtain ⟨_, _, -, -, -, -, -, -, hs⟩ := hd.atH k hk
    rw [e] at hs
    exact hs
  have hLE := hw.le
  obtain ⟨W0, hW0, hB0, hs0, hx0⟩ := boxes1 W #[.int .i64 h.frm, .int .i64 h.upto, .int .i64 h.loc, .string h.cls] 111
  have hl0 := hl.below (hB0.mono hl.bw)
  have HB0 := mkHid hB0
  have HWW := mkHid hW0
  have HBG : Hid (∀ V loc, Below W0.heap.size W0 V → Calls Tryz.prog 88 #[.pointer (some ⟨P, 0, none⟩), .int .i64 loc] V fun r w' => r = .returned (.bool (beginsD c.ins loc)) ∧ Below V.heap.size V w') := fun V loc hV => begins_any hw V (hl0.below (hV.mono hl0.bw)) loc
  have HIS : Hid (∀ V, Below W0.heap.size W0 V → Calls Tryz.prog 89 #[kdV v.kC v.kS v.kF v.kN v.kT v.Bm, .string h.cls, .string errName] V fun r w' => r = .returned (.bool (inL (c.L h.cls) errName)) ∧ Below V.heap.size V w') := fun V hV => by
    have hlV := hl0.below (hV.mono hl0.bw)
    exact kIs_any V B _ _ _ _ _ _ c.d hlV.kd hlV.bw hw.cls h.cls errName hkn hsz
  have HV : Hid (∀ V, Below W0.heap.size W0 V → V.heap[W.heap.size]? = some (.cells #[.int .i64 h.frm, .int .i64 h.upto, .int .i64 h.loc, .string h.cls] 111 (0, 0)) ∧ V.heap[P]? = some (.cells #[v.kC, v.kS, v.kF, v.kN, v.kT, .map (some v.Bm), .string c.m.name, .bool c.m.static, v.vA, .int .i64 c.m.ret.kind, .string c.m.ret.cls, .int .i64 c.m.stack, .int .i64 c.m.locals, .string c.m.code, v.vH, .slice (some ⟨v.gI, 0, none⟩) c.ins.length v.cI, .slice (some ⟨v.bS, 0, none⟩) c.ins.length c.ins.length, .slice (some ⟨v.bA, 0, none⟩) c.ins.length c.ins.length] 108 (0, 0))) := fun V hV => ⟨(hV.block _ (lt_of hx0)).trans hx0, (hV.block _ (lt_of hl0.blk)).trans hl0.blk⟩
  have HR : Hid (handOk c h = ((decide (h.frm < h.upto) && beginsD c.ins h.frm && beginsD c.ins h.loc) && (beginsD c.ins h.upto || decide (h.upto = c.m.code.size)) && inL (c.L h.cls) errName)) := rfl
  clear hl hl0 hB0 hs0 hx0 hW0 hkn hsz hm hw
  by_cases h1 : h.frm < h.upto
  rotate_left
  · go_enter Tryz.func50, Tryz.ntmps50
    go_wp2_with fail
    rw [← HWW.out]
    refine (demand_any _ _ _).mono ?_
    rintro r wd ⟨hwd, ⟨hb, rfl⟩ | ⟨hb, rfl⟩⟩
    · exact ⟨rfl, by rw [hwd]; exact ⟨HB0.out, Or.inr ⟨by rw [HR.out]; rw [show decide (h.frm < h.upto) = false from decide_eq_false (by omega)]; rfl, _, _, by decide, rfl⟩⟩⟩
    · exact absurd hb (by simp)
  have g1 : decide (h.frm < h.upto) = true := decide_eq_true h1
  rw [g1, Bool.true_and] at HR
  cases hb2 : beginsD c.ins h.frm with
  | false =>
    rw [hb2] at HR
    go_enter Tryz.func50, Tryz.ntmps50
    go_wp2_with fail
    rw [← HWW.out]
    refine (HBG.out _ h.frm (Below.refl _ _)).mono ?_
    rw [hb2]
    rintro r w1 ⟨rfl, hw1⟩
    have HB1 := mkHid hw1
    clear hw1
    obtain ⟨bx, bp⟩ := HV.out _ HB1.out
    have b0 := cell_of bx 0 (x := .int .i64 h.frm) rfl
    have b1 := cell_of bx 1 (x := .int .i64 h.upto) rfl
    have b2 := cell_of bx 2 (x := .int .i64 h.loc) rfl
    have b3 := cell_of bx 3 (x := .string h.cls) rfl
    have bk0 := cell_of bp 0 (x := v.kC) rfl
    have bk1 := cell_of bp 1 (x := v.kS) rfl
    have bk2 := cell_of bp 2 (x := v.kF) rfl
    have bk3 := cell_of bp 3 (x := v.kN) rfl
    have bk4 := cell_of bp 4 (x := v.kT) rfl
    have bk5 := cell_of bp 5 (x := .map (some v.Bm)) rfl
    have bkc := cell_of bp 13 (x := .string c.m.code) rfl
    have blx := lt_of bx
    have blp := lt_of bp
    clear bx bp
    go_wp2_with fail
    refine (demand_any _ _ _).mono ?_
    rintro r wd ⟨hwd, ⟨hb, rfl⟩ | ⟨hb, rfl⟩⟩
    · exact ⟨rfl, by rw [hwd]; exact ⟨(HB0.out.trans (HB1.out.mono HB0.out.size)), Or.inr ⟨by rw [HR.out]; rfl, _, _, by decide, rfl⟩⟩⟩
    · exact absurd hb (by simp)
  | true =>
    rw [hb2, Bool.true_and] at HR
    go_enter Tryz.func50, Tryz.ntmps50
    go_wp2_with fail
    rw [← HWW.out]
    refine (HBG.out _ h.frm (Below.refl _ _)).mono ?_
    rw [hb2]
    rintro r w1 ⟨rfl, hw1⟩
    have HB1 := mkHid hw1
    clear hw1
    obtain ⟨bx, bp⟩ := HV.out _ HB1.out
    have b0 := cell_of bx 0 (x := .int .i64 h.frm) rfl
    have b1 := cell_of bx 1 (x := .int .i64 h.upto) rfl
    have b2 := cell_of bx 2 (x := .int .i64 h.loc) rfl
    have b3 := cell_of bx 3 (x := .string h.cls) rfl
    have bk0 := cell_of bp 0 (x := v.kC) rfl
    have bk1 := cell_of bp 1 (x := v.kS) rfl
    have bk2 := cell_of bp 2 (x := v.kF) rfl
    have bk3 := cell_of bp 3 (x := v.kN) rfl
    have bk4 := cell_of bp 4 (x := v.kT) rfl
    have bk5 := cell_of bp 5 (x := .map (some v.Bm)) rfl
    have bkc := cell_of bp 13 (x := .string c.m.code) rfl
    have blx := lt_of bx
    have blp := lt_of bp
    clear bx bp
    go_wp2_with fail
    refine (HBG.out _ h.loc HB1.out).mono ?_
    rintro r w3 ⟨rfl, hw3⟩
    have HB3 : Hid (Below W0.heap.size W0 w3) := HB1.out.trans (hw3.mono HB1.out.size)
    clear hw3
    clear b0 b1 b2 b3 bk0 bk1 bk2 bk3 bk4 bk5 bkc blx blp
    obtain ⟨cx, cp⟩ := HV.out _ HB3.out
    have c0 := cell_of cx 0 (x := .int .i64 h.frm) rfl
    have c1 := cell_of cx 1 (x := .int .i64 h.upto) rfl
    have c2 := cell_of cx 2 (x := .int .i64 h.loc) rfl
    have c3 := cell_of cx 3 (x := .string h.cls) rfl
    have ck0 := cell_of cp 0 (x := v.kC) rfl
    have ck1 := cell_of cp 1 (x := v.kS) rfl
    have ck2 := cell_of cp 2 (x := v.kF) rfl
    have ck3 := cell_of cp 3 (x := v.kN) rfl
    have ck4 := cell_of cp 4 (x := v.kT) rfl
    have ck5 := cell_of cp 5 (x := .map (some v.Bm)) rfl
    have ckc := cell_of cp 13 (x := .string c.m.code) rfl
    have clx := lt_of cx
    have clp := lt_of cp
    clear cx cp
    go_wp2_with fail
    refine (demand_any _ _ _).mono ?_
    rintro r wd ⟨hwd, ⟨hb, rfl⟩ | ⟨hb, rfl⟩⟩
    · exact ⟨rfl, by rw [hwd]; exact ⟨(HB0.out.trans (HB3.out.mono HB0.out.size)), Or.inr ⟨by rw [HR.out]; exact and3_1 hb, _, _, by decide, rfl⟩⟩⟩
    rw [hwd]
    have HQ1 := mkHid hb
    clear hb hwd wd
    cases hb4 : beginsD c.ins h.upto with
    | true =>
      go_wp2_with fail
      refine wp_region_held_drew (S := fun W' => ∀ p : Addr, p.block < w3.heap.size → W'.cell? p = w3.cell? p) (by kernel_rfl) (fun p hp => rfl) fun hH => ?_
      refine ta 0 (.pointer (some ⟨P, 0, none⟩)) rfl hH ?_
      refine ta 1 (.pointer (some ⟨W.heap.size, 1, none⟩)) rfl hH ?_
      refine ta 2 (.int .i64 h.upto) rfl hH ?_
      refine wpAnyH_ready (rs := [3]) (by kernel_rfl) (by simp) ?_
      refine AllReadyH.cons rfl (fun K3 hK3 => ?_) AllReadyH.nil
      go_simp
      refine (HBG.out _ h.upto (HB3.out.drew)).mono ?_
      rintro r w4 ⟨rfl, hw4⟩
      rw [hb4]
      have HB4 : Hid (Below w3.heap.size w3 w4) := (Below.refl _ _).drew.trans hw4
      have HB4w : Hid (Below W0.heap.size W0 w4) := HB3.out.trans (HB4.out.mono HB3.out.size)
      clear hw4
      refine hK3.out _ _ (fun p hp => HB4.out.cell hp) fun hH => ?_
      refine ta 4 (.bool true) rfl hH ?_
      refine tan 5 rfl hH ?_
      refine tan 6 rfl hH ?_
      refine tan 7 rfl hH ?_
      refine tan 8 rfl hH ?_
      refine tan 9 rfl hH ?_
      refine tan 10 rfl hH ?_
      refine tan 11 rfl hH ?_
      refine tan 12 rfl hH ?_
      refine tan 13 rfl hH ?_
      refine ta 14 (.bool true) rfl hH ?_
      refine wpAnyH_ready (rs := [15]) (by kernel_rfl) (by simp) ?_
      refine AllReadyH.cons rfl (fun K15 hK15 => ?_) AllReadyH.nil
      go_simp
      refine (demand_any _ _ _).mono ?_
      rintro r wd ⟨hwd, ⟨hb, rfl⟩ | ⟨hb, rfl⟩⟩
      · exact absurd hb (by simp)
      rw [hwd]
      clear hwd wd
      have HQ2 : Hid ((beginsD c.ins h.upto || decide (h.upto = (c.m.code.size : Int))) = true) := (by rw [hb4]; rfl : (beginsD c.ins h.upto || decide (h.upto = (c.m.code.size : Int))) = true)
      clear hb
      refine hK15.out _ _ (fun p hp => HB4.out.cell hp) fun hH => ?_
      refine wpAnyH_done (by kernel_rfl) ?_ _
      clear hH
      try simp only [Act.put, List.setIfInBounds_toArray, List.set_cons_zero, List.set_cons_succ, List.getElem_toArray, List.getElem_cons_zero, List.getElem_cons_succ]
      clear c0 c1 c2 c3 ck0 ck1 ck2 ck3 ck4 ck5 ckc clx clp
      obtain ⟨dx, dp⟩ := HV.out _ HB4w.out
      have d0 := cell_of dx 0 (x := .int .i64 h.frm) rfl
      have d1 := cell_of dx 1 (x := .int .i64 h.upto) rfl
      have d2 := cell_of dx 2 (x := .int .i64 h.loc) rfl
      have d3 := cell_of dx 3 (x := .string h.cls) rfl
      have dk0 := cell_of dp 0 (x := v.kC) rfl
      have dk1 := cell_of dp 1 (x := v.kS) rfl
      have dk2 := cell_of dp 2 (x := v.kF) rfl
      have dk3 := cell_of dp 3 (x := v.kN) rfl
      have dk4 := cell_of dp 4 (x := v.kT) rfl
      have dk5 := cell_of dp 5 (x := .map (some v.Bm)) rfl
      have dkc := cell_of dp 13 (x := .string c.m.code) rfl
      have dlx := lt_of dx
      have dlp := lt_of dp
      clear dx dp
      go_wp2_with fail
      refine wp_region_held_drew (S := fun W' => ∀ p : Addr, p.block < w4.heap.size → W'.cell? p = w4.cell? p) (by kernel_rfl) (fun p hp => rfl) fun hH => ?_
      refine ta 0 (.pointer (some ⟨P, 0, none⟩)) rfl hH ?_
      refine ta 1 (.pointer (some ⟨P, 0, none⟩)) rfl hH ?_
      refine ta 2 (.pointer (some ⟨P, 0, none⟩)) rfl hH ?_
      refine ta 3 (.agg #[v.kC, v.kS, v.kF, v.kN, v.kT, .map (some v.Bm)]) rfl hH ?_
      refine ta 4 (.pointer (some ⟨W.heap.size, 3, none⟩)) rfl hH ?_
      refine ta 5 (.string h.cls) rfl hH ?_
      refine wpAnyH_ready (rs := [6]) (by kernel_rfl) (by simp) ?_
      refine AllReadyH.cons rfl (fun K6 hK6 => ?_) AllReadyH.nil
      go_simp
      refine (HIS.out _ (HB4w.out.drew)).mono ?_
      rintro r w5 ⟨rfl, hw5⟩
      have HB5 : Hid (Below w4.heap.size w4 w5) := (Below.refl _ _).drew.trans hw5
      have HB5w : Hid (Below W0.heap.size W0 w5) := HB4w.out.trans (HB5.out.mono HB4w.out.size)
      clear hw5
      refine hK6.out _ _ (fun p hp => HB5.out.cell hp) fun hH => ?_
      refine wpAnyH_ready (rs := [7]) (by kernel_rfl) (by simp) ?_
      refine AllReadyH.cons rfl (fun K7 hK7 => ?_) AllReadyH.nil
      go_simp
      refine (demand_any _ _ _).mono ?_
      rintro r wd ⟨hwd, ⟨hb, rfl⟩ | ⟨hb, rfl⟩⟩
      · exact ⟨rfl, by rw [hwd]; exact ⟨(HB0.out.trans (HB5w.out.mono HB0.out.size)), Or.inr ⟨by rw [HR.out]; rw [hb]; exact Bool.and_false _, _, _, by decide, rfl⟩⟩⟩
      rw [hwd]
      clear hwd wd
      have HQ3 := mkHid hb
      clear hb
      refine hK7.out _ _ (fun p hp => HB5.out.cell hp) fun hH => ?_
      refine wpAnyH_done (by kernel_rfl) ?_ _
      clear hH
      try simp only [Act.put, List.setIfInBounds_toArray, List.set_cons_zero, List.set_cons_succ, List.getElem_toArray, List.getElem_cons_zero, List.getElem_cons_succ]
      go_wp2_with fail
      go_end0
      exact ⟨HB0.out.trans (HB5w.out.mono HB0.out.size), Or.inl ⟨by rw [HR.out, HQ1.out, HQ2.out, HQ3.out]; rfl, rfl⟩⟩
    | false =>
      go_wp2_with fail
      refine wp_region_held_drew (S := fun W' => ∀ p : Addr, p.block < w3.heap.size → W'.cell? p = w3.cell? p) (by kernel_rfl) (fun p hp => rfl) fun hH => ?_
      refine ta 0 (.pointer (some ⟨P, 0, none⟩)) rfl hH ?_
      refine ta 1 (.pointer (some ⟨W.heap.size, 1, none⟩)) rfl hH ?_
      refine ta 2 (.int .i64 h.upto) rfl hH ?_
      refine wpAnyH_ready (rs := [3]) (by kernel_rfl) (by simp) ?_
      refine AllReadyH.cons rfl (fun K3 hK3 => ?_) AllReadyH.nil
      go_simp
      refine (HBG.out _ h.upto (HB3.out.drew)).mono ?_
      rintro r w4 ⟨rfl, hw4⟩
      rw [hb4]
      have HB4 : Hid (Below w3.heap.size w3 w4) := (Below.refl _ _).drew.trans hw4
      have HB4w : Hid (Below W0.heap.size W0 w4) := HB3.out.trans (HB4.out.mono HB3.out.size)
      clear hw4
      refine hK3.out _ _ (fun p hp => HB4.out.cell hp) fun hH => ?_
      refine ta 4 (.bool false) rfl hH ?_
      refine ta 5 (.pointer (some ⟨W.heap.size, 1, none⟩)) rfl hH ?_
      refine ta 6 (.int .i64 h.upto) rfl hH ?_
      refine ta 7 (.pointer (some ⟨P, 0, none⟩)) rfl hH ?_
      refine ta 8 (.pointer (some ⟨P, 0, none⟩)) rfl hH ?_
      refine ta 9 (.pointer (some ⟨P, 6, none⟩)) rfl hH ?_
      refine ta 10 (.pointer (some ⟨P, 13, none⟩)) rfl hH ?_
      refine ta 11 (.string c.m.code) rfl hH ?_
      refine ta 12 (.int .i64 (c.m.code.size : Int)) rfl hH ?_
      refine ta 13 (.bool (h.upto == (c.m.code.size : Int))) rfl hH ?_
      refine ta 14 (.bool (h.upto == (c.m.code.size : Int))) rfl hH ?_
      refine wpAnyH_ready (rs := [15]) (by kernel_rfl) (by simp) ?_
      refine AllReadyH.cons rfl (fun K15 hK15 => ?_) AllReadyH.nil
      go_simp
      refine (demand_any _ _ _).mono ?_
      rintro r wd ⟨hwd, ⟨hb, rfl⟩ | ⟨hb, rfl⟩⟩
      · exact ⟨rfl, by rw [hwd]; exact ⟨(HB0.out.trans (HB4w.out.mono HB0.out.size)), Or.inr ⟨by rw [HR.out]; exact and3_2 (by rw [hb4]; simpa using hb), _, _, by decide, rfl⟩⟩⟩
      rw [hwd]
      clear hwd wd
      have HQ2 : Hid ((beginsD c.ins h.upto || decide (h.upto = (c.m.code.size : Int))) = true) := (by rw [hb4]; simpa using hb : (beginsD c.ins h.upto || decide (h.upto = (c.m.code.size : Int))) = true)
      clear hb
      refine hK15.out _ _ (fun p hp => HB4.out.cell hp) fun hH => ?_
      refine wpAnyH_done (by kernel_rfl) ?_ _
      clear hH
      try simp only [Act.put, List.setIfInBounds_toArray, List.set_cons_zero, List.set_cons_succ, List.getElem_toArray, List.getElem_cons_zero, List.getElem_cons_succ]
      clear c0 c1 c2 c3 ck0 ck1 ck2 ck3 ck4 ck5 ckc clx clp
      obtain ⟨dx, dp⟩ := HV.out _ HB4w.out
      have d0 := cell_of dx 0 (x := .int .i64 h.frm) rfl
      have d1 := cell_of dx 1 (x := .int .i64 h.upto) rfl
      have d2 := cell_of dx 2 (x := .int .i64 h.loc) rfl
      have d3 := cell_of dx 3 (x := .string h.cls) rfl
      have dk0 := cell_of dp 0 (x := v.kC) rfl
      have dk1 := cell_of dp 1 (x := v.kS) rfl
      have dk2 := cell_of dp 2 (x := v.kF) rfl
      have dk3 := cell_of dp 3 (x := v.kN) rfl
      have dk4 := cell_of dp 4 (x := v.kT) rfl
      have dk5 := cell_of dp 5 (x := .map (some v.Bm)) rfl
      have dkc := cell_of dp 13 (x := .string c.m.code) rfl
      have dlx := lt_of dx
      have dlp := lt_of dp
      clear dx dp
      go_wp2_with fail
      refine wp_region_held_drew (S := fun W' => ∀ p : Addr, p.block < w4.heap.size → W'.cell? p = w4.cell? p) (by kernel_rfl) (fun p hp => rfl) fun hH => ?_
      refine ta 0 (.pointer (some ⟨P, 0, none⟩)) rfl hH ?_
      refine ta 1 (.pointer (some ⟨P, 0, none⟩)) rfl hH ?_
      refine ta 2 (.pointer (some ⟨P, 0, none⟩)) rfl hH ?_
      refine ta 3 (.agg #[v.kC, v.kS, v.kF, v.kN, v.kT, .map (some v.Bm)]) rfl hH ?_
      refine ta 4 (.pointer (some ⟨W.heap.size, 3, none⟩)) rfl hH ?_
      refine ta 5 (.string h.cls) rfl hH ?_
      refine wpAnyH_ready (rs := [6]) (by kernel_rfl) (by simp) ?_
      refine AllReadyH.cons rfl (fun K6 hK6 => ?_) AllReadyH.nil
      go_simp
      refine (HIS.out _ (HB4w.out.drew)).mono ?_
      rintro r w5 ⟨rfl, hw5⟩
      have HB5 : Hid (Below w4.heap.size w4 w5) := (Below.refl _ _).drew.trans hw5
      have HB5w : Hid (Below W0.heap.size W0 w5) := HB4w.out.trans (HB5.out.mono HB4w.out.size)
      clear hw5
      refine hK6.out _ _ (fun p hp => HB5.out.cell hp) fun hH => ?_
      refine wpAnyH_ready (rs := [7]) (by kernel_rfl) (by simp) ?_
      refine AllReadyH.cons rfl (fun K7 hK7 => ?_) AllReadyH.nil
      go_simp
      refine (demand_any _ _ _).mono ?_
      rintro r wd ⟨hwd, ⟨hb, rfl⟩ | ⟨hb, rfl⟩⟩
      · exact ⟨rfl, by rw [hwd]; exact ⟨(HB0.out.trans (HB5w.out.mono HB0.out.size)), Or.inr ⟨by rw [HR.out]; rw [hb]; exact Bool.and_false _, _, _, by decide, rfl⟩⟩⟩
      rw [hwd]
      clear hwd wd
      have HQ3 := mkHid hb
      clear hb
      refine hK7.out _ _ (fun p hp => HB5.out.cell hp) fun hH => ?_
      refine wpAnyH_done (by kernel_rfl) ?_ _
      clear hH
      try simp only [Act.put, List.setIfInBounds_toArray, List.set_cons_zero, List.set_cons_succ, List.getElem_toArray, List.getElem_cons_zero, List.getElem_cons_succ]
      go_wp2_with fail
      go_end0
      exact ⟨HB0.out.trans (HB5w.out.mono HB0.out.size), Or.inl ⟨by rw [HR.out, HQ1.out, HQ2.out, HQ3.out]; rfl, rfl⟩⟩
end Go.Proofs.YtfibgdcpbkaaoaaGreatDoor
/- Package verify's kinds: which names are names, which kinds are kinds. -/
namespace Go.Proofs.YtfibgdcpbkaaoaaGreatDoor
open Go.RowKit Go.Maps
def nmC (s : ByteArray) : ClassD := ⟨s, ⟨#[]⟩, [], []⟩
def nameB (s : ByteArray) : Bool := checkL [nmC s] == 0
theorem nmC_SL {w : World} {X : Nat} {s : ByteArray} (h : w.heap[X]? = some (.cells #[.string s, .string ⟨#[]⟩, .slice none 0 0, .slice none 0 0] 37 (0, 0))) (hs : s.size ≤ maxLen) : SL 4 RC (· < w.heap.size) w (.slice (some ⟨X, 0, none⟩) 1 1) [nmC s] := by
  refine ⟨some ⟨X, 0, none⟩, 1, rfl, Nat.le_refl _, by unfold maxLen; simp, fun k hk => ?_⟩
  obtain rfl : k = 0 := by simp at hk; exact hk
  refine ⟨X, 0, [.string s, .string ⟨#[]⟩, .slice none 0 0, .slice none 0 0], rfl, lt_of h, lt_of h, rfl, fun j hj => ?_, .slice none 0 0, .slice none 0 0, rfl, ⟨none, 0, rfl, Nat.le_refl _, Nat.zero_le _, fun k hk => by cases hk⟩, ⟨none, 0, rfl, Nat.le_refl _, Nat.zero_le _, fun k hk => by cases hk⟩, hs, Nat.zero_le _⟩
  match j, hj with
  | 0, _ => exact cell_of h 0 rfl
  | 1, _ => exact cell_of h 1 rfl
  | 2, _ => exact cell_of h 2 rfl
  | 3, _ => exact cell_of h 3 rfl
set_option maxHeartbeats 1000000 in
theorem kName_any (w : World) (s : ByteArray) (hs : s.size ≤ maxLen) : Calls Tryz.prog 86 #[.string s] w fun r w' => r = .returned (.bool (nameB s)) ∧ Below w.heap.size w w' := by
  have HB := mkHid ((Below.refl w.heap.size w).alloc (Nat.le_refl _) (.cells #[.string s, .string ⟨#[]⟩, .slice none 0 0, .slice none 0 0] 37))
  have HS := mkHid (nmC_SL (heap_alloc_new w (.cells #[.string s, .string ⟨#[]⟩, .slice none 0 0, .slice none 0 0] 37)) hs)
  go_enter Tryz.func86, Tryz.ntmps86
  go_wp2_with fail
  refine (Check_any _ _ [nmC s] _ HS.out (Nat.le_refl _)).mono ?_
  rintro r w2 ⟨rfl, hb2⟩
  have HR : Hid (nameB s = (checkL [nmC s] == 0)) := rfl
  generalize checkL [nmC s] = e at *
  go_wp2_with fail
  go_ret
  exact ⟨by rw [HR.out]; rfl, HB.out.trans (hb2.mono HB.out.size)⟩
def kindB (x : KindD) : Bool := if decide (x.kind = 3) || decide (x.kind = 4) then nameB x.cls else (sameK x numK || sameK x rowK || sameK x nulK || sameK x anyK)
set_option maxRecDepth 100000 in
set_option maxHeartbeats 4000000 in
theorem isKind_any (w : World) (x : KindD) (hs : x.cls.size ≤ maxLen) (hg : GlK w) : Calls Tryz.prog 45 #[kv x] w fun r w' => r = .returned (.bool (kindB x)) ∧ Below w.heap.size w w' := by
  have HB := mkHid ((Below.refl w.heap.size w).alloc (Nat.le_refl _) (.cells #[.int .i64 x.kind, .string x.cls] 40))
  obtain ⟨-, -, a0, a1, u0, u1, n0, n1, r0, r1, -⟩ := hg.below HB.out
  have e1 : ∀ W, (binOp BinOp.eql 40 (kv x) (.agg #[.int .i64 1, .string noNm])).run Tryz.prog W = .ok (.bool (sameK x numK)) W := kindEq x numK
  have e2 : ∀ W, (binOp BinOp.eql 40 (kv x) (.agg #[.int .i64 2, .string noNm])).run Tryz.prog W = .ok (.bool (sameK x rowK)) W := kindEq x rowK
  have e3 : ∀ W, (binOp BinOp.eql 40 (kv x) (.agg #[.int .i64 5, .string noNm])).run Tryz.prog W = .ok (.bool (sameK x nulK)) W := kindEq x nulK
  have e4 : ∀ W, (binOp BinOp.eql 40 (kv x) (.agg #[.int .i64 6, .string noNm])).run Tryz.prog W = .ok (.bool (sameK x anyK)) W := kindEq x anyK
  have eg := kindNeqG
  have HR : Hid (kindB x = if (x.kind == 3) || (x.kind == 4) then nameB x.cls else (sameK x numK || sameK x rowK || sameK x nulK || sameK x anyK)) := by
    show _ = _
    unfold kindB
    rw [show decide (x.kind = 3) = (x.kind == 3) by rw [Bool.eq_iff_iff]; simp, show decide (x.kind = 4) = (x.kind == 4) by rw [Bool.eq_iff_iff]; simp]
  have HN := mkHid (fun W => kName_any W x.cls hs)
  cases h3 : (x.kind == 3) with
  | true =>
    rw [h3] at HR
    go_enter Tryz.func45, Tryz.ntmps45
    go_wp2_with (go_at_call 86; refine (HN.out _).mono ?_; rintro r w2 ⟨rfl, hb2⟩)
    go_ret
    exact ⟨by rw [HR.out]; rfl, HB.out.trans (hb2.mono HB.out.size)⟩
  | false =>
    rw [h3] at HR
    cases h4 : (x.kind == 4) with
    | true =>
      rw [h4] at HR
      go_enter Tryz.func45, Tryz.ntmps45
      go_wp2_with (go_at_call 86; refine (HN.out _).mono ?_; rintro r w2 ⟨rfl, hb2⟩)
      go_ret
      exact ⟨by rw [HR.out]; rfl, HB.out.trans (hb2.mono HB.out.size)⟩
    | false =>
      rw [h4] at HR
      cases h5 : sameK x numK <;> cases h6 : sameK x rowK <;> cases h7 : sameK x nulK <;> cases h8 : sameK x anyK
      all_goals
        rw [h5] at e1 HR
        rw [h6] at e2 HR
        rw [h7] at e3 HR
        rw [h8] at e4 HR
        clear h5 h6 h7 h8
        go_enter Tryz.func45, Tryz.ntmps45
        go_wp2_with fail
        go_ret
        exact ⟨by rw [HR.out]; rfl, HB.out⟩
end Go.Proofs.YtfibgdcpbkaaoaaGreatDoor
/- Package verify's kinds: what is asked about. -/
namespace Go.Proofs.YtfibgdcpbkaaoaaGreatDoor
open Go.RowKit Go.Maps
theorem aup {a b c : World} (h : Below a.heap.size a b) (k : Below b.heap.size b c) : Below a.heap.size a c := h.trans (k.mono h.size)
def okK (d : LinkD) (x : KindD) : Bool := kindB x && (decide (x.cls.toList = []) || decide (0 ≤ num d.classes x.cls))
theorem six (wz : World) (P : Nat) (v0 v1 v2 v3 v4 v5 : Value) : ∃ W9, W9 = ((((((wz.setCell ⟨P, 0, none⟩ v0).setCell ⟨P, 1, none⟩ v1).setCell ⟨P, 2, none⟩ v2).setCell ⟨P, 3, none⟩ v3).setCell ⟨P, 4, none⟩ v4).setCell ⟨P, 5, none⟩ v5) ∧ W9.heap.size = wz.heap.size ∧ (∀ k, k ≠ P → W9.heap[k]? = wz.heap[k]?) ∧ ∀ {B : Nat} {a : World}, Below B a wz → B ≤ P → Below B a W9 :=
  ⟨_, rfl, by simp [World.setCell], fun k hk => by rw [Below.heap_setCell _ _ _ _ hk, Below.heap_setCell _ _ _ _ hk, Below.heap_setCell _ _ _ _ hk, Below.heap_setCell _ _ _ _ hk, Below.heap_setCell _ _ _ _ hk, Below.heap_setCell _ _ _ _ hk], fun h hP => (((((h.setCell hP _).setCell hP _).setCell hP _).setCell hP _).setCell hP _).setCell hP _⟩
set_option maxRecDepth 100000 in
set_option maxHeartbeats 8000000 in
theorem about_any (w : World) (B : Nat) (kC kS kF kN kT : Value) (d : LinkD) (hk : RLk (· < B) w kC kS kF kN kT d) (hB : B ≤ w.heap.size) (hg : GlK w) (h0 : chkRes d [] = 0) (hN : d.classes.length ≤ 10) (vA : Value) (as' : List KindD) (hA : SL 2 RK (· < B) w vA as') :
    Calls Tryz.prog 21 #[.agg #[kC, kS, kF, kN, kT], vA] w fun r w' => Below w.heap.size w w' ∧
      ((as'.all (okK d) = true ∧ ∃ Bm, r = .returned (kdV kC kS kF kN kT Bm) ∧ Kd w'.heap.size w' kC kS kF kN kT Bm d) ∨ (as'.all (okK d) = false ∧ ∃ e, e ≠ 0 ∧ r = .panicked [wrongV e 0])) := by
  have hmm := @run_makeMap Tryz.prog
  have HK := mkHid hk
  have HA := mkHid hA
  have HG := mkHid hg
  have hlC : d.classes.length ≤ maxLen := by obtain ⟨_, _, _, _, h, _⟩ := hk.C; exact h
  obtain ⟨aC, cC, aS, cS, aF, cF, aN, cN, aT, cT, rfl, rfl, rfl, rfl, rfl⟩ := hk.agg
  obtain ⟨aA, cA, rfl, _, hlA, -⟩ := hA
  unfold maxLen at hlA
  obtain ⟨W0, hW0, hB0, hs0, k0, k1⟩ := (⟨_, rfl, ((Below.refl w.heap.size w).alloc (Nat.le_refl _) _).alloc (by simp) _, by simp, (Below.heap_alloc _ _ _ (by simp)).trans (heap_alloc_new w _), (by have := heap_alloc_new (w.alloc (.cells #[.slice aC d.classes.length cC, .slice aS d.supers.length cS, .slice aF d.fields.length cF, .slice aN d.names.length cN, .slice aT d.targets.length cT] 29)) (.cells #[.slice none 0 0, .slice none 0 0, .slice none 0 0, .slice none 0 0, .slice none 0 0, .map none] 75); simpa using this)⟩ : ∃ W0, W0 = ((w.alloc (.cells #[.slice aC d.classes.length cC, .slice aS d.supers.length cS, .slice aF d.fields.length cF, .slice aN d.names.length cN, .slice aT d.targets.length cT] 29)).alloc (.cells #[.slice none 0 0, .slice none 0 0, .slice none 0 0, .slice none 0 0, .slice none 0 0, .map none] 75)) ∧ Below w.heap.size w W0 ∧ W0.heap.size = w.heap.size + 1 + 1 ∧ W0.heap[w.heap.size]? = some (.cells #[.slice aC d.classes.length cC, .slice aS d.supers.length cS, .slice aF d.fields.length cF, .slice aN d.names.length cN, .slice aT d.targets.length cT] 29 (0, 0)) ∧ W0.heap[w.heap.size + 1]? = some (.cells #[.slice none 0 0, .slice none 0 0, .slice none 0 0, .slice none 0 0, .slice none 0 0, .map none] 75 (0, 0)))
  have HB0 := mkHid hB0
  have HLC := mkHid (LCheck_any W0 B _ _ _ _ _ d (HK.out.kept (Kp.below (hB0.mono hB))) (Nat.le_trans hB hB0.size))
  rw [h0] at HLC
  have HK0 := mkHid k0
  have HK1 := mkHid k1
  clear hk hg h0 k0 k1 hB0
  go_enter Tryz.func21, Tryz.ntmps21
  go_wp2_with fail
  rw [← hW0]
  refine HLC.out.mono ?_
  rintro r w1 ⟨rfl, hb1⟩
  have HB1 := mkHid hb1
  have hq0 := (hb1.block _ (lt_of HK0.out)).trans HK0.out
  have x0 := cell_of hq0 0 (x := .slice aC d.classes.length cC) rfl
  have x1 := cell_of hq0 1 (x := .slice aS d.supers.length cS) rfl
  have x2 := cell_of hq0 2 (x := .slice aF d.fields.length cF) rfl
  have x3 := cell_of hq0 3 (x := .slice aN d.names.length cN) rfl
  have x4 := cell_of hq0 4 (x := .slice aT d.targets.length cT) rfl
  clear hb1 hq0 hW0 HLC
  go_wp2_with fail
  refine (demand_any _ _ _).mono ?_
  rintro r w2 ⟨hw2, ⟨hb, rfl⟩ | ⟨hb, rfl⟩⟩
  · exact absurd hb (by decide)
  rw [hw2]
  clear hb hw2
  have hS0 : Below w1.heap.size w1 ((w1.alloc (.map #[] 0)).alloc (.cells #[.slice aC d.classes.length cC, .slice aS d.supers.length cS, .slice aF d.fields.length cF, .slice aN d.names.length cN, .slice aT d.targets.length cT, .map (some w1.heap.size)] 75)) ∧ ((w1.alloc (.map #[] 0)).alloc (.cells #[.slice aC d.classes.length cC, .slice aS d.supers.length cS, .slice aF d.fields.length cF, .slice aN d.names.length cN, .slice aT d.targets.length cT, .map (some w1.heap.size)] 75)).heap[w1.heap.size + 1]? = some (.cells #[.slice aC d.classes.length cC, .slice aS d.supers.length cS, .slice aF d.fields.length cF, .slice aN d.names.length cN, .slice aT d.targets.length cT, .map (some w1.heap.size)] 75 (0, 0)) ∧ NumMap ((w1.alloc (.map #[] 0)).alloc (.cells #[.slice aC d.classes.length cC, .slice aS d.supers.length cS, .slice aF d.fields.length cF, .slice aN d.names.length cN, .slice aT d.targets.length cT, .map (some w1.heap.size)] 75)) w1.heap.size (d.classes.take 0) :=
    ⟨((Below.refl _ _).alloc (Nat.le_refl _) _).alloc (by simp) _, (by have := heap_alloc_new (w1.alloc (.map #[] 0)) (.cells #[.slice aC d.classes.length cC, .slice aS d.supers.length cS, .slice aF d.fields.length cF, .slice aN d.names.length cN, .slice aT d.targets.length cT, .map (some w1.heap.size)] 75); simpa using this), ⟨_, (World.ownsMap_made w1 _ _ _).alloc _, numD_nil⟩⟩
  have HS0 := mkHid hS0
  have y0 := (hS0.1.cell (p := ⟨w.heap.size, 0, none⟩) (World.block_lt_of_cell? _ _ x0)).trans x0
  clear hS0
  go_wp2_with fail
  clear x0 x1 x2 x3 x4 y0
  go_loopw [20] (fun i wr => ∃ k : Nat, k ≤ d.classes.length ∧ i = .int .i64 k ∧ Hid (Below w1.heap.size w1 wr ∧ wr.heap[w1.heap.size + 1]? = some (.cells #[.slice aC d.classes.length cC, .slice aS d.supers.length cS, .slice aF d.fields.length cF, .slice aN d.names.length cN, .slice aT d.targets.length cT, .map (some w1.heap.size)] 75 (0, 0)) ∧ NumMap wr w1.heap.size (d.classes.take k))) (fun i _ => d.classes.length - (intOf i).toNat)
  case atStart => exact ⟨0, Nat.zero_le _, rfl, HS0.out⟩
  case round =>
    clear HS0
    rename World => wr
    obtain ⟨k, hk, rfl, HST⟩ := hrel
    obtain ⟨hBr, hblk, hnm⟩ := HST.out
    have HBW := mkHid (aup HB0.out (aup HB1.out hBr))
    have hXr : w1.heap.size + 1 < wr.heap.size := lt_of hblk
    by_cases hlt : k < d.classes.length
    · obtain ⟨b, off, vf, vm, e9, hb, e0, e1, e2, e3, ef, em, es1, es2⟩ := (HK.out.C.keptC (Kp.below (HBW.out.mono hB))).atC k hlt
      subst e9
      obtain ⟨fo, cf, rfl, -⟩ := ef
      obtain ⟨mo, cm, rfl, -⟩ := em
      have m5 := cell_of hblk 5 (x := .map (some w1.heap.size)) rfl
      obtain ⟨D, hown, hD⟩ := hnm
      have hlk : (d.classes.take k).length = k := by simp; omega
      have hkey : keyOf Tryz.prog 9 (.string d.classes[k].name) = some (key d.classes[k].name) := Go.WideMaps.keyOf_string_mk Tryz.underlying9 es1
      obtain ⟨w2, hrun, hown2, hg2⟩ := World.ownsMap.update (w := wr.alloc (.cells #[.string d.classes[k].name, .string d.classes[k].super, .slice fo d.classes[k].fields.length cf, .slice mo d.classes[k].meths.length cm] 37)) (hown.alloc _) law9 Tryz.underlying69 (by rw [hlk]; unfold maxLen; omega) hkey (plainElem_int (H := Unit) Tryz.underlying3 (a := (k : Int)) (WalkArith.wf_i64 (by omega)))
      have hD2 := numD_put hD (hown.tidy law9) d.classes[k]
      have HFN : Hid (Below w1.heap.size w1 w2 ∧ w2.heap[w1.heap.size + 1]? = some (.cells #[.slice (some ⟨b, off, none⟩) d.classes.length cC, .slice aS d.supers.length cS, .slice aF d.fields.length cF, .slice aN d.names.length cN, .slice aT d.targets.length cT, .map (some w1.heap.size)] 75 (0, 0)) ∧ NumMap w2 w1.heap.size (d.classes.take (k + 1))) := by
        refine ⟨(hBr.alloc hBr.size (.cells #[.string d.classes[k].name, .string d.classes[k].super, .slice fo d.classes[k].fields.length cf, .slice mo d.classes[k].meths.length cm] 37)).grown hg2 (by simp; omega) (fun q e => by cases e; exact Nat.le_refl _), ?_, ?_⟩
        · rw [hg2.block (w1.heap.size + 1) (by simp; omega) (by simp)]
          exact (Below.heap_alloc _ _ _ hXr).trans hblk
        · rw [List.take_succ_eq_append_getElem hlt]
          rw [hlk] at hD2 hown2
          refine ⟨_, ?_, hD2⟩
          rw [List.length_append, hlk]
          exact hown2
      clear hown hown2 hg2 hD hD2 hkey hblk hlk es1 es2
      have h00 : (0 : Int) ≤ k := by omega
      have h01 : (k : Int) < d.classes.length := by omega
      go_wp2_with fail
      go_roundw
      case rel => exact ⟨k + 1, by omega, by go_num, HFN.out⟩
      case measure => simp [intOf]; omega
    have hnm2 : NumMap wr w1.heap.size d.classes := by
      have := hnm
      rwa [List.take_of_length_le (by omega)] at this
    have hkd : Kd wr.heap.size wr (.slice aC d.classes.length cC) (.slice aS d.supers.length cS) (.slice aF d.fields.length cF) (.slice aN d.names.length cN) (.slice aT d.targets.length cT) w1.heap.size d := ⟨(HK.out.kept (Kp.below (HBW.out.mono hB))).mono fun _ h => Nat.lt_of_lt_of_le h (Nat.le_trans hB HBW.out.size), hnm2, by omega⟩
    have hr1 := ((aup HB1.out hBr).block _ (lt_of HK1.out)).trans HK1.out
    have HVV : Hid (∀ V, Below wr.heap.size wr V → V.heap[w1.heap.size + 1]? = some (.cells #[.slice aC d.classes.length cC, .slice aS d.supers.length cS, .slice aF d.fields.length cF, .slice aN d.names.length cN, .slice aT d.targets.length cT, .map (some w1.heap.size)] 75 (0, 0)) ∧ V.heap[w.heap.size + 1]? = some (.cells #[.slice none 0 0, .slice none 0 0, .slice none 0 0, .slice none 0 0, .slice none 0 0, .map none] 75 (0, 0)) ∧ Kd wr.heap.size V (.slice aC d.classes.length cC) (.slice aS d.supers.length cS) (.slice aF d.fields.length cF) (.slice aN d.names.length cN) (.slice aT d.targets.length cT) w1.heap.size d ∧ GlK V ∧ SL 2 RK (· < B) V (.slice aA as'.length cA) as' ∧ Below w.heap.size w V) := fun V hV => ⟨(hV.block _ (lt_of hblk)).trans hblk, (hV.block _ (lt_of hr1)).trans hr1, hkd.below hV, HG.out.below (aup HBW.out hV), HA.out.keptK (Kp.below ((aup HBW.out hV).mono hB)), aup HBW.out hV⟩
    clear hnm hnm2 hblk hr1 hkd hBr HST
    go_wp2_with fail
    go_loopw [33] (fun i wz => ∃ k : Nat, k ≤ as'.length ∧ i = .int .i64 k ∧ Hid (Below wr.heap.size wr wz ∧ (as'.take k).all (okK d) = true)) (fun i _ => as'.length - (intOf i).toNat)
    case atStart => exact ⟨0, Nat.zero_le _, rfl, Below.refl _ _, rfl⟩
    case round =>
      rename World => wz
      obtain ⟨m, hm, rfl, HST⟩ := hrel
      by_cases hmt : m < as'.length
      · obtain ⟨q, -, hkz, hgz, haz, -⟩ := HVV.out wz HST.out.1
        obtain ⟨b, off, e9, hbl, d0, d1, dsz⟩ := haz.atK m hmt
        subst e9
        have HTK : Hid ((as'.take (m + 1)).all (okK d) = okK d as'[m]) := by show _ = _; rw [List.take_succ_eq_append_getElem hmt, List.all_append, HST.out.2]; simp
        have HNO : Hid (okK d as'[m] = false → as'.all (okK d) = false) := fun h => by
          rw [List.all_eq_false]
          exact ⟨as'[m], List.getElem_mem hmt, by rw [h]; decide⟩
        have HMT := mkHid (And.intro hmt (Nat.succ_le_of_lt hmt))
        generalize as'[m] = x at *
        have HBA := mkHid (HST.out.1.alloc HST.out.1.size (.cells #[.int .i64 x.kind, .string x.cls] 40))
        have HKA := mkHid (heap_alloc_new wz (.cells #[.int .i64 x.kind, .string x.cls] 40))
        have HIK := mkHid (isKind_any _ x dsz (HVV.out _ HBA.out).2.2.2.1)
        clear q hkz hgz haz
        go_wp2_with fail
        refine HIK.out.mono ?_
        rintro r w4 ⟨rfl, hb4⟩
        have HB4 := mkHid (HBA.out.trans (hb4.mono HBA.out.size))
        have q9 := (hb4.block _ (lt_of HKA.out)).trans HKA.out
        have g0 := cell_of q9 0 (x := .int .i64 x.kind) rfl
        have g1 := cell_of q9 1 (x := .string x.cls) rfl
        clear q9 hb4 HIK HKA HBA d0 d1
        go_wp2_with fail
        refine (demand_any _ _ _).mono ?_
        rintro r w5 ⟨hw5, ⟨hb, rfl⟩ | ⟨hb, rfl⟩⟩
        · exact ⟨rfl, by rw [hw5]; exact (HVV.out _ HB4.out).2.2.2.2.2, Or.inr ⟨HNO.out (by rw [okK, hb]; rfl), 7, by decide, rfl⟩⟩
        rw [hw5]
        clear hw5
        obtain ⟨q, -, hkz, -, -, -⟩ := HVV.out _ HB4.out
        have x0 := cell_of q 0 (x := .slice aC d.classes.length cC) rfl
        have x1 := cell_of q 1 (x := .slice aS d.supers.length cS) rfl
        have x2 := cell_of q 2 (x := .slice aF d.fields.length cF) rfl
        have x3 := cell_of q 3 (x := .slice aN d.names.length cN) rfl
        have x4 := cell_of q 4 (x := .slice aT d.targets.length cT) rfl
        have x5 := cell_of q 5 (x := .map (some w1.heap.size)) rfl
        have HHS := mkHid (kHas_any _ wr.heap.size _ _ _ _ _ _ d hkz HB4.out.size x.cls dsz)
        clear q hkz
        have HOK : Hid (okK d x = (decide (x.cls.toList = []) || decide (0 ≤ num d.classes x.cls))) := by show _ = _; rw [okK, hb, Bool.true_and]
        clear hb
        by_cases hcl : x.cls.toList = []
        · rw [decide_eq_true hcl, Bool.true_or] at HOK
          go_wp2_with fail
          refine (demand_any _ _ _).mono ?_
          rintro r w7 ⟨hw7, ⟨hb, rfl⟩ | ⟨hb, rfl⟩⟩
          · exact absurd hb (by decide)
          rw [hw7]
          clear hb hw7
          go_wp2_with fail
          go_roundw
          case rel => exact ⟨m + 1, HMT.out.2, by go_num, HB4.out, HTK.out.trans HOK.out⟩
          case measure => have hmt9 := HMT.out.1; simp [intOf]; omega
        · rw [decide_eq_false hcl, Bool.false_or] at HOK
          cases hhs : decide (0 ≤ num d.classes x.cls) with
          | true =>
            rw [hhs] at HOK HHS
            go_wp2_with fail
            refine HHS.out.mono ?_
            rintro r w6 ⟨rfl, hb6⟩
            have HB6 := mkHid (HB4.out.trans (hb6.mono HB4.out.size))
            clear hb6
            go_wp2_with fail
            refine (demand_any _ _ _).mono ?_
            rintro r w7 ⟨hw7, ⟨hb, rfl⟩ | ⟨hb, rfl⟩⟩
            · exact absurd hb (by decide)
            rw [hw7]
            clear hb hw7
            go_wp2_with fail
            go_roundw
            case rel => exact ⟨m + 1, HMT.out.2, by go_num, HB6.out, HTK.out.trans HOK.out⟩
            case measure => have hmt9 := HMT.out.1; simp [intOf]; omega
          | false =>
            rw [hhs] at HOK HHS
            go_wp2_with fail
            refine HHS.out.mono ?_
            rintro r w6 ⟨rfl, hb6⟩
            have HB6 := mkHid (HB4.out.trans (hb6.mono HB4.out.size))
            clear hb6
            go_wp2_with fail
            refine (demand_any _ _ _).mono ?_
            rintro r w7 ⟨hw7, ⟨hb, rfl⟩ | ⟨hb, rfl⟩⟩
            · exact ⟨rfl, by rw [hw7]; exact (HVV.out _ HB6.out).2.2.2.2.2, Or.inr ⟨HNO.out HOK.out, 5, by decide, rfl⟩⟩
            · exact absurd hb (by simpa using hcl)
      · obtain ⟨q, q1, hkz, -, -, hbz⟩ := HVV.out wz HST.out.1
        have x0 := cell_of q 0 (x := .slice aC d.classes.length cC) rfl; have x1 := cell_of q 1 (x := .slice aS d.supers.length cS) rfl; have x2 := cell_of q 2 (x := .slice aF d.fields.length cF) rfl; have x3 := cell_of q 3 (x := .slice aN d.names.length cN) rfl; have x4 := cell_of q 4 (x := .slice aT d.targets.length cT) rfl; have x5 := cell_of q 5 (x := .map (some w1.heap.size)) rfl
        have r0 := cell_of q1 0 (x := .slice none 0 0) rfl
        have r1 := cell_of q1 1 (x := .slice none 0 0) rfl
        have r2 := cell_of q1 2 (x := .slice none 0 0) rfl
        have r3 := cell_of q1 3 (x := .slice none 0 0) rfl
        have r4 := cell_of q1 4 (x := .slice none 0 0) rfl
        have r5 := cell_of q1 5 (x := .map none) rfl
        have rf := frz_of q1
        have HAL : Hid (as'.all (okK d) = true) := by have := HST.out.2; rwa [List.take_of_length_le (by omega)] at this
        have HKZ := mkHid hkz
        have HBZ := mkHid hbz
        have HWZ := mkHid HST.out.1
        clear q q1 hkz hbz
        obtain ⟨W9, hW9, hsz, hbl, hbe⟩ := six wz (w.heap.size + 1) (.slice aC d.classes.length cC) (.slice aS d.supers.length cS) (.slice aF d.fields.length cF) (.slice aN d.names.length cN) (.slice aT d.targets.length cT) (.map (some w1.heap.size))
        have HW9 := mkHid hW9
        have HB9 := mkHid (hbe HBZ.out (by omega))
        have hlt1 : w.heap.size + 1 < w1.heap.size := by have := HB1.out.size; omega
        have HN9 : Hid (NumMap W9 w1.heap.size d.classes) := by
          obtain ⟨D, ⟨es, clock, e, h'⟩, hd⟩ := HKZ.out.nm
          exact ⟨D, ⟨es, clock, (hbl _ (by omega)).trans e, h'⟩, hd⟩
        have HL9 : Hid (w1.heap.size < W9.heap.size) := by show _ < _; rw [hsz]; have := HKZ.out.bm; have := HWZ.out.size; omega
        clear hW9 hsz hbl hbe
        go_wp2_with fail
        refine bodyPost_ret (v := kdV (.slice aC d.classes.length cC) (.slice aS d.supers.length cS) (.slice aF d.fields.length cF) (.slice aN d.names.length cN) (.slice aT d.targets.length cT) w1.heap.size) (by simp [results, Tryz.results21, go_sem, r0, r1, r2, r3, r4, r5]) rfl ?_
        rw [← HW9.out]
        exact ⟨HB9.out, Or.inl ⟨HAL.out, _, rfl, (HK.out.kept (Kp.below (HB9.out.mono hB))).mono fun _ h => Nat.lt_of_lt_of_le h (Nat.le_trans hB HB9.out.size), HN9.out, HL9.out⟩⟩
end Go.Proofs.YtfibgdcpbkaaoaaGreatDoor
