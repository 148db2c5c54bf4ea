/- A step: is there what it tells of? -/
import Derived.Test.YtfibgdcpbkaaoaaGreatDoorTka
import Derived.Test.YtfibgdcpbkaaoaaGreatDoorJVmKVmC
namespace Go.Proofs.YtfibgdcpbkaaoaaGreatDoor
open Go.RowKit Go.Maps
set_option maxRecDepth 100000 in
set_option maxHeartbeats 4000000 in
theorem tells_3 {c : Lkr} {B F P Q : Nat} {x : Cd.Op4} {v : LkV} (w : World) {vL vS : Value} {lo st : List KindD} (hl : LkW c B P v w) (h : Sp c F P Q x w vL vS lo st) (hop : x.op = 3) : Calls Tryz.prog 139 #[.pointer (some ⟨Q, 0, none⟩)] w fun r w' => r = .returned (.bool (tellsD c x lo.length)) ∧ Below w.heap.size w w' := by
  have q0 := cell_of h.blk 0 (x := .pointer (some ⟨P, 0, none⟩)) rfl
  have q2 : w.cell? ⟨Q, 2, none⟩ = some (.int .i64 3) := by rw [← hop]; exact cell_of h.blk 2 rfl
  have q3 := cell_of h.blk 3 (x := .int .i64 x.a) rfl
  have q4 := cell_of h.blk 4 (x := .int .i64 x.b) rfl
  have q5 := cell_of h.blk 5 (x := vL) rfl
  have lQ : Q < w.heap.size := lt_of h.blk
  have lP : P < w.heap.size := lt_of hl.blk
  have HR : Hid (tellsD c x lo.length = decide (x.a < lo.length)) := by show _ = _; unfold tellsD; rw [hop]; rfl
  obtain ⟨aL, cL, rfl⟩ := own_shape h.oL
  have HB := mkHid (fun n => below_dn (Below.refl w.heap.size w) n)
  clear h hl hop
  go_enter Tryz.func139, Tryz.ntmps139
  go_wp2_with fail
  go_quiet (fail)
  go_wp2_with fail
  go_ret
  exact ⟨by rw [HR.out]; rfl, HB.out _⟩
set_option maxRecDepth 100000 in
set_option maxHeartbeats 4000000 in
theorem tells_4 {c : Lkr} {B F P Q : Nat} {x : Cd.Op4} {v : LkV} (w : World) {vL vS : Value} {lo st : List KindD} (hl : LkW c B P v w) (h : Sp c F P Q x w vL vS lo st) (hop : x.op = 4) : Calls Tryz.prog 139 #[.pointer (some ⟨Q, 0, none⟩)] w fun r w' => r = .returned (.bool (tellsD c x lo.length)) ∧ Below w.heap.size w w' := by
  have q0 := cell_of h.blk 0 (x := .pointer (some ⟨P, 0, none⟩)) rfl
  have q2 : w.cell? ⟨Q, 2, none⟩ = some (.int .i64 4) := by rw [← hop]; exact cell_of h.blk 2 rfl
  have q3 := cell_of h.blk 3 (x := .int .i64 x.a) rfl
  have q4 := cell_of h.blk 4 (x := .int .i64 x.b) rfl
  have q5 := cell_of h.blk 5 (x := vL) rfl
  have lQ : Q < w.heap.size := lt_of h.blk
  have lP : P < w.heap.size := lt_of hl.blk
  have HR : Hid (tellsD c x lo.length = decide (x.a < lo.length)) := by show _ = _; unfold tellsD; rw [hop]; rfl
  obtain ⟨aL, cL, rfl⟩ := own_shape h.oL
  have HB := mkHid (fun n => below_dn (Below.refl w.heap.size w) n)
  clear h hl hop
  go_enter Tryz.func139, Tryz.ntmps139
  go_wp2_with fail
  go_quiet (fail)
  go_wp2_with fail
  go_ret
  exact ⟨by rw [HR.out]; rfl, HB.out _⟩
set_option maxRecDepth 100000 in
set_option maxHeartbeats 4000000 in
theorem tells_18 {c : Lkr} {B F P Q : Nat} {x : Cd.Op4} {v : LkV} (w : World) {vL vS : Value} {lo st : List KindD} (hl : LkW c B P v w) (h : Sp c F P Q x w vL vS lo st) (hop : x.op = 18) : Calls Tryz.prog 139 #[.pointer (some ⟨Q, 0, none⟩)] w fun r w' => r = .returned (.bool (tellsD c x lo.length)) ∧ Below w.heap.size w w' := by
  have q0 := cell_of h.blk 0 (x := .pointer (some ⟨P, 0, none⟩)) rfl
  have q2 : w.cell? ⟨Q, 2, none⟩ = some (.int .i64 18) := by rw [← hop]; exact cell_of h.blk 2 rfl
  have q3 := cell_of h.blk 3 (x := .int .i64 x.a) rfl
  have q4 := cell_of h.blk 4 (x := .int .i64 x.b) rfl
  have q5 := cell_of h.blk 5 (x := vL) rfl
  have lQ : Q < w.heap.size := lt_of h.blk
  have lP : P < w.heap.size := lt_of hl.blk
  have hC := hl.kd.lk.C
  obtain ⟨aC, cC, eC, -⟩ := hl.kd.lk.C
  have p0 : w.cell? ⟨P, 0, none⟩ = some (.slice aC c.d.classes.length cC) := by rw [← eC]; exact cell_of hl.blk 0 rfl
  have HR : Hid (tellsD c x lo.length = decide (x.a < c.d.classes.length)) := by show _ = _; unfold tellsD; rw [hop]; rfl
  have HB := mkHid (fun n => below_dn (Below.refl w.heap.size w) n)
  clear h hl hop hC eC
  go_enter Tryz.func139, Tryz.ntmps139
  go_wp2_with fail
  go_quiet (fail)
  go_wp2_with fail
  go_ret
  exact ⟨by rw [HR.out]; rfl, HB.out _⟩
set_option maxRecDepth 100000 in
set_option maxHeartbeats 4000000 in
theorem tells_22 {c : Lkr} {B F P Q : Nat} {x : Cd.Op4} {v : LkV} (w : World) {vL vS : Value} {lo st : List KindD} (hl : LkW c B P v w) (h : Sp c F P Q x w vL vS lo st) (hop : x.op = 22) : Calls Tryz.prog 139 #[.pointer (some ⟨Q, 0, none⟩)] w fun r w' => r = .returned (.bool (tellsD c x lo.length)) ∧ Below w.heap.size w w' := by
  have q0 := cell_of h.blk 0 (x := .pointer (some ⟨P, 0, none⟩)) rfl
  have q2 : w.cell? ⟨Q, 2, none⟩ = some (.int .i64 22) := by rw [← hop]; exact cell_of h.blk 2 rfl
  have q3 := cell_of h.blk 3 (x := .int .i64 x.a) rfl
  have q4 := cell_of h.blk 4 (x := .int .i64 x.b) rfl
  have q5 := cell_of h.blk 5 (x := vL) rfl
  have lQ : Q < w.heap.size := lt_of h.blk
  have lP : P < w.heap.size := lt_of hl.blk
  have hC := hl.kd.lk.C
  obtain ⟨aC, cC, eC, -⟩ := hl.kd.lk.C
  have p0 : w.cell? ⟨P, 0, none⟩ = some (.slice aC c.d.classes.length cC) := by rw [← eC]; exact cell_of hl.blk 0 rfl
  have HR : Hid (tellsD c x lo.length = decide (x.a < c.d.classes.length)) := by show _ = _; unfold tellsD; rw [hop]; rfl
  have HB := mkHid (fun n => below_dn (Below.refl w.heap.size w) n)
  clear h hl hop hC eC
  go_enter Tryz.func139, Tryz.ntmps139
  go_wp2_with fail
  go_quiet (fail)
  go_wp2_with fail
  go_ret
  exact ⟨by rw [HR.out]; rfl, HB.out _⟩
set_option maxRecDepth 100000 in
set_option maxHeartbeats 4000000 in
theorem tells_29 {c : Lkr} {B F P Q : Nat} {x : Cd.Op4} {v : LkV} (w : World) {vL vS : Value} {lo st : List KindD} (hl : LkW c B P v w) (h : Sp c F P Q x w vL vS lo st) (hop : x.op = 29) : Calls Tryz.prog 139 #[.pointer (some ⟨Q, 0, none⟩)] w fun r w' => r = .returned (.bool (tellsD c x lo.length)) ∧ Below w.heap.size w w' := by
  have q0 := cell_of h.blk 0 (x := .pointer (some ⟨P, 0, none⟩)) rfl
  have q2 : w.cell? ⟨Q, 2, none⟩ = some (.int .i64 29) := by rw [← hop]; exact cell_of h.blk 2 rfl
  have q3 := cell_of h.blk 3 (x := .int .i64 x.a) rfl
  have q4 := cell_of h.blk 4 (x := .int .i64 x.b) rfl
  have q5 := cell_of h.blk 5 (x := vL) rfl
  have lQ : Q < w.heap.size := lt_of h.blk
  have lP : P < w.heap.size := lt_of hl.blk
  have hC := hl.kd.lk.C
  obtain ⟨aC, cC, eC, -⟩ := hl.kd.lk.C
  have p0 : w.cell? ⟨P, 0, none⟩ = some (.slice aC c.d.classes.length cC) := by rw [← eC]; exact cell_of hl.blk 0 rfl
  have HR : Hid (tellsD c x lo.length = decide (x.a < c.d.classes.length)) := by show _ = _; unfold tellsD; rw [hop]; rfl
  have HB := mkHid (fun n => below_dn (Below.refl w.heap.size w) n)
  clear h hl hop hC eC
  go_enter Tryz.func139, Tryz.ntmps139
  go_wp2_with fail
  go_quiet (fail)
  go_wp2_with fail
  go_ret
  exact ⟨by rw [HR.out]; rfl, HB.out _⟩
set_option maxRecDepth 100000 in
set_option maxHeartbeats 4000000 in
theorem tells_30 {c : Lkr} {B F P Q : Nat} {x : Cd.Op4} {v : LkV} (w : World) {vL vS : Value} {lo st : List KindD} (hl : LkW c B P v w) (h : Sp c F P Q x w vL vS lo st) (hop : x.op = 30) : Calls Tryz.prog 139 #[.pointer (some ⟨Q, 0, none⟩)] w fun r w' => r = .returned (.bool (tellsD c x lo.length)) ∧ Below w.heap.size w w' := by
  have q0 := cell_of h.blk 0 (x := .pointer (some ⟨P, 0, none⟩)) rfl
  have q2 : w.cell? ⟨Q, 2, none⟩ = some (.int .i64 30) := by rw [← hop]; exact cell_of h.blk 2 rfl
  have q3 := cell_of h.blk 3 (x := .int .i64 x.a) rfl
  have q4 := cell_of h.blk 4 (x := .int .i64 x.b) rfl
  have q5 := cell_of h.blk 5 (x := vL) rfl
  have lQ : Q < w.heap.size := lt_of h.blk
  have lP : P < w.heap.size := lt_of hl.blk
  have hC := hl.kd.lk.C
  obtain ⟨aC, cC, eC, -⟩ := hl.kd.lk.C
  have p0 : w.cell? ⟨P, 0, none⟩ = some (.slice aC c.d.classes.length cC) := by rw [← eC]; exact cell_of hl.blk 0 rfl
  have HR : Hid (tellsD c x lo.length = decide (x.a < c.d.classes.length)) := by show _ = _; unfold tellsD; rw [hop]; rfl
  have HB := mkHid (fun n => below_dn (Below.refl w.heap.size w) n)
  clear h hl hop hC eC
  go_enter Tryz.func139, Tryz.ntmps139
  go_wp2_with fail
  go_quiet (fail)
  go_wp2_with fail
  go_ret
  exact ⟨by rw [HR.out]; rfl, HB.out _⟩
set_option maxRecDepth 100000 in
set_option maxHeartbeats 4000000 in
theorem tells_19 {c : Lkr} {B F P Q : Nat} {x : Cd.Op4} {v : LkV} (w : World) {vL vS : Value} {lo st : List KindD} (hl : LkW c B P v w) (h : Sp c F P Q x w vL vS lo st) (hop : x.op = 19) (hfl : c.d.fields.length = c.d.classes.length) (h0 : 0 ≤ x.a) : Calls Tryz.prog 139 #[.pointer (some ⟨Q, 0, none⟩)] w fun r w' => r = .returned (.bool (tellsD c x lo.length)) ∧ Below w.heap.size w w' := by
  have q0 := cell_of h.blk 0 (x := .pointer (some ⟨P, 0, none⟩)) rfl
  have q2 : w.cell? ⟨Q, 2, none⟩ = some (.int .i64 19) := by rw [← hop]; exact cell_of h.blk 2 rfl
  have q3 := cell_of h.blk 3 (x := .int .i64 x.a) rfl
  have q4 := cell_of h.blk 4 (x := .int .i64 x.b) rfl
  have q5 := cell_of h.blk 5 (x := vL) rfl
  have lQ : Q < w.heap.size := lt_of h.blk
  have lP : P < w.heap.size := lt_of hl.blk
  have hC := hl.kd.lk.C
  obtain ⟨aC, cC, eC, -⟩ := hl.kd.lk.C
  have p0 : w.cell? ⟨P, 0, none⟩ = some (.slice aC c.d.classes.length cC) := by rw [← eC]; exact cell_of hl.blk 0 rfl
  have hF := hl.kd.lk.F
  obtain ⟨aF, cF, eF, -, hlF, -⟩ := hl.kd.lk.F
  have p2 : w.cell? ⟨P, 2, none⟩ = some (.slice aF c.d.fields.length cF) := by rw [← eF]; exact cell_of hl.blk 2 rfl
  have HR : Hid (tellsD c x lo.length = (decide (x.a < c.d.classes.length) && decide (x.b < (c.flds x).length))) := by show _ = _; unfold tellsD; rw [hop]; rfl
  have HB := mkHid ((Below.refl w.heap.size w).drew)
  by_cases ha : x.a < c.d.classes.length
  · obtain ⟨n, hn, hnl, hN⟩ := Cd_nat h0 ha
    have hnf : n < c.d.fields.length := by omega
    have hfs : c.flds x = c.d.fields[n] := by unfold Lkr.flds; rw [hN, List.getElem?_eq_getElem hnf]; rfl
    rw [hfs, decide_eq_true ha, Bool.true_and] at HR
    rw [eF] at hF
    obtain ⟨bF, oF, aG, cG, e9, hbF, g0, hG⟩ := hF.atSl n hnf
    subst e9
    obtain ⟨_, _, -, -, hlG, -⟩ := hG
    rw [hn] at q3
    have hcn : (n : Int) < c.d.classes.length := by omega
    have hcf : (n : Int) < c.d.fields.length := by omega
    have hn0 : (0 : Int) ≤ n := by omega
    clear h hl hop hC eC eF hfs ha hfl h0 hn hN hF
    go_enter Tryz.func139, Tryz.ntmps139
    go_wp2_with fail
    refine wp_region_held_drew (S := fun W' => ∀ p : Addr, p.block < w.heap.size → W'.cell? p = w.cell? p) (by kernel_rfl) (fun p hp => rfl) fun hH => ?_
    refine ta 0 (.pointer (some ⟨Q, 0, none⟩)) rfl hH ?_
    refine ta 1 (.pointer (some ⟨Q, 0, none⟩)) rfl hH ?_
    refine ta 2 (.pointer (some ⟨Q, 1, none⟩)) rfl hH ?_
    refine ta 3 (.pointer (some ⟨Q, 3, none⟩)) rfl hH ?_
    refine ta 4 (.int .i64 (n : Int)) rfl hH ?_
    refine ta 5 (.pointer (some ⟨Q, 0, none⟩)) rfl hH ?_
    refine ta 6 (.pointer (some ⟨Q, 0, none⟩)) rfl hH ?_
    refine ta 7 (.pointer (some ⟨Q, 0, none⟩)) rfl hH ?_
    refine ta 8 (.pointer (some ⟨P, 0, none⟩)) rfl hH ?_
    refine ta 9 (.pointer (some ⟨P, 0, none⟩)) rfl hH ?_
    refine ta 10 (.pointer (some ⟨P, 0, none⟩)) rfl hH ?_
    refine ta 11 (.pointer (some ⟨P, 0, none⟩)) rfl hH ?_
    refine ta 12 (.pointer (some ⟨P, 0, none⟩)) rfl hH ?_
    refine ta 13 (.slice aC c.d.classes.length cC) rfl hH ?_
    refine ta 14 (.int .i64 c.d.classes.length) rfl hH ?_
    refine ta 15 (.bool true) rfl hH ?_
    refine ta 16 (.bool true) rfl hH ?_
    refine ta 17 (.pointer (some ⟨Q, 0, none⟩)) rfl hH ?_
    refine ta 18 (.pointer (some ⟨Q, 0, none⟩)) rfl hH ?_
    refine ta 19 (.pointer (some ⟨Q, 1, none⟩)) rfl hH ?_
    refine ta 20 (.pointer (some ⟨Q, 4, none⟩)) rfl hH ?_
    refine ta 21 (.int .i64 x.b) rfl hH ?_
    refine ta 22 (.pointer (some ⟨Q, 0, none⟩)) rfl hH ?_
    refine ta 23 (.pointer (some ⟨Q, 0, none⟩)) rfl hH ?_
    refine ta 24 (.pointer (some ⟨Q, 0, none⟩)) rfl hH ?_
    refine ta 25 (.pointer (some ⟨P, 0, none⟩)) rfl hH ?_
    refine ta 26 (.pointer (some ⟨P, 0, none⟩)) rfl hH ?_
    refine ta 27 (.pointer (some ⟨P, 0, none⟩)) rfl hH ?_
    refine ta 28 (.pointer (some ⟨P, 0, none⟩)) rfl hH ?_
    refine ta 29 (.pointer (some ⟨P, 2, none⟩)) rfl hH ?_
    refine ta 30 (.slice (some ⟨bF, oF, none⟩) c.d.fields.length cF) rfl hH ?_
    refine ta 31 (.pointer (some ⟨Q, 0, none⟩)) rfl hH ?_
    refine ta 32 (.pointer (some ⟨Q, 0, none⟩)) rfl hH ?_
    refine ta 33 (.pointer (some ⟨Q, 1, none⟩)) rfl hH ?_
    refine ta 34 (.pointer (some ⟨Q, 3, none⟩)) rfl hH ?_
    refine ta 35 (.int .i64 (n : Int)) rfl hH ?_
    refine ta 36 (.pointer (some ⟨bF, oF + n, none⟩)) rfl hH ?_
    refine ta 37 (.slice aG c.d.fields[n].length cG) rfl hH ?_
    refine ta 38 (.int .i64 c.d.fields[n].length) rfl hH ?_
    refine ta 39 (.bool (decide (x.b < (c.d.fields[n].length : Int)))) rfl hH ?_
    refine ta 40 (.bool (decide (x.b < (c.d.fields[n].length : Int)))) rfl hH ?_
    refine ta 41 (.bool (decide (x.b < (c.d.fields[n].length : Int)))) rfl hH ?_
    refine wpAnyH_done (by kernel_rfl) ?_ _
    clear hH
    try simp only [Act.put, List.setIfInBounds_toArray, List.set_cons_zero, List.set_cons_succ, List.getElem_toArray, List.getElem_cons_zero, List.getElem_cons_succ]
    go_wp2_with fail
    go_ret
    exact ⟨by rw [HR.out]; rfl, HB.out⟩
  · rw [decide_eq_false ha, Bool.false_and] at HR
    clear h hl hop hC eC eF hfl h0 hF
    go_enter Tryz.func139, Tryz.ntmps139
    go_wp2_with fail
    refine wp_region_held_drew (S := fun W' => ∀ p : Addr, p.block < w.heap.size → W'.cell? p = w.cell? p) (by kernel_rfl) (fun p hp => rfl) fun hH => ?_
    refine ta 0 (.pointer (some ⟨Q, 0, none⟩)) rfl hH ?_
    refine ta 1 (.pointer (some ⟨Q, 0, none⟩)) rfl hH ?_
    refine ta 2 (.pointer (some ⟨Q, 1, none⟩)) rfl hH ?_
    refine ta 3 (.pointer (some ⟨Q, 3, none⟩)) rfl hH ?_
    refine ta 4 (.int .i64 x.a) rfl hH ?_
    refine ta 5 (.pointer (some ⟨Q, 0, none⟩)) rfl hH ?_
    refine ta 6 (.pointer (some ⟨Q, 0, none⟩)) rfl hH ?_
    refine ta 7 (.pointer (some ⟨Q, 0, none⟩)) rfl hH ?_
    refine ta 8 (.pointer (some ⟨P, 0, none⟩)) rfl hH ?_
    refine ta 9 (.pointer (some ⟨P, 0, none⟩)) rfl hH ?_
    refine ta 10 (.pointer (some ⟨P, 0, none⟩)) rfl hH ?_
    refine ta 11 (.pointer (some ⟨P, 0, none⟩)) rfl hH ?_
    refine ta 12 (.pointer (some ⟨P, 0, none⟩)) rfl hH ?_
    refine ta 13 (.slice aC c.d.classes.length cC) rfl hH ?_
    refine ta 14 (.int .i64 c.d.classes.length) rfl hH ?_
    refine ta 15 (.bool false) rfl hH ?_
    refine ta 16 (.bool false) rfl hH ?_
    refine tan 17 rfl hH ?_
    refine tan 18 rfl hH ?_
    refine tan 19 rfl hH ?_
    refine tan 20 rfl hH ?_
    refine tan 21 rfl hH ?_
    refine tan 22 rfl hH ?_
    refine tan 23 rfl hH ?_
    refine tan 24 rfl hH ?_
    refine tan 25 rfl hH ?_
    refine tan 26 rfl hH ?_
    refine tan 27 rfl hH ?_
    refine tan 28 rfl hH ?_
    refine tan 29 rfl hH ?_
    refine tan 30 rfl hH ?_
    refine tan 31 rfl hH ?_
    refine tan 32 rfl hH ?_
    refine tan 33 rfl hH ?_
    refine tan 34 rfl hH ?_
    refine tan 35 rfl hH ?_
    refine tan 36 rfl hH ?_
    refine tan 37 rfl hH ?_
    refine tan 38 rfl hH ?_
    refine tan 39 rfl hH ?_
    refine ta 40 (.bool false) rfl hH ?_
    refine ta 41 (.bool false) rfl hH ?_
    refine wpAnyH_done (by kernel_rfl) ?_ _
    clear hH
    try simp only [Act.put, List.setIfInBounds_toArray, List.set_cons_zero, List.set_cons_succ, List.getElem_toArray, List.getElem_cons_zero, List.getElem_cons_succ]
    go_wp2_with fail
    go_ret
    exact ⟨by rw [HR.out]; rfl, HB.out⟩
set_option maxRecDepth 100000 in
set_option maxHeartbeats 4000000 in
theorem tells_20 {c : Lkr} {B F P Q : Nat} {x : Cd.Op4} {v : LkV} (w : World) {vL vS : Value} {lo st : List KindD} (hl : LkW c B P v w) (h : Sp c F P Q x w vL vS lo st) (hop : x.op = 20) (hfl : c.d.fields.length = c.d.classes.length) (h0 : 0 ≤ x.a) : Calls Tryz.prog 139 #[.pointer (some ⟨Q, 0, none⟩)] w fun r w' => r = .returned (.bool (tellsD c x lo.length)) ∧ Below w.heap.size w w' := by
  have q0 := cell_of h.blk 0 (x := .pointer (some ⟨P, 0, none⟩)) rfl
  have q2 : w.cell? ⟨Q, 2, none⟩ = some (.int .i64 20) := by rw [← hop]; exact cell_of h.blk 2 rfl
  have q3 := cell_of h.blk 3 (x := .int .i64 x.a) rfl
  have q4 := cell_of h.blk 4 (x := .int .i64 x.b) rfl
  have q5 := cell_of h.blk 5 (x := vL) rfl
  have lQ : Q < w.heap.size := lt_of h.blk
  have lP : P < w.heap.size := lt_of hl.blk
  have hC := hl.kd.lk.C
  obtain ⟨aC, cC, eC, -⟩ := hl.kd.lk.C
  have p0 : w.cell? ⟨P, 0, none⟩ = some (.slice aC c.d.classes.length cC) := by rw [← eC]; exact cell_of hl.blk 0 rfl
  have hF := hl.kd.lk.F
  obtain ⟨aF, cF, eF, -, hlF, -⟩ := hl.kd.lk.F
  have p2 : w.cell? ⟨P, 2, none⟩ = some (.slice aF c.d.fields.length cF) := by rw [← eF]; exact cell_of hl.blk 2 rfl
  have HR : Hid (tellsD c x lo.length = (decide (x.a < c.d.classes.length) && decide (x.b < (c.flds x).length))) := by show _ = _; unfold tellsD; rw [hop]; rfl
  have HB := mkHid ((Below.refl w.heap.size w).drew)
  by_cases ha : x.a < c.d.classes.length
  · obtain ⟨n, hn, hnl, hN⟩ := Cd_nat h0 ha
    have hnf : n < c.d.fields.length := by omega
    have hfs : c.flds x = c.d.fields[n] := by unfold Lkr.flds; rw [hN, List.getElem?_eq_getElem hnf]; rfl
    rw [hfs, decide_eq_true ha, Bool.true_and] at HR
    rw [eF] at hF
    obtain ⟨bF, oF, aG, cG, e9, hbF, g0, hG⟩ := hF.atSl n hnf
    subst e9
    obtain ⟨_, _, -, -, hlG, -⟩ := hG
    rw [hn] at q3
    have hcn : (n : Int) < c.d.classes.length := by omega
    have hcf : (n : Int) < c.d.fields.length := by omega
    have hn0 : (0 : Int) ≤ n := by omega
    clear h hl hop hC eC eF hfs ha hfl h0 hn hN hF
    go_enter Tryz.func139, Tryz.ntmps139
    go_wp2_with fail
    refine wp_region_held_drew (S := fun W' => ∀ p : Addr, p.block < w.heap.size → W'.cell? p = w.cell? p) (by kernel_rfl) (fun p hp => rfl) fun hH => ?_
    refine ta 0 (.pointer (some ⟨Q, 0, none⟩)) rfl hH ?_
    refine ta 1 (.pointer (some ⟨Q, 0, none⟩)) rfl hH ?_
    refine ta 2 (.pointer (some ⟨Q, 1, none⟩)) rfl hH ?_
    refine ta 3 (.pointer (some ⟨Q, 3, none⟩)) rfl hH ?_
    refine ta 4 (.int .i64 (n : Int)) rfl hH ?_
    refine ta 5 (.pointer (some ⟨Q, 0, none⟩)) rfl hH ?_
    refine ta 6 (.pointer (some ⟨Q, 0, none⟩)) rfl hH ?_
    refine ta 7 (.pointer (some ⟨Q, 0, none⟩)) rfl hH ?_
    refine ta 8 (.pointer (some ⟨P, 0, none⟩)) rfl hH ?_
    refine ta 9 (.pointer (some ⟨P, 0, none⟩)) rfl hH ?_
    refine ta 10 (.pointer (some ⟨P, 0, none⟩)) rfl hH ?_
    refine ta 11 (.pointer (some ⟨P, 0, none⟩)) rfl hH ?_
    refine ta 12 (.pointer (some ⟨P, 0, none⟩)) rfl hH ?_
    refine ta 13 (.slice aC c.d.classes.length cC) rfl hH ?_
    refine ta 14 (.int .i64 c.d.classes.length) rfl hH ?_
    refine ta 15 (.bool true) rfl hH ?_
    refine ta 16 (.bool true) rfl hH ?_
    refine ta 17 (.pointer (some ⟨Q, 0, none⟩)) rfl hH ?_
    refine ta 18 (.pointer (some ⟨Q, 0, none⟩)) rfl hH ?_
    refine ta 19 (.pointer (some ⟨Q, 1, none⟩)) rfl hH ?_
    refine ta 20 (.pointer (some ⟨Q, 4, none⟩)) rfl hH ?_
    refine ta 21 (.int .i64 x.b) rfl hH ?_
    refine ta 22 (.pointer (some ⟨Q, 0, none⟩)) rfl hH ?_
    refine ta 23 (.pointer (some ⟨Q, 0, none⟩)) rfl hH ?_
    refine ta 24 (.pointer (some ⟨Q, 0, none⟩)) rfl hH ?_
    refine ta 25 (.pointer (some ⟨P, 0, none⟩)) rfl hH ?_
    refine ta 26 (.pointer (some ⟨P, 0, none⟩)) rfl hH ?_
    refine ta 27 (.pointer (some ⟨P, 0, none⟩)) rfl hH ?_
    refine ta 28 (.pointer (some ⟨P, 0, none⟩)) rfl hH ?_
    refine ta 29 (.pointer (some ⟨P, 2, none⟩)) rfl hH ?_
    refine ta 30 (.slice (some ⟨bF, oF, none⟩) c.d.fields.length cF) rfl hH ?_
    refine ta 31 (.pointer (some ⟨Q, 0, none⟩)) rfl hH ?_
    refine ta 32 (.pointer (some ⟨Q, 0, none⟩)) rfl hH ?_
    refine ta 33 (.pointer (some ⟨Q, 1, none⟩)) rfl hH ?_
    refine ta 34 (.pointer (some ⟨Q, 3, none⟩)) rfl hH ?_
    refine ta 35 (.int .i64 (n : Int)) rfl hH ?_
    refine ta 36 (.pointer (some ⟨bF, oF + n, none⟩)) rfl hH ?_
    refine ta 37 (.slice aG c.d.fields[n].length cG) rfl hH ?_
    refine ta 38 (.int .i64 c.d.fields[n].length) rfl hH ?_
    refine ta 39 (.bool (decide (x.b < (c.d.fields[n].length : Int)))) rfl hH ?_
    refine ta 40 (.bool (decide (x.b < (c.d.fields[n].length : Int)))) rfl hH ?_
    refine ta 41 (.bool (decide (x.b < (c.d.fields[n].length : Int)))) rfl hH ?_
    refine wpAnyH_done (by kernel_rfl) ?_ _
    clear hH
    try simp only [Act.put, List.setIfInBounds_toArray, List.set_cons_zero, List.set_cons_succ, List.getElem_toArray, List.getElem_cons_zero, List.getElem_cons_succ]
    go_wp2_with fail
    go_ret
    exact ⟨by rw [HR.out]; rfl, HB.out⟩
  · rw [decide_eq_false ha, Bool.false_and] at HR
    clear h hl hop hC eC eF hfl h0 hF
    go_enter Tryz.func139, Tryz.ntmps139
    go_wp2_with fail
    refine wp_region_held_drew (S := fun W' => ∀ p : Addr, p.block < w.heap.size → W'.cell? p = w.cell? p) (by kernel_rfl) (fun p hp => rfl) fun hH => ?_
    refine ta 0 (.pointer (some ⟨Q, 0, none⟩)) rfl hH ?_
    refine ta 1 (.pointer (some ⟨Q, 0, none⟩)) rfl hH ?_
    refine ta 2 (.pointer (some ⟨Q, 1, none⟩)) rfl hH ?_
    refine ta 3 (.pointer (some ⟨Q, 3, none⟩)) rfl hH ?_
    refine ta 4 (.int .i64 x.a) rfl hH ?_
    refine ta 5 (.pointer (some ⟨Q, 0, none⟩)) rfl hH ?_
    refine ta 6 (.pointer (some ⟨Q, 0, none⟩)) rfl hH ?_
    refine ta 7 (.pointer (some ⟨Q, 0, none⟩)) rfl hH ?_
    refine ta 8 (.pointer (some ⟨P, 0, none⟩)) rfl hH ?_
    refine ta 9 (.pointer (some ⟨P, 0, none⟩)) rfl hH ?_
    refine ta 10 (.pointer (some ⟨P, 0, none⟩)) rfl hH ?_
    refine ta 11 (.pointer (some ⟨P, 0, none⟩)) rfl hH ?_
    refine ta 12 (.pointer (some ⟨P, 0, none⟩)) rfl hH ?_
    refine ta 13 (.slice aC c.d.classes.length cC) rfl hH ?_
    refine ta 14 (.int .i64 c.d.classes.length) rfl hH ?_
    refine ta 15 (.bool false) rfl hH ?_
    refine ta 16 (.bool false) rfl hH ?_
    refine tan 17 rfl hH ?_
    refine tan 18 rfl hH ?_
    refine tan 19 rfl hH ?_
    refine tan 20 rfl hH ?_
    refine tan 21 rfl hH ?_
    refine tan 22 rfl hH ?_
    refine tan 23 rfl hH ?_
    refine tan 24 rfl hH ?_
    refine tan 25 rfl hH ?_
    refine tan 26 rfl hH ?_
    refine tan 27 rfl hH ?_
    refine tan 28 rfl hH ?_
    refine tan 29 rfl hH ?_
    refine tan 30 rfl hH ?_
    refine tan 31 rfl hH ?_
    refine tan 32 rfl hH ?_
    refine tan 33 rfl hH ?_
    refine tan 34 rfl hH ?_
    refine tan 35 rfl hH ?_
    refine tan 36 rfl hH ?_
    refine tan 37 rfl hH ?_
    refine tan 38 rfl hH ?_
    refine tan 39 rfl hH ?_
    refine ta 40 (.bool false) rfl hH ?_
    refine ta 41 (.bool false) rfl hH ?_
    refine wpAnyH_done (by kernel_rfl) ?_ _
    clear hH
    try simp only [Act.put, List.setIfInBounds_toArray, List.set_cons_zero, List.set_cons_succ, List.getElem_toArray, List.getElem_cons_zero, List.getElem_cons_succ]
    go_wp2_with fail
    go_ret
    exact ⟨by rw [HR.out]; rfl, HB.out⟩
set_option maxRecDepth 100000 in
set_option maxHeartbeats 4000000 in
theorem tells_26 {c : Lkr} {B F P Q : Nat} {x : Cd.Op4} {v : LkV} (w : World) {vL vS : Value} {lo st : List KindD} (hl : LkW c B P v w) (h : Sp c F P Q x w vL vS lo st) (hop : x.op = 26) (h0 : 0 ≤ x.a) : Calls Tryz.prog 139 #[.pointer (some ⟨Q, 0, none⟩)] w fun r w' => r = .returned (.bool (tellsD c x lo.length)) ∧ Below w.heap.size w w' := by
  have q0 := cell_of h.blk 0 (x := .pointer (some ⟨P, 0, none⟩)) rfl
  have q2 : w.cell? ⟨Q, 2, none⟩ = some (.int .i64 26) := by rw [← hop]; exact cell_of h.blk 2 rfl
  have q3 := cell_of h.blk 3 (x := .int .i64 x.a) rfl
  have q4 := cell_of h.blk 4 (x := .int .i64 x.b) rfl
  have q5 := cell_of h.blk 5 (x := vL) rfl
  have lQ : Q < w.heap.size := lt_of h.blk
  have lP : P < w.heap.size := lt_of hl.blk
  have hC := hl.kd.lk.C
  obtain ⟨aC, cC, eC, -⟩ := hl.kd.lk.C
  have p0 : w.cell? ⟨P, 0, none⟩ = some (.slice aC c.d.classes.length cC) := by rw [← eC]; exact cell_of hl.blk 0 rfl
  have HR : Hid (tellsD c x lo.length = (decide (x.a < c.d.classes.length) && decide (x.b < (c.cls x).meths.length))) := by show _ = _; unfold tellsD; rw [hop]; rfl
  have HB := mkHid ((Below.refl w.heap.size w).drew)
  by_cases ha : x.a < c.d.classes.length
  · obtain ⟨n, hn, hnl, hN⟩ := Cd_nat h0 ha
    have hfs : c.cls x = c.d.classes[n] := by unfold Lkr.cls; rw [hN, clsAt_eq hnl]
    rw [hfs, decide_eq_true ha, Bool.true_and] at HR
    rw [eC] at hC
    obtain ⟨bC, oC, vf, vg, e9, hbC, -, -, -, g3, -, hG, -⟩ := hC.atC n hnl
    subst e9
    obtain ⟨aG, cG, rfl, -, hlG, -⟩ := hG
    rw [hn] at q3
    have hcn : (n : Int) < c.d.classes.length := by omega
    have hn0 : (0 : Int) ≤ n := by omega
    clear h hl hop eC hfs ha h0 hn hN hC
    go_enter Tryz.func139, Tryz.ntmps139
    go_wp2_with fail
    refine wp_region_held_drew (S := fun W' => ∀ p : Addr, p.block < w.heap.size → W'.cell? p = w.cell? p) (by kernel_rfl) (fun p hp => rfl) fun hH => ?_
    refine ta 0 (.pointer (some ⟨Q, 0, none⟩)) rfl hH ?_
    refine ta 1 (.pointer (some ⟨Q, 0, none⟩)) rfl hH ?_
    refine ta 2 (.pointer (some ⟨Q, 1, none⟩)) rfl hH ?_
    refine ta 3 (.pointer (some ⟨Q, 3, none⟩)) rfl hH ?_
    refine ta 4 (.int .i64 (n : Int)) rfl hH ?_
    refine ta 5 (.pointer (some ⟨Q, 0, none⟩)) rfl hH ?_
    refine ta 6 (.pointer (some ⟨Q, 0, none⟩)) rfl hH ?_
    refine ta 7 (.pointer (some ⟨Q, 0, none⟩)) rfl hH ?_
    refine ta 8 (.pointer (some ⟨P, 0, none⟩)) rfl hH ?_
    refine ta 9 (.pointer (some ⟨P, 0, none⟩)) rfl hH ?_
    refine ta 10 (.pointer (some ⟨P, 0, none⟩)) rfl hH ?_
    refine ta 11 (.pointer (some ⟨P, 0, none⟩)) rfl hH ?_
    refine ta 12 (.pointer (some ⟨P, 0, none⟩)) rfl hH ?_
    refine ta 13 (.slice (some ⟨bC, oC, none⟩) c.d.classes.length cC) rfl hH ?_
    refine ta 14 (.int .i64 c.d.classes.length) rfl hH ?_
    refine ta 15 (.bool true) rfl hH ?_
    refine ta 16 (.bool true) rfl hH ?_
    refine ta 17 (.pointer (some ⟨Q, 0, none⟩)) rfl hH ?_
    refine ta 18 (.pointer (some ⟨Q, 0, none⟩)) rfl hH ?_
    refine ta 19 (.pointer (some ⟨Q, 1, none⟩)) rfl hH ?_
    refine ta 20 (.pointer (some ⟨Q, 4, none⟩)) rfl hH ?_
    refine ta 21 (.int .i64 x.b) rfl hH ?_
    refine ta 22 (.pointer (some ⟨Q, 0, none⟩)) rfl hH ?_
    refine ta 23 (.pointer (some ⟨Q, 0, none⟩)) rfl hH ?_
    refine ta 24 (.pointer (some ⟨Q, 0, none⟩)) rfl hH ?_
    refine ta 25 (.pointer (some ⟨P, 0, none⟩)) rfl hH ?_
    refine ta 26 (.pointer (some ⟨P, 0, none⟩)) rfl hH ?_
    refine ta 27 (.pointer (some ⟨P, 0, none⟩)) rfl hH ?_
    refine ta 28 (.pointer (some ⟨P, 0, none⟩)) rfl hH ?_
    refine ta 29 (.pointer (some ⟨P, 0, none⟩)) rfl hH ?_
    refine ta 30 (.slice (some ⟨bC, oC, none⟩) c.d.classes.length cC) rfl hH ?_
    refine ta 31 (.pointer (some ⟨Q, 0, none⟩)) rfl hH ?_
    refine ta 32 (.pointer (some ⟨Q, 0, none⟩)) rfl hH ?_
    refine ta 33 (.pointer (some ⟨Q, 1, none⟩)) rfl hH ?_
    refine ta 34 (.pointer (some ⟨Q, 3, none⟩)) rfl hH ?_
    refine ta 35 (.int .i64 (n : Int)) rfl hH ?_
    refine ta 36 (.pointer (some ⟨bC, oC + n * 4, none⟩)) rfl hH ?_
    refine ta 37 (.pointer (some ⟨bC, oC + n * 4 + 3, none⟩)) rfl hH ?_
    refine ta 38 (.slice aG c.d.classes[n].meths.length cG) rfl hH ?_
    refine ta 39 (.int .i64 c.d.classes[n].meths.length) rfl hH ?_
    refine ta 40 (.bool (decide (x.b < (c.d.classes[n].meths.length : Int)))) rfl hH ?_
    refine ta 41 (.bool (decide (x.b < (c.d.classes[n].meths.length : Int)))) rfl hH ?_
    refine ta 42 (.bool (decide (x.b < (c.d.classes[n].meths.length : Int)))) rfl hH ?_
    refine wpAnyH_done (by kernel_rfl) ?_ _
    clear hH
    try simp only [Act.put, List.setIfInBounds_toArray, List.set_cons_zero, List.set_cons_succ, List.getElem_toArray, List.getElem_cons_zero, List.getElem_cons_succ]
    go_wp2_with fail
    go_ret
    exact ⟨by rw [HR.out]; rfl, HB.out⟩
  · rw [decide_eq_false ha, Bool.false_and] at HR
    clear h hl hop hC eC h0
    go_enter Tryz.func139, Tryz.ntmps139
    go_wp2_with fail
    refine wp_region_held_drew (S := fun W' => ∀ p : Addr, p.block < w.heap.size → W'.cell? p = w.cell? p) (by kernel_rfl) (fun p hp => rfl) fun hH => ?_
    refine ta 0 (.pointer (some ⟨Q, 0, none⟩)) rfl hH ?_
    refine ta 1 (.pointer (some ⟨Q, 0, none⟩)) rfl hH ?_
    refine ta 2 (.pointer (some ⟨Q, 1, none⟩)) rfl hH ?_
    refine ta 3 (.pointer (some ⟨Q, 3, none⟩)) rfl hH ?_
    refine ta 4 (.int .i64 x.a) rfl hH ?_
    refine ta 5 (.pointer (some ⟨Q, 0, none⟩)) rfl hH ?_
    refine ta 6 (.pointer (some ⟨Q, 0, none⟩)) rfl hH ?_
    refine ta 7 (.pointer (some ⟨Q, 0, none⟩)) rfl hH ?_
    refine ta 8 (.pointer (some ⟨P, 0, none⟩)) rfl hH ?_
    refine ta 9 (.pointer (some ⟨P, 0, none⟩)) rfl hH ?_
    refine ta 10 (.pointer (some ⟨P, 0, none⟩)) rfl hH ?_
    refine ta 11 (.pointer (some ⟨P, 0, none⟩)) rfl hH ?_
    refine ta 12 (.pointer (some ⟨P, 0, none⟩)) rfl hH ?_
    refine ta 13 (.slice aC c.d.classes.length cC) rfl hH ?_
    refine ta 14 (.int .i64 c.d.classes.length) rfl hH ?_
    refine ta 15 (.bool false) rfl hH ?_
    refine ta 16 (.bool false) rfl hH ?_
    refine tan 17 rfl hH ?_
    refine tan 18 rfl hH ?_
    refine tan 19 rfl hH ?_
    refine tan 20 rfl hH ?_
    refine tan 21 rfl hH ?_
    refine tan 22 rfl hH ?_
    refine tan 23 rfl hH ?_
    refine tan 24 rfl hH ?_
    refine tan 25 rfl hH ?_
    refine tan 26 rfl hH ?_
    refine tan 27 rfl hH ?_
    refine tan 28 rfl hH ?_
    refine tan 29 rfl hH ?_
    refine tan 30 rfl hH ?_
    refine tan 31 rfl hH ?_
    refine tan 32 rfl hH ?_
    refine tan 33 rfl hH ?_
    refine tan 34 rfl hH ?_
    refine tan 35 rfl hH ?_
    refine tan 36 rfl hH ?_
    refine tan 37 rfl hH ?_
    refine tan 38 rfl hH ?_
    refine tan 39 rfl hH ?_
    refine tan 40 rfl hH ?_
    refine ta 41 (.bool false) rfl hH ?_
    refine ta 42 (.bool false) rfl hH ?_
    refine wpAnyH_done (by kernel_rfl) ?_ _
    clear hH
    try simp only [Act.put, List.setIfInBounds_toArray, List.set_cons_zero, List.set_cons_succ, List.getElem_toArray, List.getElem_cons_zero, List.getElem_cons_succ]
    go_wp2_with fail
    go_ret
    exact ⟨by rw [HR.out]; rfl, HB.out⟩
set_option maxRecDepth 100000 in
set_option maxHeartbeats 4000000 in
theorem tells_34 {c : Lkr} {B F P Q : Nat} {x : Cd.Op4} {v : LkV} (w : World) {vL vS : Value} {lo st : List KindD} (hl : LkW c B P v w) (h : Sp c F P Q x w vL vS lo st) (hop : x.op = 34) (h0 : 0 ≤ x.a) : Calls Tryz.prog 139 #[.pointer (some ⟨Q, 0, none⟩)] w fun r w' => r = .returned (.bool (tellsD c x lo.length)) ∧ Below w.heap.size w w' := by
  have q0 := cell_of h.blk 0 (x := .pointer (some ⟨P, 0, none⟩)) rfl
  have q2 : w.cell? ⟨Q, 2, none⟩ = some (.int .i64 34) := by rw [← hop]; exact cell_of h.blk 2 rfl
  have q3 := cell_of h.blk 3 (x := .int .i64 x.a) rfl
  have q4 := cell_of h.blk 4 (x := .int .i64 x.b) rfl
  have q5 := cell_of h.blk 5 (x := vL) rfl
  have lQ : Q < w.heap.size := lt_of h.blk
  have lP : P < w.heap.size := lt_of hl.blk
  have hC := hl.kd.lk.C
  obtain ⟨aC, cC, eC, -⟩ := hl.kd.lk.C
  have p0 : w.cell? ⟨P, 0, none⟩ = some (.slice aC c.d.classes.length cC) := by rw [← eC]; exact cell_of hl.blk 0 rfl
  have HR : Hid (tellsD c x lo.length = (decide (x.a < c.d.classes.length) && decide (x.b < (c.cls x).meths.length))) := by show _ = _; unfold tellsD; rw [hop]; rfl
  have HB := mkHid ((Below.refl w.heap.size w).drew)
  by_cases ha : x.a < c.d.classes.length
  · obtain ⟨n, hn, hnl, hN⟩ := Cd_nat h0 ha
    have hfs : c.cls x = c.d.classes[n] := by unfold Lkr.cls; rw [hN, clsAt_eq hnl]
    rw [hfs, decide_eq_true ha, Bool.true_and] at HR
    rw [eC] at hC
    obtain ⟨bC, oC, vf, vg, e9, hbC, -, -, -, g3, -, hG, -⟩ := hC.atC n hnl
    subst e9
    obtain ⟨aG, cG, rfl, -, hlG, -⟩ := hG
    rw [hn] at q3
    have hcn : (n : Int) < c.d.classes.length := by omega
    have hn0 : (0 : Int) ≤ n := by omega
    clear h hl hop eC hfs ha h0 hn hN hC
    go_enter Tryz.func139, Tryz.ntmps139
    go_wp2_with fail
    refine wp_region_held_drew (S := fun W' => ∀ p : Addr, p.block < w.heap.size → W'.cell? p = w.cell? p) (by kernel_rfl) (fun p hp => rfl) fun hH => ?_
    refine ta 0 (.pointer (some ⟨Q, 0, none⟩)) rfl hH ?_
    refine ta 1 (.pointer (some ⟨Q, 0, none⟩)) rfl hH ?_
    refine ta 2 (.pointer (some ⟨Q, 1, none⟩)) rfl hH ?_
    refine ta 3 (.pointer (some ⟨Q, 3, none⟩)) rfl hH ?_
    refine ta 4 (.int .i64 (n : Int)) rfl hH ?_
    refine ta 5 (.pointer (some ⟨Q, 0, none⟩)) rfl hH ?_
    refine ta 6 (.pointer (some ⟨Q, 0, none⟩)) rfl hH ?_
    refine ta 7 (.pointer (some ⟨Q, 0, none⟩)) rfl hH ?_
    refine ta 8 (.pointer (some ⟨P, 0, none⟩)) rfl hH ?_
    refine ta 9 (.pointer (some ⟨P, 0, none⟩)) rfl hH ?_
    refine ta 10 (.pointer (some ⟨P, 0, none⟩)) rfl hH ?_
    refine ta 11 (.pointer (some ⟨P, 0, none⟩)) rfl hH ?_
    refine ta 12 (.pointer (some ⟨P, 0, none⟩)) rfl hH ?_
    refine ta 13 (.slice (some ⟨bC, oC, none⟩) c.d.classes.length cC) rfl hH ?_
    refine ta 14 (.int .i64 c.d.classes.length) rfl hH ?_
    refine ta 15 (.bool true) rfl hH ?_
    refine ta 16 (.bool true) rfl hH ?_
    refine ta 17 (.pointer (some ⟨Q, 0, none⟩)) rfl hH ?_
    refine ta 18 (.pointer (some ⟨Q, 0, none⟩)) rfl hH ?_
    refine ta 19 (.pointer (some ⟨Q, 1, none⟩)) rfl hH ?_
    refine ta 20 (.pointer (some ⟨Q, 4, none⟩)) rfl hH ?_
    refine ta 21 (.int .i64 x.b) rfl hH ?_
    refine ta 22 (.pointer (some ⟨Q, 0, none⟩)) rfl hH ?_
    refine ta 23 (.pointer (some ⟨Q, 0, none⟩)) rfl hH ?_
    refine ta 24 (.pointer (some ⟨Q, 0, none⟩)) rfl hH ?_
    refine ta 25 (.pointer (some ⟨P, 0, none⟩)) rfl hH ?_
    refine ta 26 (.pointer (some ⟨P, 0, none⟩)) rfl hH ?_
    refine ta 27 (.pointer (some ⟨P, 0, none⟩)) rfl hH ?_
    refine ta 28 (.pointer (some ⟨P, 0, none⟩)) rfl hH ?_
    refine ta 29 (.pointer (some ⟨P, 0, none⟩)) rfl hH ?_
    refine ta 30 (.slice (some ⟨bC, oC, none⟩) c.d.classes.length cC) rfl hH ?_
    refine ta 31 (.pointer (some ⟨Q, 0, none⟩)) rfl hH ?_
    refine ta 32 (.pointer (some ⟨Q, 0, none⟩)) rfl hH ?_
    refine ta 33 (.pointer (some ⟨Q, 1, none⟩)) rfl hH ?_
    refine ta 34 (.pointer (some ⟨Q, 3, none⟩)) rfl hH ?_
    refine ta 35 (.int .i64 (n : Int)) rfl hH ?_
    refine ta 36 (.pointer (some ⟨bC, oC + n * 4, none⟩)) rfl hH ?_
    refine ta 37 (.pointer (some ⟨bC, oC + n * 4 + 3, none⟩)) rfl hH ?_
    refine ta 38 (.slice aG c.d.classes[n].meths.length cG) rfl hH ?_
    refine ta 39 (.int .i64 c.d.classes[n].meths.length) rfl hH ?_
    refine ta 40 (.bool (decide (x.b < (c.d.classes[n].meths.length : Int)))) rfl hH ?_
    refine ta 41 (.bool (decide (x.b < (c.d.classes[n].meths.length : Int)))) rfl hH ?_
    refine ta 42 (.bool (decide (x.b < (c.d.classes[n].meths.length : Int)))) rfl hH ?_
    refine wpAnyH_done (by kernel_rfl) ?_ _
    clear hH
    try simp only [Act.put, List.setIfInBounds_toArray, List.set_cons_zero, List.set_cons_succ, List.getElem_toArray, List.getElem_cons_zero, List.getElem_cons_succ]
    go_wp2_with fail
    go_ret
    exact ⟨by rw [HR.out]; rfl, HB.out⟩
  · rw [decide_eq_false ha, Bool.false_and] at HR
    clear h hl hop hC eC h0
    go_enter Tryz.func139, Tryz.ntmps139
    go_wp2_with fail
    refine wp_region_held_drew (S := fun W' => ∀ p : Addr, p.block < w.heap.size → W'.cell? p = w.cell? p) (by kernel_rfl) (fun p hp => rfl) fun hH => ?_
    refine ta 0 (.pointer (some ⟨Q, 0, none⟩)) rfl hH ?_
    refine ta 1 (.pointer (some ⟨Q, 0, none⟩)) rfl hH ?_
    refine ta 2 (.pointer (some ⟨Q, 1, none⟩)) rfl hH ?_
    refine ta 3 (.pointer (some ⟨Q, 3, none⟩)) rfl hH ?_
    refine ta 4 (.int .i64 x.a) rfl hH ?_
    refine ta 5 (.pointer (some ⟨Q, 0, none⟩)) rfl hH ?_
    refine ta 6 (.pointer (some ⟨Q, 0, none⟩)) rfl hH ?_
    refine ta 7 (.pointer (some ⟨Q, 0, none⟩)) rfl hH ?_
    refine ta 8 (.pointer (some ⟨P, 0, none⟩)) rfl hH ?_
    refine ta 9 (.pointer (some ⟨P, 0, none⟩)) rfl hH ?_
    refine ta 10 (.pointer (some ⟨P, 0, none⟩)) rfl hH ?_
    refine ta 11 (.pointer (some ⟨P, 0, none⟩)) rfl hH ?_
    refine ta 12 (.pointer (some ⟨P, 0, none⟩)) rfl hH ?_
    refine ta 13 (.slice aC c.d.classes.length cC) rfl hH ?_
    refine ta 14 (.int .i64 c.d.classes.length) rfl hH ?_
    refine ta 15 (.bool false) rfl hH ?_
    refine ta 16 (.bool false) rfl hH ?_
    refine tan 17 rfl hH ?_
    refine tan 18 rfl hH ?_
    refine tan 19 rfl hH ?_
    refine tan 20 rfl hH ?_
    refine tan 21 rfl hH ?_
    refine tan 22 rfl hH ?_
    refine tan 23 rfl hH ?_
    refine tan 24 rfl hH ?_
    refine tan 25 rfl hH ?_
    refine tan 26 rfl hH ?_
    refine tan 27 rfl hH ?_
    refine tan 28 rfl hH ?_
    refine tan 29 rfl hH ?_
    refine tan 30 rfl hH ?_
    refine tan 31 rfl hH ?_
    refine tan 32 rfl hH ?_
    refine tan 33 rfl hH ?_
    refine tan 34 rfl hH ?_
    refine tan 35 rfl hH ?_
    refine tan 36 rfl hH ?_
    refine tan 37 rfl hH ?_
    refine tan 38 rfl hH ?_
    refine tan 39 rfl hH ?_
    refine tan 40 rfl hH ?_
    refine ta 41 (.bool false) rfl hH ?_
    refine ta 42 (.bool false) rfl hH ?_
    refine wpAnyH_done (by kernel_rfl) ?_ _
    clear hH
    try simp only [Act.put, List.setIfInBounds_toArray, List.set_cons_zero, List.set_cons_succ, List.getElem_toArray, List.getElem_cons_zero, List.getElem_cons_succ]
    go_wp2_with fail
    go_ret
    exact ⟨by rw [HR.out]; rfl, HB.out⟩
set_option maxHeartbeats 4000000 in
theorem tells_rest {c : Lkr} {F P Q : Nat} {x : Cd.Op4} (w : World) {vL vS : Value} {lo st : List KindD} (h : Sp c F P Q x w vL vS lo st) (n3 : ¬ x.op = 3) (n4 : ¬ x.op = 4) (n18 : ¬ x.op = 18) (n22 : ¬ x.op = 22) (n29 : ¬ x.op = 29) (n30 : ¬ x.op = 30) (n19 : ¬ x.op = 19) (n20 : ¬ x.op = 20) (n26 : ¬ x.op = 26) (n34 : ¬ x.op = 34) : Calls Tryz.prog 139 #[.pointer (some ⟨Q, 0, none⟩)] w fun r w' => r = .returned (.bool (tellsD c x lo.length)) ∧ Below w.heap.size w w' := by
  have q2 := cell_of h.blk 2 (x := .int .i64 x.op) rfl
  have HR : Hid (tellsD c x lo.length = true) := by show _ = _; simp [tellsD, n3, n4, n18, n22, n29, n30, n19, n20, n26, n34]
  have b3 : (x.op == 3) = false := beq_eq_false_iff_ne.2 n3
  have b4 : (x.op == 4) = false := beq_eq_false_iff_ne.2 n4
  have b18 : (x.op == 18) = false := beq_eq_false_iff_ne.2 n18
  have b22 : (x.op == 22) = false := beq_eq_false_iff_ne.2 n22
  have b29 : (x.op == 29) = false := beq_eq_false_iff_ne.2 n29
  have b30 : (x.op == 30) = false := beq_eq_false_iff_ne.2 n30
  have b19 : (x.op == 19) = false := beq_eq_false_iff_ne.2 n19
  have b20 : (x.op == 20) = false := beq_eq_false_iff_ne.2 n20
  have b26 : (x.op == 26) = false := beq_eq_false_iff_ne.2 n26
  have b34 : (x.op == 34) = false := beq_eq_false_iff_ne.2 n34
  clear h n3 n4 n18 n22 n29 n30 n19 n20 n26 n34
  go_enter Tryz.func139, Tryz.ntmps139
  go_wp2_with fail
  go_ret
  exact ⟨by rw [HR.out]; rfl, Below.refl _ _⟩
theorem tells_any {c : Lkr} {B F P Q : Nat} {x : Cd.Op4} {v : LkV} (w : World) {vL vS : Value} {lo st : List KindD} (hl : LkW c B P v w) (h : Sp c F P Q x w vL vS lo st) (hfl : c.d.fields.length = c.d.classes.length) (h0 : x.op ≠ 1 → 0 ≤ x.a) : Calls Tryz.prog 139 #[.pointer (some ⟨Q, 0, none⟩)] w fun r w' => r = .returned (.bool (tellsD c x lo.length)) ∧ Below w.heap.size w w' := by
  by_cases n3 : x.op = 3
  · exact tells_3 w hl h n3
  by_cases n4 : x.op = 4
  · exact tells_4 w hl h n4
  by_cases n18 : x.op = 18
  · exact tells_18 w hl h n18
  by_cases n22 : x.op = 22
  · exact tells_22 w hl h n22
  by_cases n29 : x.op = 29
  · exact tells_29 w hl h n29
  by_cases n30 : x.op = 30
  · exact tells_30 w hl h n30
  by_cases n19 : x.op = 19
  · exact tells_19 w hl h n19 hfl (h0 (by omega))
  by_cases n20 : x.op = 20
  · exact tells_20 w hl h n20 hfl (h0 (by omega))
  by_cases n26 : x.op = 26
  · exact tells_26 w hl h n26 (h0 (by omega))
  by_cases n34 : x.op = 34
  · exact tells_34 w hl h n34 (h0 (by omega))
  exact tells_rest w h n3 n4 n18 n22 n29 n30 n19 n20 n26 n34
end Go.Proofs.YtfibgdcpbkaaoaaGreatDoor
