/- A step's operations: more of those that only take and put. -/
import Derived.Test.YtfibgdcpbkaaoaaGreatDoorJVmKVmC
namespace Go.Proofs.YtfibgdcpbkaaoaaGreatDoor
open Go.RowKit Go.Maps
set_option maxRecDepth 100000 in
set_option maxHeartbeats 2000000 in
theorem thingD_29 {c : Lkr} {B F P Q : Nat} {x : Cd.Op4} {v : LkV} (hw : Wf c) (w : World) {vL vS : Value} {lo st : List KindD} (hl : LkW c B P v w) (hBF : B ≤ F) (h : Sp c F P Q x w vL vS lo st) (hst : st.length ≤ 10) (hop : x.op = 29) :
    Calls Tryz.prog 145 #[.pointer (some ⟨Q, 0, none⟩)] w fun r w' => SpOut c F P Q x (thingD c x lo st) r w w' := by
  have HU := mkHid (And.intro hw (And.intro hBF hst))
  clear HU
  have H := mkHid h
  have HL := mkHid hl
  have HD : Hid (thingD c x lo st = tpD c lo st [thK] fun _ => some [numK]) := by show _ = _; unfold thingD; rw [hop]; rfl
  have c2 : w.cell? ⟨Q, 2, none⟩ = some (.int .i64 29) := by rw [← hop]; exact cell_of h.blk 2 rfl
  clear h hl hop
  go_enter Tryz.func145, Tryz.ntmps145
  obtain ⟨t0_2, t1_2, -, -, -, -, -, -, -, -, -⟩ := (HL.out).gl
  go_wp2_with fail
  refine (takeN_any hw.cls _ (HL.out) hBF H.out (by omega) [thK] _ rfl (sm1 sm_th) (by decide)).mono ?_
  rintro r w1 ⟨hb1, ⟨t1, rest1, v1, vS1, ht1, rfl, hs1, hp1⟩ | ⟨hn1, e1, p1, he1, rfl⟩⟩
  rotate_left
  · exact ⟨rfl, SpOut.fail' (by rw [HD.out]; exact tp_none hn1) hb1 ⟨_, _, he1, rfl⟩⟩
  have HT1 := mkHid ht1
  have HS1 := mkHid hs1
  have H1 := mkHid hp1
  have HB1 := mkHid hb1
  have hst1 : rest1.length ≤ 10 := Nat.le_trans (take_len ht1).2.1 (by omega)
  clear ht1 hs1 hp1 hb1
  obtain ⟨-, -, -, -, -, -, n0_4, n1_4, -, -, -⟩ := (HL.out.below (HB1.out.mono hBF)).gl
  go_wp2_with fail
  refine (putN_any _ H1.out [numK] _ rfl (sm1 sm_num) (gd1 (numK_gd c)) (by simp; omega)).mono ?_
  rintro r w3 ⟨rfl, hb3, vS3, hp3⟩
  have H3 := mkHid hp3
  have HB3 := mkHid (HB1.out.trans hb3)
  clear hp3 hb3
  go_wp2_with fail
  go_end0
  exact SpOut.ok (HD.out.trans (tp_some (lo := lo) (puts := fun _ => some [numK]) HT1.out rfl)) HB3.out H3.out
set_option maxRecDepth 100000 in
set_option maxHeartbeats 2000000 in
theorem thingD_33 {c : Lkr} {B F P Q : Nat} {x : Cd.Op4} {v : LkV} (hw : Wf c) (w : World) {vL vS : Value} {lo st : List KindD} (hl : LkW c B P v w) (hBF : B ≤ F) (h : Sp c F P Q x w vL vS lo st) (hst : st.length ≤ 10) (hop : x.op = 33) :
    Calls Tryz.prog 145 #[.pointer (some ⟨Q, 0, none⟩)] w fun r w' => SpOut c F P Q x (thingD c x lo st) r w w' := by
  have HU := mkHid (And.intro hw (And.intro hBF hst))
  clear HU
  have H := mkHid h
  have HL := mkHid hl
  have HD : Hid (thingD c x lo st = tpD c lo st [thK] fun _ => some [numK]) := by show _ = _; unfold thingD; rw [hop]; rfl
  have c2 : w.cell? ⟨Q, 2, none⟩ = some (.int .i64 33) := by rw [← hop]; exact cell_of h.blk 2 rfl
  clear h hl hop
  go_enter Tryz.func145, Tryz.ntmps145
  obtain ⟨t0_2, t1_2, -, -, -, -, -, -, -, -, -⟩ := (HL.out).gl
  go_wp2_with fail
  refine (takeN_any hw.cls _ (HL.out) hBF H.out (by omega) [thK] _ rfl (sm1 sm_th) (by decide)).mono ?_
  rintro r w1 ⟨hb1, ⟨t1, rest1, v1, vS1, ht1, rfl, hs1, hp1⟩ | ⟨hn1, e1, p1, he1, rfl⟩⟩
  rotate_left
  · exact ⟨rfl, SpOut.fail' (by rw [HD.out]; exact tp_none hn1) hb1 ⟨_, _, he1, rfl⟩⟩
  have HT1 := mkHid ht1
  have HS1 := mkHid hs1
  have H1 := mkHid hp1
  have HB1 := mkHid hb1
  have hst1 : rest1.length ≤ 10 := Nat.le_trans (take_len ht1).2.1 (by omega)
  clear ht1 hs1 hp1 hb1
  obtain ⟨-, -, -, -, -, -, n0_4, n1_4, -, -, -⟩ := (HL.out.below (HB1.out.mono hBF)).gl
  go_wp2_with fail
  refine (putN_any _ H1.out [numK] _ rfl (sm1 sm_num) (gd1 (numK_gd c)) (by simp; omega)).mono ?_
  rintro r w3 ⟨rfl, hb3, vS3, hp3⟩
  have H3 := mkHid hp3
  have HB3 := mkHid (HB1.out.trans hb3)
  clear hp3 hb3
  go_wp2_with fail
  go_end0
  exact SpOut.ok (HD.out.trans (tp_some (lo := lo) (puts := fun _ => some [numK]) HT1.out rfl)) HB3.out H3.out
set_option maxRecDepth 100000 in
set_option maxHeartbeats 2000000 in
theorem thingD_35 {c : Lkr} {B F P Q : Nat} {x : Cd.Op4} {v : LkV} (hw : Wf c) (w : World) {vL vS : Value} {lo st : List KindD} (hl : LkW c B P v w) (hBF : B ≤ F) (h : Sp c F P Q x w vL vS lo st) (hst : st.length ≤ 10) (hop : x.op = 35) :
    Calls Tryz.prog 145 #[.pointer (some ⟨Q, 0, none⟩)] w fun r w' => SpOut c F P Q x (thingD c x lo st) r w w' := by
  have HU := mkHid (And.intro hw (And.intro hBF hst))
  clear HU
  have H := mkHid h
  have HL := mkHid hl
  have HD : Hid (thingD c x lo st = tpD c lo st [thK] fun _ => some []) := by show _ = _; unfold thingD; rw [hop]; rfl
  have c2 : w.cell? ⟨Q, 2, none⟩ = some (.int .i64 35) := by rw [← hop]; exact cell_of h.blk 2 rfl
  clear h hl hop
  go_enter Tryz.func145, Tryz.ntmps145
  obtain ⟨t0_2, t1_2, -, -, -, -, -, -, -, -, -⟩ := (HL.out).gl
  go_wp2_with fail
  refine (takeN_any hw.cls _ (HL.out) hBF H.out (by omega) [thK] _ rfl (sm1 sm_th) (by decide)).mono ?_
  rintro r w1 ⟨hb1, ⟨t1, rest1, v1, vS1, ht1, rfl, hs1, hp1⟩ | ⟨hn1, e1, p1, he1, rfl⟩⟩
  rotate_left
  · exact ⟨rfl, SpOut.fail' (by rw [HD.out]; exact tp_none hn1) hb1 ⟨_, _, he1, rfl⟩⟩
  have HT1 := mkHid ht1
  have HS1 := mkHid hs1
  have H1 := mkHid hp1
  have HB1 := mkHid hb1
  have hst1 : rest1.length ≤ 10 := Nat.le_trans (take_len ht1).2.1 (by omega)
  clear ht1 hs1 hp1 hb1
  go_wp2_with fail
  go_end0
  exact SpOut.ok (HD.out.trans (by have := tp_some (lo := lo) (puts := fun _ => some []) HT1.out rfl; rwa [List.append_nil] at this)) HB1.out H1.out
set_option maxRecDepth 100000 in
set_option maxHeartbeats 2000000 in
theorem thingD_36 {c : Lkr} {B F P Q : Nat} {x : Cd.Op4} {v : LkV} (hw : Wf c) (w : World) {vL vS : Value} {lo st : List KindD} (hl : LkW c B P v w) (hBF : B ≤ F) (h : Sp c F P Q x w vL vS lo st) (hst : st.length ≤ 10) (hop : x.op = 36) :
    Calls Tryz.prog 145 #[.pointer (some ⟨Q, 0, none⟩)] w fun r w' => SpOut c F P Q x (thingD c x lo st) r w w' := by
  have HU := mkHid (And.intro hw (And.intro hBF hst))
  clear HU
  have H := mkHid h
  have HL := mkHid hl
  have HD : Hid (thingD c x lo st = tpD c lo st [thK] fun _ => some []) := by show _ = _; unfold thingD; rw [hop]; rfl
  have c2 : w.cell? ⟨Q, 2, none⟩ = some (.int .i64 36) := by rw [← hop]; exact cell_of h.blk 2 rfl
  clear h hl hop
  go_enter Tryz.func145, Tryz.ntmps145
  obtain ⟨t0_2, t1_2, -, -, -, -, -, -, -, -, -⟩ := (HL.out).gl
  go_wp2_with fail
  refine (takeN_any hw.cls _ (HL.out) hBF H.out (by omega) [thK] _ rfl (sm1 sm_th) (by decide)).mono ?_
  rintro r w1 ⟨hb1, ⟨t1, rest1, v1, vS1, ht1, rfl, hs1, hp1⟩ | ⟨hn1, e1, p1, he1, rfl⟩⟩
  rotate_left
  · exact ⟨rfl, SpOut.fail' (by rw [HD.out]; exact tp_none hn1) hb1 ⟨_, _, he1, rfl⟩⟩
  have HT1 := mkHid ht1
  have HS1 := mkHid hs1
  have H1 := mkHid hp1
  have HB1 := mkHid hb1
  have hst1 : rest1.length ≤ 10 := Nat.le_trans (take_len ht1).2.1 (by omega)
  clear ht1 hs1 hp1 hb1
  go_wp2_with fail
  go_end0
  exact SpOut.ok (HD.out.trans (by have := tp_some (lo := lo) (puts := fun _ => some []) HT1.out rfl; rwa [List.append_nil] at this)) HB1.out H1.out
set_option maxRecDepth 100000 in
set_option maxHeartbeats 2000000 in
theorem rowD_21 {c : Lkr} {B F P Q : Nat} {x : Cd.Op4} {v : LkV} (hw : Wf c) (w : World) {vL vS : Value} {lo st : List KindD} (hl : LkW c B P v w) (hBF : B ≤ F) (h : Sp c F P Q x w vL vS lo st) (hst : st.length ≤ 10) (hop : x.op = 21) :
    Calls Tryz.prog 144 #[.pointer (some ⟨Q, 0, none⟩)] w fun r w' => SpOut c F P Q x (rowD c x lo st) r w w' := by
  have HU := mkHid (And.intro hw (And.intro hBF hst))
  clear HU
  have H := mkHid h
  have HL := mkHid hl
  have HD : Hid (rowD c x lo st = tpD c lo st [numK] fun _ => some [rowK]) := by show _ = _; unfold rowD; rw [hop]; rfl
  have c2 : w.cell? ⟨Q, 2, none⟩ = some (.int .i64 21) := by rw [← hop]; exact cell_of h.blk 2 rfl
  clear h hl hop
  go_enter Tryz.func144, Tryz.ntmps144
  obtain ⟨-, -, -, -, -, -, n0_2, n1_2, -, -, -⟩ := (HL.out).gl
  go_wp2_with fail
  refine (takeN_any hw.cls _ (HL.out) hBF H.out (by omega) [numK] _ rfl (sm1 sm_num) (by decide)).mono ?_
  rintro r w1 ⟨hb1, ⟨t1, rest1, v1, vS1, ht1, rfl, hs1, hp1⟩ | ⟨hn1, e1, p1, he1, rfl⟩⟩
  rotate_left
  · exact ⟨rfl, SpOut.fail' (by rw [HD.out]; exact tp_none hn1) hb1 ⟨_, _, he1, rfl⟩⟩
  have HT1 := mkHid ht1
  have HS1 := mkHid hs1
  have H1 := mkHid hp1
  have HB1 := mkHid hb1
  have hst1 : rest1.length ≤ 10 := Nat.le_trans (take_len ht1).2.1 (by omega)
  clear ht1 hs1 hp1 hb1
  obtain ⟨-, -, -, -, -, -, -, -, r0_4, r1_4, -⟩ := (HL.out.below (HB1.out.mono hBF)).gl
  go_wp2_with fail
  refine (putN_any _ H1.out [rowK] _ rfl (sm1 sm_row) (gd1 (rowK_gd c)) (by simp; omega)).mono ?_
  rintro r w3 ⟨rfl, hb3, vS3, hp3⟩
  have H3 := mkHid hp3
  have HB3 := mkHid (HB1.out.trans hb3)
  clear hp3 hb3
  go_wp2_with fail
  go_end0
  exact SpOut.ok (HD.out.trans (tp_some (lo := lo) (puts := fun _ => some [rowK]) HT1.out rfl)) HB3.out H3.out
end Go.Proofs.YtfibgdcpbkaaoaaGreatDoor
