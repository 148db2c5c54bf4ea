/- A step's operations: those that only put, or only take. -/
import Derived.Test.YtfibgdcpbkaaoaaGreatDoorJVmKVmC
namespace Go.Proofs.YtfibgdcpbkaaoaaGreatDoor
open Go.RowKit Go.Maps
set_option maxRecDepth 100000 in
set_option maxHeartbeats 2000000 in
theorem stackD_0 {c : Lkr} {B F P Q : Nat} {x : Cd.Op4} {v : LkV} (hw : Wf c) (w : World) {vL vS : Value} {lo st : List KindD} (hl : LkW c B P v w) (hBF : B ≤ F) (h : Sp c F P Q x w vL vS lo st) (hst : st.length ≤ 10) (hop : x.op = 0) :
    Calls Tryz.prog 147 #[.pointer (some ⟨Q, 0, none⟩)] w fun r w' => SpOut c F P Q x (stackD c x lo st) r w w' := by
  have HU := mkHid (And.intro hw (And.intro hBF hst))
  clear HU
  have H := mkHid h
  have HL := mkHid hl
  have HD : Hid (stackD c x lo st = some (lo, st)) := by show _ = _; unfold stackD; rw [hop]; rfl
  have c2 : w.cell? ⟨Q, 2, none⟩ = some (.int .i64 0) := by rw [← hop]; exact cell_of h.blk 2 rfl
  clear h hl hop
  go_enter Tryz.func147, Tryz.ntmps147
  go_wp2_with fail
  go_end0
  exact SpOut.ok HD.out (Below.refl _ _) H.out
set_option maxRecDepth 100000 in
set_option maxHeartbeats 2000000 in
theorem stackD_13 {c : Lkr} {B F P Q : Nat} {x : Cd.Op4} {v : LkV} (hw : Wf c) (w : World) {vL vS : Value} {lo st : List KindD} (hl : LkW c B P v w) (hBF : B ≤ F) (h : Sp c F P Q x w vL vS lo st) (hst : st.length ≤ 10) (hop : x.op = 13) :
    Calls Tryz.prog 147 #[.pointer (some ⟨Q, 0, none⟩)] w fun r w' => SpOut c F P Q x (stackD c x lo st) r w w' := by
  have HU := mkHid (And.intro hw (And.intro hBF hst))
  clear HU
  have H := mkHid h
  have HL := mkHid hl
  have HD : Hid (stackD c x lo st = some (lo, st)) := by show _ = _; unfold stackD; rw [hop]; rfl
  have c2 : w.cell? ⟨Q, 2, none⟩ = some (.int .i64 13) := by rw [← hop]; exact cell_of h.blk 2 rfl
  clear h hl hop
  go_enter Tryz.func147, Tryz.ntmps147
  go_wp2_with fail
  go_end0
  exact SpOut.ok HD.out (Below.refl _ _) H.out
set_option maxRecDepth 100000 in
set_option maxHeartbeats 2000000 in
theorem stackD_1 {c : Lkr} {B F P Q : Nat} {x : Cd.Op4} {v : LkV} (hw : Wf c) (w : World) {vL vS : Value} {lo st : List KindD} (hl : LkW c B P v w) (hBF : B ≤ F) (h : Sp c F P Q x w vL vS lo st) (hst : st.length ≤ 10) (hop : x.op = 1) :
    Calls Tryz.prog 147 #[.pointer (some ⟨Q, 0, none⟩)] w fun r w' => SpOut c F P Q x (stackD c x lo st) r w w' := by
  have HU := mkHid (And.intro hw (And.intro hBF hst))
  clear HU
  have H := mkHid h
  have HL := mkHid hl
  have HD : Hid (stackD c x lo st = some (lo, st ++ [numK])) := by show _ = _; unfold stackD; rw [hop]; rfl
  have c2 : w.cell? ⟨Q, 2, none⟩ = some (.int .i64 1) := by rw [← hop]; exact cell_of h.blk 2 rfl
  clear h hl hop
  go_enter Tryz.func147, Tryz.ntmps147
  obtain ⟨-, -, -, -, -, -, n0_2, n1_2, -, -, -⟩ := (HL.out).gl
  go_wp2_with fail
  refine (putN_any _ H.out [numK] _ rfl (sm1 sm_num) (gd1 (numK_gd c)) (by simp; omega)).mono ?_
  rintro r w1 ⟨rfl, hb1, vS1, hp1⟩
  have H1 := mkHid hp1
  have HB1 := mkHid hb1
  clear hp1 hb1
  go_wp2_with fail
  go_end0
  exact SpOut.ok HD.out HB1.out H1.out
set_option maxRecDepth 100000 in
set_option maxHeartbeats 2000000 in
theorem stackD_2 {c : Lkr} {B F P Q : Nat} {x : Cd.Op4} {v : LkV} (hw : Wf c) (w : World) {vL vS : Value} {lo st : List KindD} (hl : LkW c B P v w) (hBF : B ≤ F) (h : Sp c F P Q x w vL vS lo st) (hst : st.length ≤ 10) (hop : x.op = 2) :
    Calls Tryz.prog 147 #[.pointer (some ⟨Q, 0, none⟩)] w fun r w' => SpOut c F P Q x (stackD c x lo st) r w w' := by
  have HU := mkHid (And.intro hw (And.intro hBF hst))
  clear HU
  have H := mkHid h
  have HL := mkHid hl
  have HD : Hid (stackD c x lo st = some (lo, st ++ [nulK])) := by show _ = _; unfold stackD; rw [hop]; rfl
  have c2 : w.cell? ⟨Q, 2, none⟩ = some (.int .i64 2) := by rw [← hop]; exact cell_of h.blk 2 rfl
  clear h hl hop
  go_enter Tryz.func147, Tryz.ntmps147
  obtain ⟨-, -, -, -, u0_2, u1_2, -, -, -, -, -⟩ := (HL.out).gl
  go_wp2_with fail
  refine (putN_any _ H.out [nulK] _ rfl (sm1 sm_nul) (gd1 (nulK_gd c)) (by simp; omega)).mono ?_
  rintro r w1 ⟨rfl, hb1, vS1, hp1⟩
  have H1 := mkHid hp1
  have HB1 := mkHid hb1
  clear hp1 hb1
  go_wp2_with fail
  go_end0
  exact SpOut.ok HD.out HB1.out H1.out
set_option maxRecDepth 100000 in
set_option maxHeartbeats 2000000 in
theorem stackD_5 {c : Lkr} {B F P Q : Nat} {x : Cd.Op4} {v : LkV} (hw : Wf c) (w : World) {vL vS : Value} {lo st : List KindD} (hl : LkW c B P v w) (hBF : B ≤ F) (h : Sp c F P Q x w vL vS lo st) (hst : st.length ≤ 10) (hop : x.op = 5) :
    Calls Tryz.prog 147 #[.pointer (some ⟨Q, 0, none⟩)] w fun r w' => SpOut c F P Q x (stackD c x lo st) r w w' := by
  have HU := mkHid (And.intro hw (And.intro hBF hst))
  clear HU
  have H := mkHid h
  have HL := mkHid hl
  have HD : Hid (stackD c x lo st = tpD c lo st [anyK] fun _ => some []) := by show _ = _; unfold stackD; rw [hop]; rfl
  have c2 : w.cell? ⟨Q, 2, none⟩ = some (.int .i64 5) := by rw [← hop]; exact cell_of h.blk 2 rfl
  clear h hl hop
  go_enter Tryz.func147, Tryz.ntmps147
  obtain ⟨-, -, a0_2, a1_2, -, -, -, -, -, -, -⟩ := (HL.out).gl
  go_wp2_with fail
  refine (takeN_any hw.cls _ (HL.out) hBF H.out (by omega) [anyK] _ rfl (sm1 sm_any) (by decide)).mono ?_
  rintro r w1 ⟨hb1, ⟨t1, rest1, v1, vS1, ht1, rfl, hs1, hp1⟩ | ⟨hn1, e1, p1, he1, rfl⟩⟩
  rotate_left
  · exact ⟨rfl, SpOut.fail' (by rw [HD.out]; exact tp_none hn1) hb1 ⟨_, _, he1, rfl⟩⟩
  have HT1 := mkHid ht1
  have HS1 := mkHid hs1
  have H1 := mkHid hp1
  have HB1 := mkHid hb1
  have hst1 : rest1.length ≤ 10 := Nat.le_trans (take_len ht1).2.1 (by omega)
  clear ht1 hs1 hp1 hb1
  go_wp2_with fail
  go_end0
  exact SpOut.ok (HD.out.trans (by have := tp_some (lo := lo) (puts := fun _ => some []) HT1.out rfl; rwa [List.append_nil] at this)) HB1.out H1.out
set_option maxRecDepth 100000 in
set_option maxHeartbeats 2000000 in
theorem callD_31 {c : Lkr} {B F P Q : Nat} {x : Cd.Op4} {v : LkV} (hw : Wf c) (w : World) {vL vS : Value} {lo st : List KindD} (hl : LkW c B P v w) (hBF : B ≤ F) (h : Sp c F P Q x w vL vS lo st) (hst : st.length ≤ 10) (hop : x.op = 31) :
    Calls Tryz.prog 146 #[.pointer (some ⟨Q, 0, none⟩)] w fun r w' => SpOut c F P Q x (callD c x lo st) r w w' := by
  have HU := mkHid (And.intro hw (And.intro hBF hst))
  clear HU
  have H := mkHid h
  have HL := mkHid hl
  have HD : Hid (callD c x lo st = tpD c lo st [numK] fun _ => some []) := by show _ = _; unfold callD; rw [hop]; rfl
  have c2 : w.cell? ⟨Q, 2, none⟩ = some (.int .i64 31) := by rw [← hop]; exact cell_of h.blk 2 rfl
  clear h hl hop
  go_enter Tryz.func146, Tryz.ntmps146
  obtain ⟨-, -, -, -, -, -, n0_2, n1_2, -, -, -⟩ := (HL.out).gl
  go_wp2_with fail
  refine (takeN_any hw.cls _ (HL.out) hBF H.out (by omega) [numK] _ rfl (sm1 sm_num) (by decide)).mono ?_
  rintro r w1 ⟨hb1, ⟨t1, rest1, v1, vS1, ht1, rfl, hs1, hp1⟩ | ⟨hn1, e1, p1, he1, rfl⟩⟩
  rotate_left
  · exact ⟨rfl, SpOut.fail' (by rw [HD.out]; exact tp_none hn1) hb1 ⟨_, _, he1, rfl⟩⟩
  have HT1 := mkHid ht1
  have HS1 := mkHid hs1
  have H1 := mkHid hp1
  have HB1 := mkHid hb1
  have hst1 : rest1.length ≤ 10 := Nat.le_trans (take_len ht1).2.1 (by omega)
  clear ht1 hs1 hp1 hb1
  go_wp2_with fail
  go_end0
  exact SpOut.ok (HD.out.trans (by have := tp_some (lo := lo) (puts := fun _ => some []) HT1.out rfl; rwa [List.append_nil] at this)) HB1.out H1.out
set_option maxRecDepth 100000 in
set_option maxHeartbeats 2000000 in
theorem callD_32 {c : Lkr} {B F P Q : Nat} {x : Cd.Op4} {v : LkV} (hw : Wf c) (w : World) {vL vS : Value} {lo st : List KindD} (hl : LkW c B P v w) (hBF : B ≤ F) (h : Sp c F P Q x w vL vS lo st) (hst : st.length ≤ 10) (hop : x.op = 32) :
    Calls Tryz.prog 146 #[.pointer (some ⟨Q, 0, none⟩)] w fun r w' => SpOut c F P Q x (callD c x lo st) r w w' := by
  have HU := mkHid (And.intro hw (And.intro hBF hst))
  clear HU
  have H := mkHid h
  have HL := mkHid hl
  have HD : Hid (callD c x lo st = some (lo, st ++ [numK])) := by show _ = _; unfold callD; rw [hop]; rfl
  have c2 : w.cell? ⟨Q, 2, none⟩ = some (.int .i64 32) := by rw [← hop]; exact cell_of h.blk 2 rfl
  clear h hl hop
  go_enter Tryz.func146, Tryz.ntmps146
  obtain ⟨-, -, -, -, -, -, n0_2, n1_2, -, -, -⟩ := (HL.out).gl
  go_wp2_with fail
  refine (putN_any _ H.out [numK] _ rfl (sm1 sm_num) (gd1 (numK_gd c)) (by simp; omega)).mono ?_
  rintro r w1 ⟨rfl, hb1, vS1, hp1⟩
  have H1 := mkHid hp1
  have HB1 := mkHid hb1
  clear hp1 hb1
  go_wp2_with fail
  go_end0
  exact SpOut.ok HD.out HB1.out H1.out
set_option maxRecDepth 100000 in
set_option maxHeartbeats 2000000 in
theorem callD_27 {c : Lkr} {B F P Q : Nat} {x : Cd.Op4} {v : LkV} (hw : Wf c) (w : World) {vL vS : Value} {lo st : List KindD} (hl : LkW c B P v w) (hBF : B ≤ F) (h : Sp c F P Q x w vL vS lo st) (hst : st.length ≤ 10) (hop : x.op = 27) (hrs : c.m.ret.cls.size ≤ maxLen) :
    Calls Tryz.prog 146 #[.pointer (some ⟨Q, 0, none⟩)] w fun r w' => SpOut c F P Q x (callD c x lo st) r w w' := by
  have HU := mkHid (And.intro hw (And.intro hBF hst))
  clear HU
  have H := mkHid h
  have HL := mkHid hl
  have HD : Hid (callD c x lo st = tpD c lo st (someD c.m.ret) fun _ => some []) := by show _ = _; unfold callD; rw [hop]; rfl
  have c2 : w.cell? ⟨Q, 2, none⟩ = some (.int .i64 27) := by rw [← hop]; exact cell_of h.blk 2 rfl
  clear h hl hop
  go_enter Tryz.func146, Tryz.ntmps146
  have HLW := HL.out
  have p9 := cell_of HLW.blk 9 (x := .int .i64 c.m.ret.kind) rfl
  have p10 := cell_of HLW.blk 10 (x := .string c.m.ret.cls) rfl
  have q0 := cell_of H.out.blk 0 (x := .pointer (some ⟨P, 0, none⟩)) rfl
  clear HLW
  go_wp2_with fail
  refine (something_any _ _ hrs).mono ?_
  rintro r w9 ⟨hb9, v9, rfl, hs9⟩
  have HB9 : Hid (Below F w w9) := hb9.mono H.out.ff
  have H9 := mkHid (H.out.up hb9)
  have HS9 := mkHid hs9
  clear hb9 hs9
  go_wp2_with fail
  refine (take_any hw.cls _ (HL.out.below (HB9.out.mono hBF)) hBF H9.out (by omega) _ _ _ HS9.out).mono ?_
  rintro r w1 ⟨hb1, ⟨t1, rest1, v1, vS1, ht1, rfl, hs1, hp1⟩ | ⟨hn1, e1, p1, he1, rfl⟩⟩
  rotate_left
  · exact ⟨rfl, SpOut.fail' (by rw [HD.out]; exact tp_none hn1) (HB9.out.trans hb1) ⟨_, _, he1, rfl⟩⟩
  have HT1 := mkHid ht1
  have HS1 := mkHid hs1
  have H1 := mkHid hp1
  have HB1 := mkHid (HB9.out.trans hb1)
  have hst1 : rest1.length ≤ 10 := Nat.le_trans (take_len ht1).2.1 (by omega)
  clear ht1 hs1 hp1 hb1
  go_wp2_with fail
  go_end0
  exact SpOut.ok (HD.out.trans (by have := tp_some (lo := lo) (puts := fun _ => some []) HT1.out rfl; rwa [List.append_nil] at this)) HB1.out H1.out
end Go.Proofs.YtfibgdcpbkaaoaaGreatDoor
