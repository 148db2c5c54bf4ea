/- A step's operations: those that tell of a class. -/
import Derived.Test.YtfibgdcpbkaaoaaGreatDoorJVmKVmC
namespace Go.Proofs.YtfibgdcpbkaaoaaGreatDoor
open Go.RowKit Go.Maps
set_option maxRecDepth 100000 in
set_option maxHeartbeats 2000000 in
theorem thingD_18 {c : Lkr} {B F P Q : Nat} {x : Cd.Op4} {v : LkV} (hw : Wf c) (w : World) {vL vS : Value} {lo st : List KindD} (hl : LkW c B P v w) (hBF : B ≤ F) (h : Sp c F P Q x w vL vS lo st) (hst : st.length ≤ 10) (h0 : 0 ≤ x.a) (h1 : x.a < c.d.classes.length) (hsz : (c.ofC x).cls.size ≤ maxLen) (hgd : GdK (Kn c) (c.ofC x)) (hop : x.op = 18) :
    Calls Tryz.prog 145 #[.pointer (some ⟨Q, 0, none⟩)] w fun r w' => SpOut c F P Q x (thingD c x lo st) r w w' := by
  have HU := mkHid (And.intro hw (And.intro hBF hst))
  clear HU
  have H := mkHid h
  have HL := mkHid hl
  have HD : Hid (thingD c x lo st = some (lo, st ++ [c.ofC x])) := by show _ = _; unfold thingD; rw [hop]; rfl
  have c2 : w.cell? ⟨Q, 2, none⟩ = some (.int .i64 18) := by rw [← hop]; exact cell_of h.blk 2 rfl
  clear h hl hop
  go_enter Tryz.func145, Tryz.ntmps145
  go_wp2_with fail
  refine (ofClass_any _ (HL.out) H.out h0 h1).mono ?_
  rintro r w1 ⟨rfl, hb1⟩
  have H1 := mkHid (H.out.up hb1)
  have HB1 := mkHid (hb1.mono H.out.ff)
  clear hb1
  go_wp2_with fail
  refine (putN_any _ H1.out [c.ofC x] _ rfl (sm1 hsz) (gd1 hgd) (by simp; omega)).mono ?_
  rintro r w2 ⟨rfl, hb2, vS2, hp2⟩
  have H2 := mkHid hp2
  have HB2 := mkHid (HB1.out.trans hb2)
  clear hp2 hb2
  go_wp2_with fail
  go_end0
  exact SpOut.ok HD.out HB2.out H2.out
set_option maxRecDepth 100000 in
set_option maxHeartbeats 2000000 in
theorem thingD_30 {c : Lkr} {B F P Q : Nat} {x : Cd.Op4} {v : LkV} (hw : Wf c) (w : World) {vL vS : Value} {lo st : List KindD} (hl : LkW c B P v w) (hBF : B ≤ F) (h : Sp c F P Q x w vL vS lo st) (hst : st.length ≤ 10) (h0 : 0 ≤ x.a) (h1 : x.a < c.d.classes.length) (hsz : (c.ofC x).cls.size ≤ maxLen) (hgd : GdK (Kn c) (c.ofC x)) (hop : x.op = 30) :
    Calls Tryz.prog 145 #[.pointer (some ⟨Q, 0, none⟩)] w fun r w' => SpOut c F P Q x (thingD c x lo st) r w w' := by
  have HU := mkHid (And.intro hw (And.intro hBF hst))
  clear HU
  have H := mkHid h
  have HL := mkHid hl
  have HD : Hid (thingD c x lo st = tpD c lo st [thK] fun _ => some [c.ofC x]) := by show _ = _; unfold thingD; rw [hop]; rfl
  have c2 : w.cell? ⟨Q, 2, none⟩ = some (.int .i64 30) := by rw [← hop]; exact cell_of h.blk 2 rfl
  clear h hl hop
  go_enter Tryz.func145, Tryz.ntmps145
  obtain ⟨t0_2, t1_2, -, -, -, -, -, -, -, -, -⟩ := (HL.out).gl
  go_wp2_with fail
  refine (takeN_any hw.cls _ (HL.out) hBF H.out (by omega) [thK] _ rfl (sm1 sm_th) (by decide)).mono ?_
  rintro r w1 ⟨hb1, ⟨t1, rest1, v1, vS1, ht1, rfl, hs1, hp1⟩ | ⟨hn1, e1, p1, he1, rfl⟩⟩
  rotate_left
  · exact ⟨rfl, SpOut.fail' (by rw [HD.out]; exact tp_none hn1) hb1 ⟨_, _, he1, rfl⟩⟩
  have HT1 := mkHid ht1
  have HS1 := mkHid hs1
  have H1 := mkHid hp1
  have HB1 := mkHid hb1
  have hst1 : rest1.length ≤ 10 := Nat.le_trans (take_len ht1).2.1 (by omega)
  clear ht1 hs1 hp1 hb1
  go_wp2_with fail
  refine (ofClass_any _ (HL.out.below (HB1.out.mono hBF)) H1.out h0 h1).mono ?_
  rintro r w3 ⟨rfl, hb3⟩
  have H3 := mkHid (H1.out.up hb3)
  have HB3 := mkHid (HB1.out.trans (hb3.mono H1.out.ff))
  clear hb3
  go_wp2_with fail
  refine (putN_any _ H3.out [c.ofC x] _ rfl (sm1 hsz) (gd1 hgd) (by simp; omega)).mono ?_
  rintro r w4 ⟨rfl, hb4, vS4, hp4⟩
  have H4 := mkHid hp4
  have HB4 := mkHid (HB3.out.trans hb4)
  clear hp4 hb4
  go_wp2_with fail
  go_end0
  exact SpOut.ok (HD.out.trans (tp_some (lo := lo) (puts := fun _ => some [c.ofC x]) HT1.out rfl)) HB4.out H4.out
end Go.Proofs.YtfibgdcpbkaaoaaGreatDoor
