/- A step's operations on rows. -/
import Derived.Test.YtfibgdcpbkaaoaaGreatDoorTka
import Derived.Test.YtfibgdcpbkaaoaaGreatDoorJVmKVmC
import Derived.Test.YtfibgdcpbkaaoaaGreatDoorJVmUVmV
import Derived.Test.YtfibgdcpbkaaoaaGreatDoorJVoGVoI
namespace Go.Proofs.YtfibgdcpbkaaoaaGreatDoor
open Go.RowKit Go.Maps
theorem SL.blk {α : Type} {n : Nat} {R : (Nat → Prop) → World → List Value → α → Prop} {M : Nat → Prop} {w : World} {b off len cap : Nat} {l : List α} (h : SL n R M w (.slice (some ⟨b, off, none⟩) len cap) l) (k : Nat) (hk : k < l.length) : M b := by
  obtain ⟨_, _, e, -, -, h3⟩ := h
  cases e
  obtain ⟨_, _, _, e, hM, -⟩ := h3 k hk
  cases e
  exact hM
def PlOut (a : KindD) (r : Ending) (w w' : World) : Prop := Below w.heap.size w w' ∧ ((∃ p, placeOfD a = some p ∧ r = .returned (kv p)) ∨ (placeOfD a = none ∧ ∃ e p, e ≠ 0 ∧ r = .panicked [wrongV e p]))
set_option maxRecDepth 100000 in
set_option maxHeartbeats 4000000 in
theorem pl_any {c : Lkr} {F P Q : Nat} {x : Cd.Op4} (w : World) {vL vS : Value} {lo st : List KindD} (hg : GlK w) (h : Sp c F P Q x w vL vS lo st) (a : KindD) :
    Calls Tryz.prog 177 #[.pointer (some ⟨Q, 0, none⟩), kv a] w fun r w' => PlOut a r w w' := by
  have HB := mkHid (fun o => ((Below.refl w.heap.size w).alloc (Nat.le_refl _) (.cells #[.int .i64 a.kind, .string a.cls] 40)).alloc (by simp) o)
  have HS := mkHid (h.up (HB.out (.cells #[.int .i64 0, .string ⟨#[]⟩] 40)))
  obtain ⟨-, -, -, -, u0, u1, n0, n1, r0, r1, -⟩ := hg.below (HB.out (.cells #[.int .i64 0, .string ⟨#[]⟩] 40))
  have e1 : ∀ W, (binOp BinOp.eql 40 (kv a) (.agg #[.int .i64 5, .string noNm])).run Tryz.prog W = .ok (.bool (sameK a nulK)) W := kindEq a nulK
  have e2 : ∀ W, (binOp BinOp.eql 40 (kv a) (.agg #[.int .i64 2, .string noNm])).run Tryz.prog W = .ok (.bool (sameK a rowK)) W := kindEq a rowK
  have HR : Hid (placeOfD a = if sameK a nulK then some nulK else if sameK a rowK then some numK else if a.kind = 4 then some ⟨3, a.cls⟩ else none) := rfl
  clear h hg
  cases h1 : sameK a nulK with
  | true =>
    rw [h1] at HR e1
    go_enter Tryz.func177, Tryz.ntmps177
    go_wp2_with fail
    exact bodyPost_ret (v := kv nulK) (by simp [results, Tryz.results177, go_sem]; exact ⟨rfl, rfl⟩) rfl ⟨HB.out _, Or.inl ⟨nulK, by rw [HR.out]; rfl, rfl⟩⟩
  | false =>
    rw [h1] at HR e1
    cases h2 : sameK a rowK with
    | true =>
      rw [h2] at HR e2
      go_enter Tryz.func177, Tryz.ntmps177
      go_wp2_with fail
      exact bodyPost_ret (v := kv numK) (by simp [results, Tryz.results177, go_sem]; exact ⟨rfl, rfl⟩) rfl ⟨HB.out _, Or.inl ⟨numK, by rw [HR.out]; rfl, rfl⟩⟩
    | false =>
      rw [h2] at HR e2
      go_enter Tryz.func177, Tryz.ntmps177
      go_wp2_with fail
      refine (sdemand_any _ HS.out _ _).mono ?_
      rintro r w2 ⟨hw2, ⟨hb, rfl⟩ | ⟨hb, rfl⟩⟩
      · exact ⟨rfl, by rw [hw2]; exact ⟨HB.out _, Or.inr ⟨by rw [HR.out]; simp at hb; simp [hb], _, _, by decide, rfl⟩⟩⟩
      have HK4 : Hid (a.kind = 4) := (by simpa using hb : a.kind = 4)
      rw [hw2]
      clear hb hw2 w2
      go_wp2_with fail
      refine (object_any _ _).mono ?_
      rintro r w3 ⟨rfl, hb3⟩
      have hk1 : w3.heap[w.heap.size + 1]? = some (.cells #[.int .i64 0, .string ⟨#[]⟩] 40 (0, 0)) := (hb3.block _ (by simp)).trans (by simpa using heap_alloc_new (w.alloc (.cells #[.int .i64 a.kind, .string a.cls] 40)) (.cells #[.int .i64 0, .string ⟨#[]⟩] 40))
      have HB3 : Hid (Below w.heap.size w w3) := (HB.out _).trans (hb3.mono (HB.out _).size)
      have z0 := cell_of hk1 0 (x := .int .i64 0) rfl
      have z1 := cell_of hk1 1 (x := .string ⟨#[]⟩) rfl
      have zf := frz_of hk1
      clear hb3 hk1
      go_wp2_with fail
      exact bodyPost_ret (v := kv ⟨3, a.cls⟩) (by simp [results, Tryz.results177, go_sem, z0, z1]) rfl ⟨(HB3.out.setCell (Nat.le_succ _) _).setCell (Nat.le_succ _) _, Or.inl ⟨⟨3, a.cls⟩, by rw [HR.out, HK4.out]; rfl, rfl⟩⟩
set_option maxRecDepth 100000 in
set_option maxHeartbeats 4000000 in
theorem ms_any {c : Lkr} {B F P Q : Nat} {x : Cd.Op4} {v : LkV} (hc : Cls c.d c.L) (w : World) {vL vS : Value} {lo st : List KindD} (hl : LkW c B P v w) (h : Sp c F P Q x w vL vS lo st) (p a : KindD) (hga : GdK (Kn c) a) (hsa : a.cls.size ≤ maxLen) :
    Calls Tryz.prog 178 #[.pointer (some ⟨Q, 0, none⟩), kv p, kv a] w fun r w' => r = .returned (.bool (maySetD c p a)) ∧ Below w.heap.size w w' := by
  obtain ⟨W0, hW0, hB0, hs0, k0, k1⟩ := boxes2 w #[.int .i64 p.kind, .string p.cls] #[.int .i64 a.kind, .string a.cls] 40 40
  have HB0 := mkHid hB0
  have hl0 := hl.below (hB0.mono hl.bw)
  have h0 := h.up hB0
  have HF : Hid (∀ V, Below W0.heap.size W0 V → Calls Tryz.prog 173 #[kdV v.kC v.kS v.kF v.kN v.kT v.Bm, kv a, kv p] V fun r w' => r = .returned (.bool (fitB topName c.L a p)) ∧ Below V.heap.size V w') := fun V hV => by
    have hlV := hl0.below (hV.mono hl0.bw)
    exact kFits_any V B _ _ _ _ _ _ c.d hlV.kd hlV.bw hlV.gl hc a p hga hsa
  have q0 := cell_of h0.blk 0 (x := .pointer (some ⟨P, 0, none⟩)) rfl
  have p0 := cell_of hl0.blk 0 (x := v.kC) rfl
  have p1 := cell_of hl0.blk 1 (x := v.kS) rfl
  have p2 := cell_of hl0.blk 2 (x := v.kF) rfl
  have p3 := cell_of hl0.blk 3 (x := v.kN) rfl
  have p4 := cell_of hl0.blk 4 (x := v.kT) rfl
  have p5 := cell_of hl0.blk 5 (x := .map (some v.Bm)) rfl
  have x0 := cell_of k0 0 (x := .int .i64 p.kind) rfl
  have x1 := cell_of k0 1 (x := .string p.cls) rfl
  have y0 := cell_of k1 0 (x := .int .i64 a.kind) rfl
  have y1 := cell_of k1 1 (x := .string a.cls) rfl
  have lQ : Q < W0.heap.size := lt_of h0.blk
  have lP : P < W0.heap.size := lt_of hl0.blk
  have l0 : w.heap.size < W0.heap.size := lt_of k0
  have l1 : w.heap.size + 1 < W0.heap.size := lt_of k1
  obtain ⟨-, -, a0, a1, u0, u1, -, -, -, -, -⟩ := hl0.gl
  rw [hW0] at a0 a1 u0 u1
  have e1 : ∀ W, (binOp BinOp.eql 40 (kv p) (.agg #[.int .i64 5, .string noNm])).run Tryz.prog W = .ok (.bool (sameK p nulK)) W := kindEq p nulK
  have e2 : ∀ W, (binOp BinOp.neq 40 (kv a) (.agg #[.int .i64 6, .string noNm])).run Tryz.prog W = .ok (.bool (!sameK a anyK)) W := kindNeq a anyK
  have eg := kindNeqG
  have HR : Hid (maySetD c p a = if sameK p nulK then !sameK a anyK else fitB topName c.L a p) := rfl
  clear h hl h0 hl0 hB0 hs0 k0 k1 hga
  cases h1 : sameK p nulK with
  | true =>
    rw [h1] at HR e1
    clear q0 p0 p1 p2 p3 p4 p5 x0 x1 y0 y1 lQ lP l0 l1
    go_enter Tryz.func178, Tryz.ntmps178
    go_wp2_with fail
    go_ret
    exact ⟨by rw [HR.out]; rfl, hW0 ▸ HB0.out⟩
  | false =>
    rw [h1] at HR e1
    go_enter Tryz.func178, Tryz.ntmps178
    go_wp2_with fail
    rw [← hW0]
    clear hW0 u0 u1 a0 a1
    refine wp_region_held_drew (S := fun W' => ∀ p : Addr, p.block < W0.heap.size → W'.cell? p = W0.cell? p) (by kernel_rfl) (fun p hp => rfl) fun hH => ?_
    refine ta 0 (.pointer (some ⟨Q, 0, none⟩)) rfl hH ?_
    refine ta 1 (.pointer (some ⟨Q, 0, none⟩)) rfl hH ?_
    refine ta 2 (.pointer (some ⟨Q, 0, none⟩)) rfl hH ?_
    refine ta 3 (.pointer (some ⟨P, 0, none⟩)) rfl hH ?_
    refine ta 4 (.pointer (some ⟨P, 0, none⟩)) rfl hH ?_
    refine ta 5 (.pointer (some ⟨P, 0, none⟩)) rfl hH ?_
    refine ta 6 (.agg #[v.kC, v.kS, v.kF, v.kN, v.kT, .map (some v.Bm)]) rfl hH ?_
    refine ta 7 (.agg #[.int .i64 a.kind, .string a.cls]) rfl hH ?_
    refine ta 8 (.agg #[.int .i64 p.kind, .string p.cls]) rfl hH ?_
    refine wpAnyH_ready (rs := [9]) (by kernel_rfl) (by simp) ?_
    refine AllReadyH.cons rfl (fun K9 hK9 => ?_) AllReadyH.nil
    go_simp
    refine (HF.out _ ((Below.refl _ _).drew)).mono ?_
    rintro r w4 ⟨rfl, hb4⟩
    have HB4 : Hid (Below W0.heap.size W0 w4) := (Below.refl W0.heap.size W0).drew.trans hb4
    refine hK9.out _ _ (fun p hp => HB4.out.cell hp) fun hH => ?_
    clear hb4
    refine ta 10 (.bool (fitB topName c.L a p)) rfl hH ?_
    refine wpAnyH_done (by kernel_rfl) ?_ _
    clear hH
    try simp only [Act.put, List.setIfInBounds_toArray, List.set_cons_zero, List.set_cons_succ, List.getElem_toArray, List.getElem_cons_zero, List.getElem_cons_succ]
    go_wp2_with fail
    go_ret
    exact ⟨by rw [HR.out]; rfl, HB0.out.trans (HB4.out.mono HB0.out.size)⟩
set_option maxRecDepth 100000 in
set_option maxHeartbeats 2000000 in
theorem rowD_23 {c : Lkr} {B F P Q : Nat} {x : Cd.Op4} {v : LkV} (hw : Wf c) (w : World) {vL vS : Value} {lo st : List KindD} (hl : LkW c B P v w) (hBF : B ≤ F) (h : Sp c F P Q x w vL vS lo st) (hst : st.length ≤ 10) (hop : x.op = 23) :
    Calls Tryz.prog 144 #[.pointer (some ⟨Q, 0, none⟩)] w fun r w' => SpOut c F P Q x (rowD c x lo st) r w w' := by
  have HU := mkHid (And.intro hw (And.intro hBF hst))
  clear HU
  have H := mkHid h
  have HL := mkHid hl
  have HD : Hid (rowD c x lo st = tpD c lo st [anyK, numK] fun t => (placeOfD (kAt t 0)).map fun p => [p]) := by show _ = _; unfold rowD; rw [hop]; rfl
  have c2 : w.cell? ⟨Q, 2, none⟩ = some (.int .i64 23) := by rw [← hop]; exact cell_of h.blk 2 rfl
  clear h hl hop
  go_enter Tryz.func144, Tryz.ntmps144
  obtain ⟨-, -, a0_2, a1_2, -, -, n0_2, n1_2, -, -, -⟩ := (HL.out).gl
  go_wp2_with fail
  refine (takeN_any hw.cls _ (HL.out) hBF H.out (by omega) [anyK, numK] _ rfl (sm2 sm_any sm_num) (by decide)).mono ?_
  rintro r w1 ⟨hb1, ⟨t1, rest1, v1, vS1, ht1, rfl, hs1, hp1⟩ | ⟨hn1, e1, p1, he1, rfl⟩⟩
  rotate_left
  · exact ⟨rfl, SpOut.fail' (by rw [HD.out]; exact tp_none hn1) hb1 ⟨_, _, he1, rfl⟩⟩
  have HT1 := mkHid ht1
  have HS1 := mkHid hs1
  have H1 := mkHid hp1
  have HB1 := mkHid hb1
  have hst1 : rest1.length ≤ 10 := Nat.le_trans (take_len ht1).2.1 (by omega)
  clear ht1 hs1 hp1 hb1
  obtain ⟨aT, cT, eT, -⟩ := HS1.out
  subst eT
  have hlt : t1.length = 2 := (take_len HT1.out).1
  have HLT := mkHid hlt
  obtain ⟨bT, oT, eT, hbT, y00, y01, ys0⟩ := HS1.out.atK 0 (by omega)
  subst eT
  have HE0 : Hid (kAt t1 0 = t1[0]) := kAt_eq (by omega)
  have HG0 : Hid (GdK (Kn c) t1[0]) := H.out.gS _ ((take_len HT1.out).2.2.1 _ (List.getElem_mem _))
  generalize t1[0] = ka at *
  simp only [Nat.zero_mul, Nat.add_zero] at y00 y01
  rw [hlt]
  clear hlt
  go_wp2_with fail
  refine (pl_any _ (HL.out.below (HB1.out.mono hBF)).gl H1.out ka).mono ?_
  rintro r w3 ⟨hb3, ⟨p9, hp9, rfl⟩ | ⟨hn3, e3, p3, he3, rfl⟩⟩
  rotate_left
  · exact ⟨rfl, SpOut.fail' (HD.out.trans (tp_no (lo := lo) (puts := fun t => (placeOfD (kAt t 0)).map fun p => [p]) HT1.out (by rw [HE0.out, hn3]; rfl))) (HB1.out.trans (hb3.mono H1.out.ff)) ⟨_, _, he3, rfl⟩⟩
  have H3 := mkHid (H1.out.up hb3)
  have HB3 := mkHid (HB1.out.trans (hb3.mono H1.out.ff))
  have HP9 := mkHid hp9
  have HGP := mkHid (place_gd HG0.out hp9)
  clear hb3 hp9
  have HSP : Hid (p9.cls.size ≤ maxLen) := gd_small hw.cls (HL.out.below (HB3.out.mono hBF)).kd HGP.out
  go_wp2_with fail
  refine (putN_any _ H3.out [p9] _ rfl (sm1 HSP.out) (gd1 HGP.out) (by simp; omega)).mono ?_
  rintro r w4 ⟨rfl, hb4, vS4, hp4⟩
  have H4 := mkHid hp4
  have HB4 := mkHid (HB3.out.trans hb4)
  clear hp4 hb4
  go_wp2_with fail
  go_end0
  exact SpOut.ok (HD.out.trans (tp_some (lo := lo) (puts := fun t => (placeOfD (kAt t 0)).map fun p => [p]) HT1.out (by rw [HE0.out, HP9.out]; rfl))) HB4.out H4.out
set_option maxRecDepth 100000 in
set_option maxHeartbeats 2000000 in
theorem rowD_25 {c : Lkr} {B F P Q : Nat} {x : Cd.Op4} {v : LkV} (hw : Wf c) (w : World) {vL vS : Value} {lo st : List KindD} (hl : LkW c B P v w) (hBF : B ≤ F) (h : Sp c F P Q x w vL vS lo st) (hst : st.length ≤ 10) (hop : x.op = 25) :
    Calls Tryz.prog 144 #[.pointer (some ⟨Q, 0, none⟩)] w fun r w' => SpOut c F P Q x (rowD c x lo st) r w w' := by
  have HU := mkHid (And.intro hw (And.intro hBF hst))
  clear HU
  have H := mkHid h
  have HL := mkHid hl
  have HD : Hid (rowD c x lo st = tpD c lo st [anyK] fun t => (placeOfD (kAt t 0)).map fun _ => [numK]) := by show _ = _; unfold rowD; rw [hop]; rfl
  have c2 : w.cell? ⟨Q, 2, none⟩ = some (.int .i64 25) := by rw [← hop]; exact cell_of h.blk 2 rfl
  clear h hl hop
  go_enter Tryz.func144, Tryz.ntmps144
  obtain ⟨-, -, a0_2, a1_2, -, -, -, -, -, -, -⟩ := (HL.out).gl
  go_wp2_with fail
  refine (takeN_any hw.cls _ (HL.out) hBF H.out (by omega) [anyK] _ rfl (sm1 sm_any) (by decide)).mono ?_
  rintro r w1 ⟨hb1, ⟨t1, rest1, v1, vS1, ht1, rfl, hs1, hp1⟩ | ⟨hn1, e1, p1, he1, rfl⟩⟩
  rotate_left
  · exact ⟨rfl, SpOut.fail' (by rw [HD.out]; exact tp_none hn1) hb1 ⟨_, _, he1, rfl⟩⟩
  have HT1 := mkHid ht1
  have HS1 := mkHid hs1
  have H1 := mkHid hp1
  have HB1 := mkHid hb1
  have hst1 : rest1.length ≤ 10 := Nat.le_trans (take_len ht1).2.1 (by omega)
  clear ht1 hs1 hp1 hb1
  obtain ⟨aT, cT, eT, -⟩ := HS1.out
  subst eT
  have hlt : t1.length = 1 := (take_len HT1.out).1
  have HLT := mkHid hlt
  obtain ⟨bT, oT, eT, hbT, y00, y01, ys0⟩ := HS1.out.atK 0 (by omega)
  subst eT
  have HE0 : Hid (kAt t1 0 = t1[0]) := kAt_eq (by omega)
  have HG0 : Hid (GdK (Kn c) t1[0]) := H.out.gS _ ((take_len HT1.out).2.2.1 _ (List.getElem_mem _))
  generalize t1[0] = ka at *
  simp only [Nat.zero_mul, Nat.add_zero] at y00 y01
  rw [hlt]
  clear hlt
  go_wp2_with fail
  refine (pl_any _ (HL.out.below (HB1.out.mono hBF)).gl H1.out ka).mono ?_
  rintro r w3 ⟨hb3, ⟨p9, hp9, rfl⟩ | ⟨hn3, e3, p3, he3, rfl⟩⟩
  rotate_left
  · exact ⟨rfl, SpOut.fail' (HD.out.trans (tp_no (lo := lo) (puts := fun t => (placeOfD (kAt t 0)).map fun _ => [numK]) HT1.out (by rw [HE0.out, hn3]; rfl))) (HB1.out.trans (hb3.mono H1.out.ff)) ⟨_, _, he3, rfl⟩⟩
  have H3 := mkHid (H1.out.up hb3)
  have HB3 := mkHid (HB1.out.trans (hb3.mono H1.out.ff))
  have HP9 := mkHid hp9
  clear hb3 hp9
  obtain ⟨-, -, -, -, -, -, n0_5, n1_5, -, -, -⟩ := (HL.out.below (HB3.out.mono hBF)).gl
  go_wp2_with fail
  refine (putN_any _ H3.out [numK] _ rfl (sm1 sm_num) (gd1 (numK_gd c)) (by simp; omega)).mono ?_
  rintro r w4 ⟨rfl, hb4, vS4, hp4⟩
  have H4 := mkHid hp4
  have HB4 := mkHid (HB3.out.trans hb4)
  clear hp4 hb4
  go_wp2_with fail
  go_end0
  exact SpOut.ok (HD.out.trans (tp_some (lo := lo) (puts := fun t => (placeOfD (kAt t 0)).map fun _ => [numK]) HT1.out (by rw [HE0.out, HP9.out]; rfl))) HB4.out H4.out
set_option maxRecDepth 100000 in
set_option maxHeartbeats 2000000 in
theorem rowD_24 {c : Lkr} {B F P Q : Nat} {x : Cd.Op4} {v : LkV} (hw : Wf c) (w : World) {vL vS : Value} {lo st : List KindD} (hl : LkW c B P v w) (hBF : B ≤ F) (h : Sp c F P Q x w vL vS lo st) (hst : st.length ≤ 10) (hop : x.op = 24) :
    Calls Tryz.prog 144 #[.pointer (some ⟨Q, 0, none⟩)] w fun r w' => SpOut c F P Q x (rowD c x lo st) r w w' := by
  have HU := mkHid (And.intro hw (And.intro hBF hst))
  clear HU
  have H := mkHid h
  have HL := mkHid hl
  have HD : Hid (rowD c x lo st = tpD c lo st [anyK, numK, anyK] fun t => (placeOfD (kAt t 0)).bind fun p => if maySetD c p (kAt t 2) then some [] else none) := by show _ = _; unfold rowD; rw [hop]; rfl
  have c2 : w.cell? ⟨Q, 2, none⟩ = some (.int .i64 24) := by rw [← hop]; exact cell_of h.blk 2 rfl
  clear h hl hop
  go_enter Tryz.func144, Tryz.ntmps144
  obtain ⟨-, -, a0_2, a1_2, -, -, n0_2, n1_2, -, -, -⟩ := (HL.out).gl
  go_wp2_with fail
  refine (takeN_any hw.cls _ (HL.out) hBF H.out (by omega) [anyK, numK, anyK] _ rfl (sm3 sm_any sm_num sm_any) (by decide)).mono ?_
  rintro r w1 ⟨hb1, ⟨t1, rest1, v1, vS1, ht1, rfl, hs1, hp1⟩ | ⟨hn1, e1, p1, he1, rfl⟩⟩
  rotate_left
  · exact ⟨rfl, SpOut.fail' (by rw [HD.out]; exact tp_none hn1) hb1 ⟨_, _, he1, rfl⟩⟩
  have HT1 := mkHid ht1
  have HS1 := mkHid hs1
  have H1 := mkHid hp1
  have HB1 := mkHid hb1
  have hst1 : rest1.length ≤ 10 := Nat.le_trans (take_len ht1).2.1 (by omega)
  clear ht1 hs1 hp1 hb1
  obtain ⟨aT, cT, eT, -⟩ := HS1.out
  subst eT
  have hlt : t1.length = 3 := (take_len HT1.out).1
  have HLT := mkHid hlt
  obtain ⟨bT, oT, eT, hbT, y00, y01, ys0⟩ := HS1.out.atK 0 (by omega)
  subst eT
  have HE0 : Hid (kAt t1 0 = t1[0]) := kAt_eq (by omega)
  have HG0 : Hid (GdK (Kn c) t1[0]) := H.out.gS _ ((take_len HT1.out).2.2.1 _ (List.getElem_mem _))
  generalize t1[0] = ka at *
  simp only [Nat.zero_mul, Nat.add_zero] at y00 y01
  obtain ⟨bT2, oT2, eT, -, y20, y21, ys2⟩ := HS1.out.atK 2 (by omega)
  cases eT
  have HE2 : Hid (kAt t1 2 = t1[2]) := kAt_eq (by omega)
  have HG2 : Hid (GdK (Kn c) t1[2]) := H.out.gS _ ((take_len HT1.out).2.2.1 _ (List.getElem_mem _))
  generalize t1[2] = kb at *
  simp only [Nat.reduceMul] at y20 y21
  rw [hlt]
  clear hlt
  go_wp2_with fail
  refine wp_region_held_drew (S := fun W' => ∀ p : Addr, p.block < w1.heap.size → W'.cell? p = w1.cell? p) (by kernel_rfl) (fun p hp => rfl) fun hH => ?_
  refine ta 0 (.pointer (some ⟨Q, 0, none⟩)) rfl hH ?_
  refine ta 1 (.pointer (some ⟨Q, 0, none⟩)) rfl hH ?_
  refine ta 2 (.pointer (some ⟨Q, 0, none⟩)) rfl hH ?_
  refine ta 3 (.slice (some ⟨bT, oT, none⟩) 3 cT) rfl hH ?_
  refine ta 4 (.pointer (some ⟨bT, oT, none⟩)) rfl hH ?_
  refine ta 5 (.agg #[.int .i64 ka.kind, .string ka.cls]) rfl hH ?_
  refine ta 7 (.slice (some ⟨bT, oT, none⟩) 3 cT) rfl hH ?_
  refine ta 8 (.pointer (some ⟨bT, oT + 4, none⟩)) rfl hH ?_
  refine ta 9 (.agg #[.int .i64 kb.kind, .string kb.cls]) rfl hH ?_
  refine wpAnyH_ready (rs := [6]) (by kernel_rfl) (by simp) ?_
  refine AllReadyH.cons rfl (fun K6 hK6 => ?_) AllReadyH.nil
  go_simp
  refine (pl_any _ ((HL.out.below (HB1.out.mono hBF)).gl.below (Below.refl _ _).drew) (H1.out.up (Below.refl _ _).drew) ka).mono ?_
  rintro r u6 ⟨hu6, ⟨p9, hp9, rfl⟩ | ⟨hn6, e6, p6, he6, rfl⟩⟩
  rotate_left
  · exact ⟨rfl, SpOut.fail' (HD.out.trans (tp_no (lo := lo) (puts := fun t => (placeOfD (kAt t 0)).bind fun p => if maySetD c p (kAt t 2) then some [] else none) HT1.out (by rw [HE0.out, hn6]; rfl))) (HB1.out.trans (((Below.refl w1.heap.size w1).drew.trans hu6).mono H1.out.ff)) ⟨_, _, he6, rfl⟩⟩
  have HU6 : Hid (Below w1.heap.size w1 u6) := (Below.refl _ _).drew.trans hu6
  have HP9 := mkHid hp9
  refine hK6.out _ _ (fun p hp => HU6.out.cell hp) fun hH => ?_
  clear hu6 hp9
  refine wpAnyH_ready (rs := [10]) (by kernel_rfl) (by simp) ?_
  refine AllReadyH.cons rfl (fun K10 hK10 => ?_) AllReadyH.nil
  go_simp
  refine (ms_any hw.cls _ ((HL.out.below (HB1.out.mono hBF)).below (HU6.out.mono (HL.out.below (HB1.out.mono hBF)).bw)) (H1.out.up HU6.out) p9 kb HG2.out ys2).mono ?_
  rintro r u7 ⟨rfl, hu7⟩
  have HU7 : Hid (Below w1.heap.size w1 u7) := HU6.out.trans (hu7.mono HU6.out.size)
  refine hK10.out _ _ (fun p hp => HU7.out.cell hp) fun hH => ?_
  clear hu7
  refine wpAnyH_ready (rs := [11]) (by kernel_rfl) (by simp) ?_
  refine AllReadyH.cons rfl (fun K11 hK11 => ?_) AllReadyH.nil
  go_simp
  refine (sdemand_any _ (H1.out.up HU7.out) _ _).mono ?_
  rintro r u8 ⟨hu8, ⟨hb, rfl⟩ | ⟨hb, rfl⟩⟩
  · exact ⟨rfl, by rw [hu8]; exact SpOut.fail' (HD.out.trans (tp_no (lo := lo) (puts := fun t => (placeOfD (kAt t 0)).bind fun p => if maySetD c p (kAt t 2) then some [] else none) HT1.out (by rw [HE0.out, HE2.out, HP9.out, Option.bind_some, hb]; rfl))) (HB1.out.trans (HU7.out.mono H1.out.ff)) ⟨_, _, by decide, rfl⟩⟩
  rw [hu8]
  have HOK := mkHid hb
  clear hb hu8 u8
  refine hK11.out _ _ (fun p hp => HU7.out.cell hp) fun hH => ?_
  refine wpAnyH_done (by kernel_rfl) ?_ _
  clear hH
  try simp only [Act.put, List.setIfInBounds_toArray, List.set_cons_zero, List.set_cons_succ, List.getElem_toArray, List.getElem_cons_zero, List.getElem_cons_succ]
  go_wp2_with fail
  go_end0
  exact SpOut.ok (HD.out.trans (by have := tp_some (lo := lo) (puts := fun t => (placeOfD (kAt t 0)).bind fun p => if maySetD c p (kAt t 2) then some [] else none) HT1.out (p := []) (by rw [HE0.out, HE2.out, HP9.out, Option.bind_some, HOK.out]; rfl); rwa [List.append_nil] at this)) (HB1.out.trans (HU7.out.mono H1.out.ff)) (H1.out.up HU7.out)
set_option maxRecDepth 100000 in
set_option maxHeartbeats 2000000 in
theorem rowD_22 {c : Lkr} {B F P Q : Nat} {x : Cd.Op4} {v : LkV} (hw : Wf c) (w : World) {vL vS : Value} {lo st : List KindD} (hl : LkW c B P v w) (hBF : B ≤ F) (h : Sp c F P Q x w vL vS lo st) (hst : st.length ≤ 10) (h0 : 0 ≤ x.a) (h1 : x.a < c.d.classes.length) (hop : x.op = 22) :
    Calls Tryz.prog 144 #[.pointer (some ⟨Q, 0, none⟩)] w fun r w' => SpOut c F P Q x (rowD c x lo st) r w w' := by
  have HU := mkHid (And.intro hw (And.intro hBF hst))
  clear HU
  have H := mkHid h
  have HL := mkHid hl
  have HD : Hid (rowD c x lo st = tpD c lo st [numK] fun _ => some [⟨4, (c.cls x).name⟩]) := by show _ = _; unfold rowD; rw [hop]; rfl
  have c2 : w.cell? ⟨Q, 2, none⟩ = some (.int .i64 22) := by rw [← hop]; exact cell_of h.blk 2 rfl
  clear h hl hop
  go_enter Tryz.func144, Tryz.ntmps144
  obtain ⟨-, -, -, -, -, -, n0_2, n1_2, -, -, -⟩ := (HL.out).gl
  go_wp2_with fail
  refine (takeN_any hw.cls _ (HL.out) hBF H.out (by omega) [numK] _ rfl (sm1 sm_num) (by decide)).mono ?_
  rintro r w1 ⟨hb1, ⟨t1, rest1, v1, vS1, ht1, rfl, hs1, hp1⟩ | ⟨hn1, e1, p1, he1, rfl⟩⟩
  rotate_left
  · exact ⟨rfl, SpOut.fail' (by rw [HD.out]; exact tp_none hn1) hb1 ⟨_, _, he1, rfl⟩⟩
  have HT1 := mkHid ht1
  have HS1 := mkHid hs1
  have H1 := mkHid hp1
  have HB1 := mkHid hb1
  have hst1 : rest1.length ≤ 10 := Nat.le_trans (take_len ht1).2.1 (by omega)
  clear ht1 hs1 hp1 hb1
  go_wp2_with fail
  obtain ⟨n, hn, hnl, hN⟩ := Cd_nat h0 h1
  have hlW := (HL.out.below (HB1.out.mono hBF))
  have hC := hlW.kd.lk.C
  obtain ⟨aC, cC, eC, -⟩ := hlW.kd.lk.C
  rw [eC] at hC
  obtain ⟨bC, oC, vf, vm, e9, hbC, k0, -⟩ := hC.atC n hnl
  subst e9
  have q0 := cell_of H1.out.blk 0 (x := .pointer (some ⟨P, 0, none⟩)) rfl
  have q3 : w1.cell? ⟨Q, 3, none⟩ = some (.int .i64 (n : Int)) := by rw [← hn]; exact cell_of H1.out.blk 3 rfl
  have p0 : w1.cell? ⟨P, 0, none⟩ = some (.slice (some ⟨bC, oC, none⟩) c.d.classes.length cC) := by rw [← eC]; exact cell_of hlW.blk 0 rfl
  have lQ : Q < w1.heap.size := lt_of H1.out.blk
  have lP : P < w1.heap.size := lt_of hlW.blk
  have hcn : (n : Int) < c.d.classes.length := by omega
  have hn0 : (0 : Int) ≤ n := by omega
  have lF : F ≤ w1.heap.size := H1.out.ff
  have pF : P < F := Nat.lt_of_lt_of_le hlW.pB hBF
  have cF : bC < F := Nat.lt_of_lt_of_le (by have := SL.blk hC n hnl; exact this) hBF
  have HQ3 : Hid (∀ (W : World) (vL' vS' : Value) (st' : List KindD), Sp c F P Q x W vL' vS' lo st' → W.cell? ⟨Q, 3, none⟩ = some (.int .i64 (n : Int))) := fun W vL' vS' st' hp => by rw [← hn]; exact cell_of hp.blk 3 rfl
  have HNM : Hid ((c.cls x).name = c.d.classes[n].name) := by show _ = _; unfold Lkr.cls; rw [hN, clsAt_eq hnl]
  have HSZ : Hid (c.d.classes[n].name.size ≤ maxLen) := by
    obtain ⟨_, _, _, _, _, _, _, _, _, _, _, _, h, _⟩ := hC.atC n hnl
    exact h
  have HGN : Hid (GdK (Kn c) ⟨4, c.d.classes[n].name⟩) := Or.inl ⟨Or.inr rfl, by show 0 ≤ num c.d.classes _; rw [hw.cls.nn n hnl]; omega⟩
  generalize c.d.classes[n].name = nm at *
  clear hlW hC eC hbC h0 h1 hn hN hnl
  refine wp_region_held_drew (S := fun W' => (∀ p : Addr, p.block < F → W'.cell? p = w1.cell? p) ∧ W'.cell? ⟨Q, 0, none⟩ = some (.pointer (some ⟨P, 0, none⟩)) ∧ W'.cell? ⟨Q, 3, none⟩ = some (.int .i64 (n : Int))) (by kernel_rfl) ⟨fun p hp => rfl, q0, q3⟩ fun hH => ?_
  refine tq 0 (.pointer (some ⟨Q, 0, none⟩)) rfl (by kernel_rfl) (by kernel_rfl) (fun _ _ _ h => h) ?_ hH ?_
  · intro w hSw
    obtain ⟨gF, g0, g3⟩ := hSw
    go_simp
  refine tq 1 (.pointer (some ⟨Q, 0, none⟩)) rfl (by kernel_rfl) (by kernel_rfl) (fun _ _ _ h => h) ?_ hH ?_
  · intro w hSw
    obtain ⟨gF, g0, g3⟩ := hSw
    go_simp
  refine tq 2 (.pointer (some ⟨Q, 0, none⟩)) rfl (by kernel_rfl) (by kernel_rfl) (fun _ _ _ h => h) ?_ hH ?_
  · intro w hSw
    obtain ⟨gF, g0, g3⟩ := hSw
    go_simp
  refine tq 3 (.pointer (some ⟨Q, 0, none⟩)) rfl (by kernel_rfl) (by kernel_rfl) (fun _ _ _ h => h) ?_ hH ?_
  · intro w hSw
    obtain ⟨gF, g0, g3⟩ := hSw
    go_simp
  refine tq 4 (.pointer (some ⟨P, 0, none⟩)) rfl (by kernel_rfl) (by kernel_rfl) (fun _ _ _ h => h) ?_ hH ?_
  · intro w hSw
    obtain ⟨gF, g0, g3⟩ := hSw
    go_simp
  refine tq 5 (.pointer (some ⟨P, 0, none⟩)) rfl (by kernel_rfl) (by kernel_rfl) (fun _ _ _ h => h) ?_ hH ?_
  · intro w hSw
    obtain ⟨gF, g0, g3⟩ := hSw
    go_simp
  refine tq 6 (.pointer (some ⟨P, 0, none⟩)) rfl (by kernel_rfl) (by kernel_rfl) (fun _ _ _ h => h) ?_ hH ?_
  · intro w hSw
    obtain ⟨gF, g0, g3⟩ := hSw
    go_simp
  refine tq 7 (.pointer (some ⟨P, 0, none⟩)) rfl (by kernel_rfl) (by kernel_rfl) (fun _ _ _ h => h) ?_ hH ?_
  · intro w hSw
    obtain ⟨gF, g0, g3⟩ := hSw
    go_simp
  refine tq 8 (.pointer (some ⟨P, 0, none⟩)) rfl (by kernel_rfl) (by kernel_rfl) (fun _ _ _ h => h) ?_ hH ?_
  · intro w hSw
    obtain ⟨gF, g0, g3⟩ := hSw
    go_simp
  refine tq 9 (.slice (some ⟨bC, oC, none⟩) c.d.classes.length cC) rfl (by kernel_rfl) (by kernel_rfl) (fun _ _ _ h => h) ?_ hH ?_
  · intro w hSw
    obtain ⟨gF, g0, g3⟩ := hSw
    go_simp
  refine tq 10 (.pointer (some ⟨Q, 0, none⟩)) rfl (by kernel_rfl) (by kernel_rfl) (fun _ _ _ h => h) ?_ hH ?_
  · intro w hSw
    obtain ⟨gF, g0, g3⟩ := hSw
    go_simp
  refine tq 11 (.pointer (some ⟨Q, 0, none⟩)) rfl (by kernel_rfl) (by kernel_rfl) (fun _ _ _ h => h) ?_ hH ?_
  · intro w hSw
    obtain ⟨gF, g0, g3⟩ := hSw
    go_simp
  refine tq 12 (.pointer (some ⟨Q, 1, none⟩)) rfl (by kernel_rfl) (by kernel_rfl) (fun _ _ _ h => h) ?_ hH ?_
  · intro w hSw
    obtain ⟨gF, g0, g3⟩ := hSw
    go_simp
  refine tq 13 (.pointer (some ⟨Q, 3, none⟩)) rfl (by kernel_rfl) (by kernel_rfl) (fun _ _ _ h => h) ?_ hH ?_
  · intro w hSw
    obtain ⟨gF, g0, g3⟩ := hSw
    go_simp
  refine tq 14 (.int .i64 (n : Int)) rfl (by kernel_rfl) (by kernel_rfl) (fun _ _ _ h => h) ?_ hH ?_
  · intro w hSw
    obtain ⟨gF, g0, g3⟩ := hSw
    go_simp
  refine tq 15 (.pointer (some ⟨bC, oC + n * 4, none⟩)) rfl (by kernel_rfl) (by kernel_rfl) (fun _ _ _ h => h) ?_ hH ?_
  · intro w hSw
    obtain ⟨gF, g0, g3⟩ := hSw
    go_simp
  refine tq 16 (.pointer (some ⟨bC, oC + n * 4, none⟩)) rfl (by kernel_rfl) (by kernel_rfl) (fun _ _ _ h => h) ?_ hH ?_
  · intro w hSw
    obtain ⟨gF, g0, g3⟩ := hSw
    go_simp
  refine tq 17 (.string nm) rfl (by kernel_rfl) (by kernel_rfl) (fun _ _ _ h => h) ?_ hH ?_
  · intro w hSw
    obtain ⟨gF, g0, g3⟩ := hSw
    go_simp
  refine tq 18 (.agg #[.int .i64 4, .string nm]) rfl (by kernel_rfl) (by kernel_rfl) (fun _ _ _ h => h) ?_ hH ?_
  · intro w hSw
    obtain ⟨gF, g0, g3⟩ := hSw
    go_simp
  refine wpAnyH_ready (rs := [19]) (by kernel_rfl) (by simp) ?_
  refine AllReadyH.cons rfl (fun K19 hK19 => ?_) AllReadyH.nil
  go_simp
  have hb19 := ((Below.refl w1.heap.size w1).drew).alloc (Nat.le_refl _) (.cells #[.int .i64 4, .string nm] 40)
  refine hK19.out _ _ ⟨fun p hp => hb19.cell (Nat.lt_of_lt_of_le hp lF), (hb19.cell (p := ⟨Q, 0, none⟩) lQ).trans q0, (hb19.cell (p := ⟨Q, 3, none⟩) lQ).trans q3⟩ fun hH => ?_
  clear hb19
  refine wpAnyH_ready (rs := [20]) (by kernel_rfl) (by simp) ?_
  refine AllReadyH.cons rfl (fun K20 hK20 => ?_) AllReadyH.nil
  go_simp
  refine (putN_any _ (H1.out.up (Below.refl _ _).drew) [⟨4, nm⟩] _ rfl (sm1 HSZ.out) (gd1 HGN.out) (by simp; omega)).mono ?_
  rintro r w3 ⟨rfl, hb3, vS3, hp3⟩
  have H3 := mkHid hp3
  have HB3 := mkHid (HB1.out.trans ((Below.refl _ _).drew.trans hb3))
  have HBk : Hid (Below F _ w3) := (Below.refl _ _).drew.trans hb3
  clear hp3 hb3
  refine hK20.out _ _ (⟨fun p hp => HBk.out.cell hp, cell_of H3.out.blk 0 rfl, HQ3.out _ _ _ _ H3.out⟩) fun hH => ?_
  refine wpAnyH_done (by kernel_rfl) ?_ _
  clear hH
  try simp only [Act.put, List.setIfInBounds_toArray, List.set_cons_zero, List.set_cons_succ, List.getElem_toArray, List.getElem_cons_zero, List.getElem_cons_succ]
  go_wp2_with fail
  go_end0
  exact SpOut.ok (HD.out.trans (tp_some (lo := lo) (puts := fun _ => some [⟨4, (c.cls x).name⟩]) HT1.out (by rw [HNM.out]))) HB3.out H3.out
end Go.Proofs.YtfibgdcpbkaaoaaGreatDoor
/- A step's operations: get and put. -/
namespace Go.Proofs.YtfibgdcpbkaaoaaGreatDoor
open Go.RowKit Go.Maps
set_option maxRecDepth 100000 in
set_option maxHeartbeats 2000000 in
theorem thingD_19 {c : Lkr} {B F P Q : Nat} {x : Cd.Op4} {v : LkV} (hw : Wf c) (w : World) {vL vS : Value} {lo st : List KindD} (hl : LkW c B P v w) (hBF : B ≤ F) (h : Sp c F P Q x w vL vS lo st) (hst : st.length ≤ 10) (h0 : 0 ≤ x.a) (h1 : x.a < c.d.classes.length) (h2 : 0 ≤ x.b) (h3 : x.b < (c.flds x).length) (hsz : (c.ofC x).cls.size ≤ maxLen) (hop : x.op = 19) :
    Calls Tryz.prog 145 #[.pointer (some ⟨Q, 0, none⟩)] w fun r w' => SpOut c F P Q x (thingD c x lo st) r w w' := by
  have HU := mkHid (And.intro hw (And.intro hBF hst))
  clear HU
  have H := mkHid h
  have HL := mkHid hl
  have HD : Hid (thingD c x lo st = tpD c lo st [c.ofC x] fun _ => some [c.fld x]) := by show _ = _; unfold thingD; rw [hop]; rfl
  have c2 : w.cell? ⟨Q, 2, none⟩ = some (.int .i64 19) := by rw [← hop]; exact cell_of h.blk 2 rfl
  clear h hl hop
  go_enter Tryz.func145, Tryz.ntmps145
  go_wp2_with fail
  refine (ofClass_any _ (HL.out) H.out h0 h1).mono ?_
  rintro r w1 ⟨rfl, hb1⟩
  have H1 := mkHid (H.out.up hb1)
  have HB1 := mkHid (hb1.mono H.out.ff)
  clear hb1
  go_wp2_with fail
  refine (takeN_any hw.cls _ (HL.out.below (HB1.out.mono hBF)) hBF H1.out (by omega) [c.ofC x] _ rfl (sm1 hsz) (by simp)).mono ?_
  rintro r w2 ⟨hb2, ⟨t2, rest2, v2, vS2, ht2, rfl, hs2, hp2⟩ | ⟨hn2, e2, p2, he2, rfl⟩⟩
  rotate_left
  · exact ⟨rfl, SpOut.fail' (by rw [HD.out]; exact tp_none hn2) (HB1.out.trans hb2) ⟨_, _, he2, rfl⟩⟩
  have HT2 := mkHid ht2
  have HS2 := mkHid hs2
  have H2 := mkHid hp2
  have HB2 := mkHid (HB1.out.trans hb2)
  have hst2 : rest2.length ≤ 10 := Nat.le_trans (take_len ht2).2.1 (by omega)
  clear ht2 hs2 hp2 hb2
  go_wp2_with fail
  obtain ⟨n, hn, hnl, hN⟩ := Cd_nat h0 h1
  have hnf : n < c.d.fields.length := by rw [hw.fl]; exact hnl
  have hfs : c.flds x = c.d.fields[n] := by unfold Lkr.flds; rw [hN, List.getElem?_eq_getElem hnf]; rfl
  rw [hfs] at h3
  obtain ⟨m, hm, hml, hM⟩ := Cd_nat h2 h3
  have HFK : Hid (c.fld x = c.d.fields[n][m].kind) := by show _ = _; unfold Lkr.fld; rw [hfs, hM, List.getElem?_eq_getElem hml]; rfl
  have hlW := (HL.out.below (HB2.out.mono hBF))
  have hF := hlW.kd.lk.F
  obtain ⟨aF, cF, eF, -⟩ := hlW.kd.lk.F
  rw [eF] at hF
  obtain ⟨bF, oF, aG, cG, e9, hbF, g0, hG⟩ := hF.atSl n hnf
  subst e9
  obtain ⟨bG, oG, e9, hbG, f0, f1, f2, -, fsz⟩ := hG.atF m hml
  subst e9
  have q0 := cell_of H2.out.blk 0 (x := .pointer (some ⟨P, 0, none⟩)) rfl
  have q3 : w2.cell? ⟨Q, 3, none⟩ = some (.int .i64 (n : Int)) := by rw [← hn]; exact cell_of H2.out.blk 3 rfl
  have q4 : w2.cell? ⟨Q, 4, none⟩ = some (.int .i64 (m : Int)) := by rw [← hm]; exact cell_of H2.out.blk 4 rfl
  have p2 : w2.cell? ⟨P, 2, none⟩ = some (.slice (some ⟨bF, oF, none⟩) c.d.fields.length cF) := by rw [← eF]; exact cell_of hlW.blk 2 rfl
  have lQ : Q < w2.heap.size := lt_of H2.out.blk
  have hcn : (n : Int) < c.d.fields.length := by omega
  have hn0 : (0 : Int) ≤ n := by omega
  have hcm : (m : Int) < c.d.fields[n].length := by omega
  have hm0 : (0 : Int) ≤ m := by omega
  have lF : F ≤ w2.heap.size := H2.out.ff
  have pF : P < F := Nat.lt_of_lt_of_le hlW.pB hBF
  have xF : bF < F := Nat.lt_of_lt_of_le (by have := SL.blk hF n hnf; exact this) hBF
  have yF : bG < F := Nat.lt_of_lt_of_le (by have := SL.blk hG m hml; exact this) hBF
  have HQ3 : Hid (∀ (W : World) (vL' vS' : Value) (st' : List KindD), Sp c F P Q x W vL' vS' lo st' → W.cell? ⟨Q, 3, none⟩ = some (.int .i64 (n : Int))) := fun W vL' vS' st' hp => by rw [← hn]; exact cell_of hp.blk 3 rfl
  have HQ4 : Hid (∀ (W : World) (vL' vS' : Value) (st' : List KindD), Sp c F P Q x W vL' vS' lo st' → W.cell? ⟨Q, 4, none⟩ = some (.int .i64 (m : Int))) := fun W vL' vS' st' hp => by rw [← hm]; exact cell_of hp.blk 4 rfl
  have HGF : Hid (GdK (Kn c) c.d.fields[n][m].kind) := hw.fk _ (List.getElem_mem hnf) _ (List.getElem_mem hml)
  generalize c.d.fields[n][m].kind = fk at *
  clear hlW hF eF hbF hG hbG hn hm hnl hN hM f0 h0 h1 h2 h3 hfs
  clear hml
  generalize c.d.fields[n].length = lf at *
  clear hnf
  refine wp_region_held_drew (S := fun W' => (∀ p : Addr, p.block < F → W'.cell? p = w2.cell? p) ∧ W'.cell? ⟨Q, 0, none⟩ = some (.pointer (some ⟨P, 0, none⟩)) ∧ W'.cell? ⟨Q, 3, none⟩ = some (.int .i64 (n : Int)) ∧ W'.cell? ⟨Q, 4, none⟩ = some (.int .i64 (m : Int))) (by kernel_rfl) ⟨fun p hp => rfl, q0, q3, q4⟩ fun hH => ?_
  refine tq 0 (.pointer (some ⟨Q, 0, none⟩)) rfl (by kernel_rfl) (by kernel_rfl) (fun _ _ _ h => h) ?_ hH ?_
  · intro w hSw
    obtain ⟨gF, g0, g3, g4⟩ := hSw
    go_simp
  refine tq 1 (.pointer (some ⟨Q, 0, none⟩)) rfl (by kernel_rfl) (by kernel_rfl) (fun _ _ _ h => h) ?_ hH ?_
  · intro w hSw
    obtain ⟨gF, g0, g3, g4⟩ := hSw
    go_simp
  refine tq 2 (.pointer (some ⟨Q, 0, none⟩)) rfl (by kernel_rfl) (by kernel_rfl) (fun _ _ _ h => h) ?_ hH ?_
  · intro w hSw
    obtain ⟨gF, g0, g3, g4⟩ := hSw
    go_simp
  refine tq 3 (.pointer (some ⟨Q, 0, none⟩)) rfl (by kernel_rfl) (by kernel_rfl) (fun _ _ _ h => h) ?_ hH ?_
  · intro w hSw
    obtain ⟨gF, g0, g3, g4⟩ := hSw
    go_simp
  refine tq 4 (.pointer (some ⟨P, 0, none⟩)) rfl (by kernel_rfl) (by kernel_rfl) (fun _ _ _ h => h) ?_ hH ?_
  · intro w hSw
    obtain ⟨gF, g0, g3, g4⟩ := hSw
    go_simp
  refine tq 5 (.pointer (some ⟨P, 0, none⟩)) rfl (by kernel_rfl) (by kernel_rfl) (fun _ _ _ h => h) ?_ hH ?_
  · intro w hSw
    obtain ⟨gF, g0, g3, g4⟩ := hSw
    go_simp
  refine tq 6 (.pointer (some ⟨P, 0, none⟩)) rfl (by kernel_rfl) (by kernel_rfl) (fun _ _ _ h => h) ?_ hH ?_
  · intro w hSw
    obtain ⟨gF, g0, g3, g4⟩ := hSw
    go_simp
  refine tq 7 (.pointer (some ⟨P, 0, none⟩)) rfl (by kernel_rfl) (by kernel_rfl) (fun _ _ _ h => h) ?_ hH ?_
  · intro w hSw
    obtain ⟨gF, g0, g3, g4⟩ := hSw
    go_simp
  refine tq 8 (.pointer (some ⟨P, 2, none⟩)) rfl (by kernel_rfl) (by kernel_rfl) (fun _ _ _ h => h) ?_ hH ?_
  · intro w hSw
    obtain ⟨gF, g0, g3, g4⟩ := hSw
    go_simp
  refine tq 9 (.slice (some ⟨bF, oF, none⟩) c.d.fields.length cF) rfl (by kernel_rfl) (by kernel_rfl) (fun _ _ _ h => h) ?_ hH ?_
  · intro w hSw
    obtain ⟨gF, g0, g3, g4⟩ := hSw
    go_simp
  refine tq 10 (.pointer (some ⟨Q, 0, none⟩)) rfl (by kernel_rfl) (by kernel_rfl) (fun _ _ _ h => h) ?_ hH ?_
  · intro w hSw
    obtain ⟨gF, g0, g3, g4⟩ := hSw
    go_simp
  refine tq 11 (.pointer (some ⟨Q, 0, none⟩)) rfl (by kernel_rfl) (by kernel_rfl) (fun _ _ _ h => h) ?_ hH ?_
  · intro w hSw
    obtain ⟨gF, g0, g3, g4⟩ := hSw
    go_simp
  refine tq 12 (.pointer (some ⟨Q, 1, none⟩)) rfl (by kernel_rfl) (by kernel_rfl) (fun _ _ _ h => h) ?_ hH ?_
  · intro w hSw
    obtain ⟨gF, g0, g3, g4⟩ := hSw
    go_simp
  refine tq 13 (.pointer (some ⟨Q, 3, none⟩)) rfl (by kernel_rfl) (by kernel_rfl) (fun _ _ _ h => h) ?_ hH ?_
  · intro w hSw
    obtain ⟨gF, g0, g3, g4⟩ := hSw
    go_simp
  refine tq 14 (.int .i64 (n : Int)) rfl (by kernel_rfl) (by kernel_rfl) (fun _ _ _ h => h) ?_ hH ?_
  · intro w hSw
    obtain ⟨gF, g0, g3, g4⟩ := hSw
    go_simp
  refine tq 15 (.pointer (some ⟨bF, oF + n, none⟩)) rfl (by kernel_rfl) (by kernel_rfl) (fun _ _ _ h => h) ?_ hH ?_
  · intro w hSw
    obtain ⟨gF, g0, g3, g4⟩ := hSw
    go_simp
  refine tq 16 (.slice (some ⟨bG, oG, none⟩) lf cG) rfl (by kernel_rfl) (by kernel_rfl) (fun _ _ _ h => h) ?_ hH ?_
  · intro w hSw
    obtain ⟨gF, g0, g3, g4⟩ := hSw
    go_simp
  refine tq 17 (.pointer (some ⟨Q, 0, none⟩)) rfl (by kernel_rfl) (by kernel_rfl) (fun _ _ _ h => h) ?_ hH ?_
  · intro w hSw
    obtain ⟨gF, g0, g3, g4⟩ := hSw
    go_simp
  refine tq 18 (.pointer (some ⟨Q, 0, none⟩)) rfl (by kernel_rfl) (by kernel_rfl) (fun _ _ _ h => h) ?_ hH ?_
  · intro w hSw
    obtain ⟨gF, g0, g3, g4⟩ := hSw
    go_simp
  refine tq 19 (.pointer (some ⟨Q, 1, none⟩)) rfl (by kernel_rfl) (by kernel_rfl) (fun _ _ _ h => h) ?_ hH ?_
  · intro w hSw
    obtain ⟨gF, g0, g3, g4⟩ := hSw
    go_simp
  refine tq 20 (.pointer (some ⟨Q, 4, none⟩)) rfl (by kernel_rfl) (by kernel_rfl) (fun _ _ _ h => h) ?_ hH ?_
  · intro w hSw
    obtain ⟨gF, g0, g3, g4⟩ := hSw
    go_simp
  refine tq 21 (.int .i64 (m : Int)) rfl (by kernel_rfl) (by kernel_rfl) (fun _ _ _ h => h) ?_ hH ?_
  · intro w hSw
    obtain ⟨gF, g0, g3, g4⟩ := hSw
    go_simp
  refine tq 22 (.pointer (some ⟨bG, oG + m * 3, none⟩)) rfl (by kernel_rfl) (by kernel_rfl) (fun _ _ _ h => h) ?_ hH ?_
  · intro w hSw
    obtain ⟨gF, g0, g3, g4⟩ := hSw
    go_simp
  refine tq 23 (.pointer (some ⟨bG, oG + m * 3 + 1, none⟩)) rfl (by kernel_rfl) (by kernel_rfl) (fun _ _ _ h => h) ?_ hH ?_
  · intro w hSw
    obtain ⟨gF, g0, g3, g4⟩ := hSw
    go_simp
  refine tq 24 (.agg #[.int .i64 fk.kind, .string fk.cls]) rfl (by kernel_rfl) (by kernel_rfl) (fun _ _ _ h => h) ?_ hH ?_
  · intro w hSw
    obtain ⟨gF, g0, g3, g4⟩ := hSw
    go_simp
  refine wpAnyH_ready (rs := [25]) (by kernel_rfl) (by simp) ?_
  refine AllReadyH.cons rfl (fun K25 hK25 => ?_) AllReadyH.nil
  go_simp
  have hb25 := ((Below.refl w2.heap.size w2).drew).alloc (Nat.le_refl _) (.cells #[.int .i64 fk.kind, .string fk.cls] 40)
  refine hK25.out _ _ ⟨fun p hp => hb25.cell (Nat.lt_of_lt_of_le hp lF), (hb25.cell (p := ⟨Q, 0, none⟩) lQ).trans q0, (hb25.cell (p := ⟨Q, 3, none⟩) lQ).trans q3, (hb25.cell (p := ⟨Q, 4, none⟩) lQ).trans q4⟩ fun hH => ?_
  clear hb25
  refine wpAnyH_ready (rs := [26]) (by kernel_rfl) (by simp) ?_
  refine AllReadyH.cons rfl (fun K26 hK26 => ?_) AllReadyH.nil
  go_simp
  refine (putN_any _ (H2.out.up (Below.refl _ _).drew) [fk] _ rfl (sm1 fsz) (gd1 HGF.out) (by simp; omega)).mono ?_
  rintro r w3 ⟨rfl, hb3, vS3, hp3⟩
  have H3 := mkHid hp3
  have HB3 := mkHid (HB2.out.trans ((Below.refl _ _).drew.trans hb3))
  have HBk : Hid (Below F _ w3) := (Below.refl _ _).drew.trans hb3
  clear hp3 hb3
  refine hK26.out _ _ (⟨fun p hp => HBk.out.cell hp, cell_of H3.out.blk 0 rfl, HQ3.out _ _ _ _ H3.out, HQ4.out _ _ _ _ H3.out⟩) fun hH => ?_
  refine wpAnyH_done (by kernel_rfl) ?_ _
  clear hH
  try simp only [Act.put, List.setIfInBounds_toArray, List.set_cons_zero, List.set_cons_succ, List.getElem_toArray, List.getElem_cons_zero, List.getElem_cons_succ]
  go_wp2_with fail
  go_end0
  exact SpOut.ok (HD.out.trans (tp_some (lo := lo) (puts := fun _ => some [c.fld x]) HT2.out (by rw [HFK.out]))) HB3.out H3.out
set_option maxRecDepth 100000 in
set_option maxHeartbeats 2000000 in
theorem thingD_20 {c : Lkr} {B F P Q : Nat} {x : Cd.Op4} {v : LkV} (hw : Wf c) (w : World) {vL vS : Value} {lo st : List KindD} (hl : LkW c B P v w) (hBF : B ≤ F) (h : Sp c F P Q x w vL vS lo st) (hst : st.length ≤ 10) (h0 : 0 ≤ x.a) (h1 : x.a < c.d.classes.length) (h2 : 0 ≤ x.b) (h3 : x.b < (c.flds x).length) (hsz : (c.ofC x).cls.size ≤ maxLen) (hop : x.op = 20) :
    Calls Tryz.prog 145 #[.pointer (some ⟨Q, 0, none⟩)] w fun r w' => SpOut c F P Q x (thingD c x lo st) r w w' := by
  have HU := mkHid (And.intro hw (And.intro hBF hst))
  clear HU
  have H := mkHid h
  have HL := mkHid hl
  have HD : Hid (thingD c x lo st = tpD c lo st [c.ofC x, c.fld x] fun _ => some []) := by show _ = _; unfold thingD; rw [hop]; rfl
  have c2 : w.cell? ⟨Q, 2, none⟩ = some (.int .i64 20) := by rw [← hop]; exact cell_of h.blk 2 rfl
  clear h hl hop
  go_enter Tryz.func145, Tryz.ntmps145
  have HOC : Hid (∀ V, Below w.heap.size w V → Calls Tryz.prog 179 #[.pointer (some ⟨Q, 0, none⟩)] V fun r w' => r = .returned (kv (c.ofC x)) ∧ Below V.heap.size V w') := fun V hV => ofClass_any V (HL.out.below (hV.mono HL.out.bw)) (H.out.up hV) h0 h1
  obtain ⟨n, hn, hnl, hN⟩ := Cd_nat h0 h1
  have hnf : n < c.d.fields.length := by rw [hw.fl]; exact hnl
  have hfs : c.flds x = c.d.fields[n] := by unfold Lkr.flds; rw [hN, List.getElem?_eq_getElem hnf]; rfl
  rw [hfs] at h3
  obtain ⟨m, hm, hml, hM⟩ := Cd_nat h2 h3
  have HFK : Hid (c.fld x = c.d.fields[n][m].kind) := by show _ = _; unfold Lkr.fld; rw [hfs, hM, List.getElem?_eq_getElem hml]; rfl
  have hlW := HL.out
  have hF := hlW.kd.lk.F
  obtain ⟨aF, cF, eF, -⟩ := hlW.kd.lk.F
  rw [eF] at hF
  obtain ⟨bF, oF, aG, cG, e9, hbF, g0, hG⟩ := hF.atSl n hnf
  subst e9
  obtain ⟨bG, oG, e9, hbG, f0, f1, f2, -, fsz⟩ := hG.atF m hml
  subst e9
  have q0 := cell_of H.out.blk 0 (x := .pointer (some ⟨P, 0, none⟩)) rfl
  have q3 : w.cell? ⟨Q, 3, none⟩ = some (.int .i64 (n : Int)) := by rw [← hn]; exact cell_of H.out.blk 3 rfl
  have q4 : w.cell? ⟨Q, 4, none⟩ = some (.int .i64 (m : Int)) := by rw [← hm]; exact cell_of H.out.blk 4 rfl
  have p2 : w.cell? ⟨P, 2, none⟩ = some (.slice (some ⟨bF, oF, none⟩) c.d.fields.length cF) := by rw [← eF]; exact cell_of hlW.blk 2 rfl
  have lQ : Q < w.heap.size := lt_of H.out.blk
  have hcn : (n : Int) < c.d.fields.length := by omega
  have hn0 : (0 : Int) ≤ n := by omega
  have hcm : (m : Int) < c.d.fields[n].length := by omega
  have hm0 : (0 : Int) ≤ m := by omega
  have lF : F ≤ w.heap.size := H.out.ff
  have pF : P < F := Nat.lt_of_lt_of_le hlW.pB hBF
  have xF : bF < F := Nat.lt_of_lt_of_le (by have := SL.blk hF n hnf; exact this) hBF
  have yF : bG < F := Nat.lt_of_lt_of_le (by have := SL.blk hG m hml; exact this) hBF
  have HQ3 : Hid (∀ (W : World) (vL' vS' : Value) (st' : List KindD), Sp c F P Q x W vL' vS' lo st' → W.cell? ⟨Q, 3, none⟩ = some (.int .i64 (n : Int))) := fun W vL' vS' st' hp => by rw [← hn]; exact cell_of hp.blk 3 rfl
  have HQ4 : Hid (∀ (W : World) (vL' vS' : Value) (st' : List KindD), Sp c F P Q x W vL' vS' lo st' → W.cell? ⟨Q, 4, none⟩ = some (.int .i64 (m : Int))) := fun W vL' vS' st' hp => by rw [← hm]; exact cell_of hp.blk 4 rfl
  have HGF : Hid (GdK (Kn c) c.d.fields[n][m].kind) := hw.fk _ (List.getElem_mem hnf) _ (List.getElem_mem hml)
  generalize c.d.fields[n][m].kind = fk at *
  clear hlW hF eF hbF hG hbG hn hm hnl hN hM f0 h0 h1 h2 h3 hfs
  clear hml
  generalize c.d.fields[n].length = lf at *
  clear hnf
  have HSO := mkHid hsz
  obtain ⟨ko, hko⟩ : ∃ k, k = c.ofC x := ⟨_, rfl⟩
  have HKO := mkHid hko
  rw [← hko] at HOC HSO
  clear hsz hko
  go_wp2_with fail
  refine wp_region_held_drew (S := fun W' => (∀ p : Addr, p.block < F → W'.cell? p = w.cell? p) ∧ W'.cell? ⟨Q, 0, none⟩ = some (.pointer (some ⟨P, 0, none⟩)) ∧ W'.cell? ⟨Q, 3, none⟩ = some (.int .i64 (n : Int)) ∧ W'.cell? ⟨Q, 4, none⟩ = some (.int .i64 (m : Int))) (by kernel_rfl) ⟨fun p hp => rfl, q0, q3, q4⟩ fun hH => ?_
  refine tq 0 (.pointer (some ⟨Q, 0, none⟩)) rfl (by kernel_rfl) (by kernel_rfl) (fun _ _ _ h => h) ?_ hH ?_
  · intro w hSw
    obtain ⟨gF, g0, g3, g4⟩ := hSw
    go_simp
  refine tq 1 (.pointer (some ⟨Q, 0, none⟩)) rfl (by kernel_rfl) (by kernel_rfl) (fun _ _ _ h => h) ?_ hH ?_
  · intro w hSw
    obtain ⟨gF, g0, g3, g4⟩ := hSw
    go_simp
  refine tq 3 (.pointer (some ⟨Q, 0, none⟩)) rfl (by kernel_rfl) (by kernel_rfl) (fun _ _ _ h => h) ?_ hH ?_
  · intro w hSw
    obtain ⟨gF, g0, g3, g4⟩ := hSw
    go_simp
  refine tq 4 (.pointer (some ⟨Q, 0, none⟩)) rfl (by kernel_rfl) (by kernel_rfl) (fun _ _ _ h => h) ?_ hH ?_
  · intro w hSw
    obtain ⟨gF, g0, g3, g4⟩ := hSw
    go_simp
  refine tq 5 (.pointer (some ⟨Q, 0, none⟩)) rfl (by kernel_rfl) (by kernel_rfl) (fun _ _ _ h => h) ?_ hH ?_
  · intro w hSw
    obtain ⟨gF, g0, g3, g4⟩ := hSw
    go_simp
  refine tq 6 (.pointer (some ⟨P, 0, none⟩)) rfl (by kernel_rfl) (by kernel_rfl) (fun _ _ _ h => h) ?_ hH ?_
  · intro w hSw
    obtain ⟨gF, g0, g3, g4⟩ := hSw
    go_simp
  refine tq 7 (.pointer (some ⟨P, 0, none⟩)) rfl (by kernel_rfl) (by kernel_rfl) (fun _ _ _ h => h) ?_ hH ?_
  · intro w hSw
    obtain ⟨gF, g0, g3, g4⟩ := hSw
    go_simp
  refine tq 8 (.pointer (some ⟨P, 0, none⟩)) rfl (by kernel_rfl) (by kernel_rfl) (fun _ _ _ h => h) ?_ hH ?_
  · intro w hSw
    obtain ⟨gF, g0, g3, g4⟩ := hSw
    go_simp
  refine tq 9 (.pointer (some ⟨P, 0, none⟩)) rfl (by kernel_rfl) (by kernel_rfl) (fun _ _ _ h => h) ?_ hH ?_
  · intro w hSw
    obtain ⟨gF, g0, g3, g4⟩ := hSw
    go_simp
  refine tq 10 (.pointer (some ⟨P, 2, none⟩)) rfl (by kernel_rfl) (by kernel_rfl) (fun _ _ _ h => h) ?_ hH ?_
  · intro w hSw
    obtain ⟨gF, g0, g3, g4⟩ := hSw
    go_simp
  refine tq 11 (.slice (some ⟨bF, oF, none⟩) c.d.fields.length cF) rfl (by kernel_rfl) (by kernel_rfl) (fun _ _ _ h => h) ?_ hH ?_
  · intro w hSw
    obtain ⟨gF, g0, g3, g4⟩ := hSw
    go_simp
  refine tq 12 (.pointer (some ⟨Q, 0, none⟩)) rfl (by kernel_rfl) (by kernel_rfl) (fun _ _ _ h => h) ?_ hH ?_
  · intro w hSw
    obtain ⟨gF, g0, g3, g4⟩ := hSw
    go_simp
  refine tq 13 (.pointer (some ⟨Q, 0, none⟩)) rfl (by kernel_rfl) (by kernel_rfl) (fun _ _ _ h => h) ?_ hH ?_
  · intro w hSw
    obtain ⟨gF, g0, g3, g4⟩ := hSw
    go_simp
  refine tq 14 (.pointer (some ⟨Q, 1, none⟩)) rfl (by kernel_rfl) (by kernel_rfl) (fun _ _ _ h => h) ?_ hH ?_
  · intro w hSw
    obtain ⟨gF, g0, g3, g4⟩ := hSw
    go_simp
  refine tq 15 (.pointer (some ⟨Q, 3, none⟩)) rfl (by kernel_rfl) (by kernel_rfl) (fun _ _ _ h => h) ?_ hH ?_
  · intro w hSw
    obtain ⟨gF, g0, g3, g4⟩ := hSw
    go_simp
  refine tq 16 (.int .i64 (n : Int)) rfl (by kernel_rfl) (by kernel_rfl) (fun _ _ _ h => h) ?_ hH ?_
  · intro w hSw
    obtain ⟨gF, g0, g3, g4⟩ := hSw
    go_simp
  refine tq 17 (.pointer (some ⟨bF, oF + n, none⟩)) rfl (by kernel_rfl) (by kernel_rfl) (fun _ _ _ h => h) ?_ hH ?_
  · intro w hSw
    obtain ⟨gF, g0, g3, g4⟩ := hSw
    go_simp
  refine tq 18 (.slice (some ⟨bG, oG, none⟩) lf cG) rfl (by kernel_rfl) (by kernel_rfl) (fun _ _ _ h => h) ?_ hH ?_
  · intro w hSw
    obtain ⟨gF, g0, g3, g4⟩ := hSw
    go_simp
  refine tq 19 (.pointer (some ⟨Q, 0, none⟩)) rfl (by kernel_rfl) (by kernel_rfl) (fun _ _ _ h => h) ?_ hH ?_
  · intro w hSw
    obtain ⟨gF, g0, g3, g4⟩ := hSw
    go_simp
  refine tq 20 (.pointer (some ⟨Q, 0, none⟩)) rfl (by kernel_rfl) (by kernel_rfl) (fun _ _ _ h => h) ?_ hH ?_
  · intro w hSw
    obtain ⟨gF, g0, g3, g4⟩ := hSw
    go_simp
  refine tq 21 (.pointer (some ⟨Q, 1, none⟩)) rfl (by kernel_rfl) (by kernel_rfl) (fun _ _ _ h => h) ?_ hH ?_
  · intro w hSw
    obtain ⟨gF, g0, g3, g4⟩ := hSw
    go_simp
  refine tq 22 (.pointer (some ⟨Q, 4, none⟩)) rfl (by kernel_rfl) (by kernel_rfl) (fun _ _ _ h => h) ?_ hH ?_
  · intro w hSw
    obtain ⟨gF, g0, g3, g4⟩ := hSw
    go_simp
  refine tq 23 (.int .i64 (m : Int)) rfl (by kernel_rfl) (by kernel_rfl) (fun _ _ _ h => h) ?_ hH ?_
  · intro w hSw
    obtain ⟨gF, g0, g3, g4⟩ := hSw
    go_simp
  refine tq 24 (.pointer (some ⟨bG, oG + m * 3, none⟩)) rfl (by kernel_rfl) (by kernel_rfl) (fun _ _ _ h => h) ?_ hH ?_
  · intro w hSw
    obtain ⟨gF, g0, g3, g4⟩ := hSw
    go_simp
  refine tq 25 (.pointer (some ⟨bG, oG + m * 3 + 1, none⟩)) rfl (by kernel_rfl) (by kernel_rfl) (fun _ _ _ h => h) ?_ hH ?_
  · intro w hSw
    obtain ⟨gF, g0, g3, g4⟩ := hSw
    go_simp
  refine tq 26 (.agg #[.int .i64 fk.kind, .string fk.cls]) rfl (by kernel_rfl) (by kernel_rfl) (fun _ _ _ h => h) ?_ hH ?_
  · intro w hSw
    obtain ⟨gF, g0, g3, g4⟩ := hSw
    go_simp
  refine wpAnyH_ready (rs := [2]) (by kernel_rfl) (by simp) ?_
  refine AllReadyH.cons rfl (fun K2 hK2 => ?_) AllReadyH.nil
  go_simp
  refine (HOC.out _ ((Below.refl _ _).drew)).mono ?_
  rintro r u2 ⟨rfl, hu2⟩
  have HU2 : Hid (Below w.heap.size w u2) := (Below.refl _ _).drew.trans hu2
  refine hK2.out _ _ ⟨fun p hp => HU2.out.cell (Nat.lt_of_lt_of_le hp lF), (HU2.out.cell (p := ⟨Q, 0, none⟩) lQ).trans q0, (HU2.out.cell (p := ⟨Q, 3, none⟩) lQ).trans q3, (HU2.out.cell (p := ⟨Q, 4, none⟩) lQ).trans q4⟩ fun hH => ?_
  clear hu2
  refine wpAnyH_ready (rs := [27]) (by kernel_rfl) (by simp) ?_
  refine AllReadyH.cons rfl (fun K27 hK27 => ?_) AllReadyH.nil
  go_simp
  have hb27 := HU2.out.alloc HU2.out.size (.cells #[.int .i64 ko.kind, .string ko.cls, .int .i64 fk.kind, .string fk.cls] 40)
  refine hK27.out _ _ ⟨fun p hp => hb27.cell (Nat.lt_of_lt_of_le hp lF), (hb27.cell (p := ⟨Q, 0, none⟩) lQ).trans q0, (hb27.cell (p := ⟨Q, 3, none⟩) lQ).trans q3, (hb27.cell (p := ⟨Q, 4, none⟩) lQ).trans q4⟩ fun hH => ?_
  clear hb27
  refine wpAnyH_ready (rs := [28]) (by kernel_rfl) (by simp) ?_
  refine AllReadyH.cons rfl (fun K28 hK28 => ?_) AllReadyH.nil
  go_simp
  refine (takeN_any hw.cls _ (HL.out.below (HU2.out.mono HL.out.bw)) hBF (H.out.up HU2.out) (by omega) [ko, fk] _ rfl (sm2 HSO.out fsz) (by simp)).mono ?_
  rintro r w1 ⟨hb1, ⟨t1, rest1, v1, vS1, ht1, rfl, hs1, hp1⟩ | ⟨hn1, e1, p1, he1, rfl⟩⟩
  rotate_left
  · exact ⟨rfl, SpOut.fail' (by rw [HD.out, HFK.out, ← HKO.out]; exact tp_none hn1) ((HU2.out.mono H.out.ff).trans hb1) ⟨_, _, he1, rfl⟩⟩
  have HT1 := mkHid ht1
  have H1 := mkHid hp1
  have HB1 : Hid (Below F w w1) := (HU2.out.mono H.out.ff).trans hb1
  obtain ⟨aT, cT, eT, -⟩ := hs1
  subst eT
  clear ht1 hp1 hb1
  refine hK28.out _ _ ⟨fun p hp => HB1.out.cell hp, cell_of H1.out.blk 0 rfl, HQ3.out _ _ _ _ H1.out, HQ4.out _ _ _ _ H1.out⟩ fun hH => ?_
  refine wpAnyH_done (by kernel_rfl) ?_ _
  clear hH
  try simp only [Act.put, List.setIfInBounds_toArray, List.set_cons_zero, List.set_cons_succ, List.getElem_toArray, List.getElem_cons_zero, List.getElem_cons_succ]
  go_wp2_with fail
  go_end0
  exact SpOut.ok (HD.out.trans (by rw [HFK.out, ← HKO.out]; have := tp_some (lo := lo) (puts := fun _ => some []) HT1.out rfl; rwa [List.append_nil] at this)) HB1.out H1.out
end Go.Proofs.YtfibgdcpbkaaoaaGreatDoor
