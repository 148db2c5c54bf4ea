/- A step's operations: dup and swap. -/
import Derived.Test.YtfibgdcpbkaaoaaGreatDoorJVmKVmC
import Derived.Test.YtfibgdcpbkaaoaaGreatDoorTil
import Derived.Test.YtfibgdcpbkaaoaaGreatDoorTka
namespace Go.Proofs.YtfibgdcpbkaaoaaGreatDoor
open Go.RowKit Go.Maps
theorem kAt_eq {l : List KindD} {n : Nat} (h : n < l.length) : kAt l n = l[n] := by unfold kAt; rw [List.getElem?_eq_getElem h]; rfl
set_option maxRecDepth 100000 in
set_option maxHeartbeats 2000000 in
theorem stackD_6 {c : Lkr} {B F P Q : Nat} {x : Cd.Op4} {v : LkV} (hw : Wf c) (w : World) {vL vS : Value} {lo st : List KindD} (hl : LkW c B P v w) (hBF : B ≤ F) (h : Sp c F P Q x w vL vS lo st) (hst : st.length ≤ 10) (hop : x.op = 6) :
    Calls Tryz.prog 147 #[.pointer (some ⟨Q, 0, none⟩)] w fun r w' => SpOut c F P Q x (stackD c x lo st) r w w' := by
  have HU := mkHid (And.intro hw (And.intro hBF hst))
  clear HU
  have H := mkHid h
  have HL := mkHid hl
  have HD : Hid (stackD c x lo st = tpD c lo st [anyK] fun t => some [kAt t 0, kAt t 0]) := by show _ = _; unfold stackD; rw [hop]; rfl
  have c2 : w.cell? ⟨Q, 2, none⟩ = some (.int .i64 6) := by rw [← hop]; exact cell_of h.blk 2 rfl
  clear h hl hop
  go_enter Tryz.func147, Tryz.ntmps147
  obtain ⟨-, -, a0_2, a1_2, -, -, -, -, -, -, -⟩ := (HL.out).gl
  go_wp2_with fail
  refine (takeN_any hw.cls _ (HL.out) hBF H.out (by omega) [anyK] _ rfl (sm1 sm_any) (by decide)).mono ?_
  rintro r w1 ⟨hb1, ⟨t1, rest1, v1, vS1, ht1, rfl, hs1, hp1⟩ | ⟨hn1, e1, p1, he1, rfl⟩⟩
  rotate_left
  · exact ⟨rfl, SpOut.fail' (by rw [HD.out]; exact tp_none hn1) hb1 ⟨_, _, he1, rfl⟩⟩
  have HT1 := mkHid ht1
  have HS1 := mkHid hs1
  have H1 := mkHid hp1
  have HB1 := mkHid hb1
  have hst1 : rest1.length ≤ 10 := Nat.le_trans (take_len ht1).2.1 (by omega)
  clear ht1 hs1 hp1 hb1
  obtain ⟨aT, cT, eT, -⟩ := HS1.out
  subst eT
  have hlt : t1.length = 1 := (take_len HT1.out).1
  have HLT := mkHid hlt
  obtain ⟨bT, oT, eT, hbT, y00, y01, ys0⟩ := HS1.out.atK 0 (by omega)
  subst eT
  have HE0 : Hid (kAt t1 0 = t1[0]) := kAt_eq (by omega)
  have HG0 : Hid (GdK (Kn c) t1[0]) := H.out.gS _ ((take_len HT1.out).2.2.1 _ (List.getElem_mem _))
  generalize t1[0] = ka at *
  simp only [Nat.zero_mul, Nat.add_zero] at y00 y01
  rw [hlt]
  clear hlt
  go_wp2_with fail
  refine wp_region_til (fun W' => ∀ p : Addr, p.block < w1.heap.size → W'.cell? p = w1.cell? p) 7 (by kernel_rfl) (fun p hp => rfl) fun hH => ?_
  refine til_pure 0 (.pointer (some ⟨Q, 0, none⟩)) rfl (by kernel_rfl) (by kernel_rfl) (fun _ _ _ h => h) ?_ hH ?_
  · intro w
    go_simp
  refine til_pure 1 (.slice (some ⟨bT, oT, none⟩) 1 cT) rfl (by kernel_rfl) (by kernel_rfl) (fun _ _ _ h => h) ?_ hH ?_
  · intro w
    go_simp
  refine til_pure 2 (.pointer (some ⟨bT, oT, none⟩)) rfl (by kernel_rfl) (by kernel_rfl) (fun _ _ _ h => h) ?_ hH ?_
  · intro w
    go_simp
  refine til_take 3 (.agg #[.int .i64 ka.kind, .string ka.cls]) rfl (by kernel_rfl) (by kernel_rfl) (by kernel_rfl) (fun _ _ _ h => h) ?_ hH ?_
  · intro w hSw
    go_simp
  refine til_pure 4 (.slice (some ⟨bT, oT, none⟩) 1 cT) rfl (by kernel_rfl) (by kernel_rfl) (fun _ _ _ h => h) ?_ hH ?_
  · intro w
    go_simp
  refine til_pure 5 (.pointer (some ⟨bT, oT, none⟩)) rfl (by kernel_rfl) (by kernel_rfl) (fun _ _ _ h => h) ?_ hH ?_
  · intro w
    go_simp
  refine til_take 6 (.agg #[.int .i64 ka.kind, .string ka.cls]) rfl (by kernel_rfl) (by kernel_rfl) (by kernel_rfl) (fun _ _ _ h => h) ?_ hH ?_
  · intro w hSw
    go_simp
  refine til_ready (rs := [7]) (by kernel_rfl) (by simp) ?_
  refine TilR.cons rfl (fun K7 hK7 => ?_) TilR.nil
  go_simp
  refine hK7.out _ _ (fun h => absurd rfl h) ?_
  refine til_ready (rs := [8]) (by kernel_rfl) (by simp) ?_
  refine TilR.cons rfl (fun K8 hK8 => ?_) TilR.nil
  go_simp
  refine (putN_any _ (H1.out.up (Below.refl _ _).drew) [ka, ka] _ rfl (sm2 ys0 ys0) (gd2 HG0.out HG0.out) (by simp; omega)).mono ?_
  rintro r w3 ⟨rfl, hb3, vS3, hp3⟩
  have H3 := mkHid hp3
  have HB3 := mkHid (HB1.out.trans ((Below.refl _ _).drew.trans hb3))
  clear hp3 hb3
  refine hK8.out _ _ (fun _ h => absurd h (by simp)) ?_
  refine til_done (by kernel_rfl) ?_ _
  clear hH
  try simp only [Act.put, List.setIfInBounds_toArray, List.set_cons_zero, List.set_cons_succ, List.getElem_toArray, List.getElem_cons_zero, List.getElem_cons_succ]
  go_wp2_with fail
  go_end0
  exact SpOut.ok (HD.out.trans (tp_some (lo := lo) (puts := fun t => some [kAt t 0, kAt t 0]) HT1.out (by rw [HE0.out]))) HB3.out H3.out
set_option maxRecDepth 100000 in
set_option maxHeartbeats 2000000 in
theorem stackD_7 {c : Lkr} {B F P Q : Nat} {x : Cd.Op4} {v : LkV} (hw : Wf c) (w : World) {vL vS : Value} {lo st : List KindD} (hl : LkW c B P v w) (hBF : B ≤ F) (h : Sp c F P Q x w vL vS lo st) (hst : st.length ≤ 10) (hop : x.op = 7) :
    Calls Tryz.prog 147 #[.pointer (some ⟨Q, 0, none⟩)] w fun r w' => SpOut c F P Q x (stackD c x lo st) r w w' := by
  have HU := mkHid (And.intro hw (And.intro hBF hst))
  clear HU
  have H := mkHid h
  have HL := mkHid hl
  have HD : Hid (stackD c x lo st = tpD c lo st [anyK, anyK] fun t => some [kAt t 1, kAt t 0]) := by show _ = _; unfold stackD; rw [hop]; rfl
  have c2 : w.cell? ⟨Q, 2, none⟩ = some (.int .i64 7) := by rw [← hop]; exact cell_of h.blk 2 rfl
  clear h hl hop
  go_enter Tryz.func147, Tryz.ntmps147
  obtain ⟨-, -, a0_2, a1_2, -, -, -, -, -, -, -⟩ := (HL.out).gl
  go_wp2_with fail
  refine (takeN_any hw.cls _ (HL.out) hBF H.out (by omega) [anyK, anyK] _ rfl (sm2 sm_any sm_any) (by decide)).mono ?_
  rintro r w1 ⟨hb1, ⟨t1, rest1, v1, vS1, ht1, rfl, hs1, hp1⟩ | ⟨hn1, e1, p1, he1, rfl⟩⟩
  rotate_left
  · exact ⟨rfl, SpOut.fail' (by rw [HD.out]; exact tp_none hn1) hb1 ⟨_, _, he1, rfl⟩⟩
  have HT1 := mkHid ht1
  have HS1 := mkHid hs1
  have H1 := mkHid hp1
  have HB1 := mkHid hb1
  have hst1 : rest1.length ≤ 10 := Nat.le_trans (take_len ht1).2.1 (by omega)
  clear ht1 hs1 hp1 hb1
  obtain ⟨aT, cT, eT, -⟩ := HS1.out
  subst eT
  have hlt : t1.length = 2 := (take_len HT1.out).1
  have HLT := mkHid hlt
  obtain ⟨bT, oT, eT, hbT, y00, y01, ys0⟩ := HS1.out.atK 0 (by omega)
  subst eT
  have HE0 : Hid (kAt t1 0 = t1[0]) := kAt_eq (by omega)
  have HG0 : Hid (GdK (Kn c) t1[0]) := H.out.gS _ ((take_len HT1.out).2.2.1 _ (List.getElem_mem _))
  generalize t1[0] = ka at *
  simp only [Nat.zero_mul, Nat.add_zero] at y00 y01
  obtain ⟨bT2, oT2, eT, -, y10, y11, ys1⟩ := HS1.out.atK 1 (by omega)
  cases eT
  have HE1 : Hid (kAt t1 1 = t1[1]) := kAt_eq (by omega)
  have HG1 : Hid (GdK (Kn c) t1[1]) := H.out.gS _ ((take_len HT1.out).2.2.1 _ (List.getElem_mem _))
  generalize t1[1] = kb at *
  simp only [Nat.one_mul] at y10 y11
  rw [hlt]
  clear hlt
  go_wp2_with fail
  refine wp_region_til (fun W' => ∀ p : Addr, p.block < w1.heap.size → W'.cell? p = w1.cell? p) 7 (by kernel_rfl) (fun p hp => rfl) fun hH => ?_
  refine til_pure 0 (.pointer (some ⟨Q, 0, none⟩)) rfl (by kernel_rfl) (by kernel_rfl) (fun _ _ _ h => h) ?_ hH ?_
  · intro w
    go_simp
  refine til_pure 1 (.slice (some ⟨bT, oT, none⟩) 2 cT) rfl (by kernel_rfl) (by kernel_rfl) (fun _ _ _ h => h) ?_ hH ?_
  · intro w
    go_simp
  refine til_pure 2 (.pointer (some ⟨bT, oT + 2, none⟩)) rfl (by kernel_rfl) (by kernel_rfl) (fun _ _ _ h => h) ?_ hH ?_
  · intro w
    go_simp
  refine til_take 3 (.agg #[.int .i64 kb.kind, .string kb.cls]) rfl (by kernel_rfl) (by kernel_rfl) (by kernel_rfl) (fun _ _ _ h => h) ?_ hH ?_
  · intro w hSw
    go_simp
  refine til_pure 4 (.slice (some ⟨bT, oT, none⟩) 2 cT) rfl (by kernel_rfl) (by kernel_rfl) (fun _ _ _ h => h) ?_ hH ?_
  · intro w
    go_simp
  refine til_pure 5 (.pointer (some ⟨bT, oT, none⟩)) rfl (by kernel_rfl) (by kernel_rfl) (fun _ _ _ h => h) ?_ hH ?_
  · intro w
    go_simp
  refine til_take 6 (.agg #[.int .i64 ka.kind, .string ka.cls]) rfl (by kernel_rfl) (by kernel_rfl) (by kernel_rfl) (fun _ _ _ h => h) ?_ hH ?_
  · intro w hSw
    go_simp
  refine til_ready (rs := [7]) (by kernel_rfl) (by simp) ?_
  refine TilR.cons rfl (fun K7 hK7 => ?_) TilR.nil
  go_simp
  refine hK7.out _ _ (fun h => absurd rfl h) ?_
  refine til_ready (rs := [8]) (by kernel_rfl) (by simp) ?_
  refine TilR.cons rfl (fun K8 hK8 => ?_) TilR.nil
  go_simp
  refine (putN_any _ (H1.out.up (Below.refl _ _).drew) [kb, ka] _ rfl (sm2 ys1 ys0) (gd2 HG1.out HG0.out) (by simp; omega)).mono ?_
  rintro r w3 ⟨rfl, hb3, vS3, hp3⟩
  have H3 := mkHid hp3
  have HB3 := mkHid (HB1.out.trans ((Below.refl _ _).drew.trans hb3))
  clear hp3 hb3
  refine hK8.out _ _ (fun _ h => absurd h (by simp)) ?_
  refine til_done (by kernel_rfl) ?_ _
  clear hH
  try simp only [Act.put, List.setIfInBounds_toArray, List.set_cons_zero, List.set_cons_succ, List.getElem_toArray, List.getElem_cons_zero, List.getElem_cons_succ]
  go_wp2_with fail
  go_end0
  exact SpOut.ok (HD.out.trans (tp_some (lo := lo) (puts := fun t => some [kAt t 1, kAt t 0]) HT1.out (by rw [HE0.out, HE1.out]))) HB3.out H3.out
end Go.Proofs.YtfibgdcpbkaaoaaGreatDoor
/- A step's operations: load and store. -/
namespace Go.Proofs.YtfibgdcpbkaaoaaGreatDoor
open Go.RowKit Go.Maps
theorem kcs_set : ∀ (l : List KindD) (n : Nat) (k : KindD), kcs (l.set n k) = ((kcs l).set (n * 2) (.int .i64 k.kind)).set (n * 2 + 1) (.string k.cls)
  | [], n, k => by simp [kcs]
  | y :: l, 0, k => by simp [kcs]
  | y :: l, n + 1, k => by
    have := kcs_set l n k
    simp only [kcs, List.set_cons_succ, List.flatMap_cons] at *
    rw [this, show (n + 1) * 2 = n * 2 + 1 + 1 by omega]
    simp
theorem Sp.setL {c : Lkr} {F P Q : Nat} {x : Cd.Op4} {w : World} {g cL : Nat} {vS : Value} {lo st : List KindD} (h : Sp c F P Q x w (.slice (some ⟨g, 0, none⟩) lo.length cL) vS lo st) (n : Nat) (k : KindD) (hk : GdK (Kn c) k) :
    Sp c F P Q x ((w.setCell ⟨g, n * 2, none⟩ (.int .i64 k.kind)).setCell ⟨g, n * 2 + 1, none⟩ (.string k.cls)) (.slice (some ⟨g, 0, none⟩) lo.length cL) vS (lo.set n k) st ∧ Below F w ((w.setCell ⟨g, n * 2, none⟩ (.int .i64 k.kind)).setCell ⟨g, n * 2 + 1, none⟩ (.string k.cls)) := by
  have hg : F ≤ g := (h.oL.lt g rfl).1
  have hQ : Q ≠ g := fun e => h.nL (by rw [e]; rfl)
  have ns : vS.ownBlock ≠ some g := h.ne g rfl
  refine ⟨⟨?_, h.FQ, ?_, own_setK (own_setK h.oS ns) ns, h.nL, h.nS, h.ne, fun y hy => ?_, h.gS⟩, (Below.refl F w |>.setCell hg _).setCell hg _⟩
  · rw [Below.heap_setCell _ _ _ _ hQ, Below.heap_setCell _ _ _ _ hQ]
    exact h.blk
  · have := own_set (own_set h.oL (n * 2) (.int .i64 k.kind)) (n * 2 + 1) (.string k.cls)
    unfold OwnK
    rw [List.length_set, kcs_set]
    exact this
  · rcases List.mem_or_eq_of_mem_set hy with hy | rfl
    · exact h.gL y hy
    · exact hk
theorem Sp.loc {c : Lkr} {F P Q : Nat} {x : Cd.Op4} {w : World} {vL vS : Value} {lo st : List KindD} (hc : Cls c.d c.L) {B : Nat} {v : LkV} (hl : LkW c B P v w) (h : Sp c F P Q x w vL vS lo st) (n : Nat) (hn : n < lo.length) :
    ∃ g cL, vL = .slice (some ⟨g, 0, none⟩) lo.length cL ∧ g < w.heap.size ∧ F ≤ g ∧ w.cell? ⟨g, n * 2, none⟩ = some (.int .i64 lo[n].kind) ∧ w.cell? ⟨g, n * 2 + 1, none⟩ = some (.string lo[n].cls) ∧ (∀ j, w.frozen? ⟨g, j, none⟩ = false) ∧ lo[n].cls.size ≤ maxLen ∧ GdK (Kn c) lo[n] := by
  have hs := own_SLK h.oL (fun k hk => gd_small hc hl.kd (h.gL k hk))
  rcases h.oL.2 with ⟨e, hz⟩ | ⟨g, cap, cur, e, hB, hg, -⟩
  · omega
  · rw [e] at hs
    obtain ⟨b, o, e2, hb, c0, c1, sz⟩ := hs.atK n hn
    cases e2
    rw [Nat.zero_add] at c0 c1
    exact ⟨g, cap, e, hb, hB, c0, c1, frz_of hg, sz, h.gL _ (List.getElem_mem hn)⟩
set_option maxRecDepth 100000 in
set_option maxHeartbeats 2000000 in
theorem stackD_3 {c : Lkr} {B F P Q : Nat} {x : Cd.Op4} {v : LkV} (hw : Wf c) (w : World) {vL vS : Value} {lo st : List KindD} (hl : LkW c B P v w) (hBF : B ≤ F) (h : Sp c F P Q x w vL vS lo st) (hst : st.length ≤ 10) (h0 : 0 ≤ x.a) (h1 : x.a < lo.length) (hop : x.op = 3) :
    Calls Tryz.prog 147 #[.pointer (some ⟨Q, 0, none⟩)] w fun r w' => SpOut c F P Q x (stackD c x lo st) r w w' := by
  have HU := mkHid (And.intro hw (And.intro hBF hst))
  clear HU
  have H := mkHid h
  have HL := mkHid hl
  have HD : Hid (stackD c x lo st = if sameK (kAt lo x.a.toNat) anyK then none else some (lo, st ++ [kAt lo x.a.toNat])) := by show _ = _; unfold stackD; rw [hop]; rfl
  have c2 : w.cell? ⟨Q, 2, none⟩ = some (.int .i64 3) := by rw [← hop]; exact cell_of h.blk 2 rfl
  clear h hl hop
  go_enter Tryz.func147, Tryz.ntmps147
  obtain ⟨n, hn, hnl, hN⟩ := Cd_nat h0 h1
  obtain ⟨gL, cL, eL, lg, hFg, y0, y1, yf, ys, yg⟩ := Sp.loc hw.cls HL.out H.out n hnl
  subst eL
  have HE : Hid (kAt lo x.a.toNat = lo[n]) := by rw [hN]; exact kAt_eq hnl
  have HGK := mkHid yg
  have HFG := mkHid hFg
  have q3 : w.cell? ⟨Q, 3, none⟩ = some (.int .i64 (n : Int)) := by rw [← hn]; exact cell_of H.out.blk 3 rfl
  have q5 := cell_of H.out.blk 5 (x := .slice (some ⟨gL, 0, none⟩) lo.length cL) rfl
  have lQ : Q < w.heap.size := lt_of H.out.blk
  have hnl' : (n : Int) < lo.length := by omega
  have hn0 : (0 : Int) ≤ n := by omega
  have lA : 3 < w.heap.size := Nat.lt_of_le_of_lt (by decide) HL.out.gl.big
  obtain ⟨-, -, a0, a1, -, -, -, -, -, -, -⟩ := HL.out.gl
  have HSL : Hid (∀ (W : World) (vS' : Value) {st' : List KindD}, Sp c F P Q x W (.slice (some ⟨gL, 0, none⟩) lo.length cL) vS' lo st' → W.cell? ⟨Q, 3, none⟩ = some (.int .i64 (n : Int)) ∧ W.cell? ⟨Q, 5, none⟩ = some (.slice (some ⟨gL, 0, none⟩) lo.length cL) ∧ W.cell? ⟨gL, n * 2, none⟩ = some (.int .i64 lo[n].kind) ∧ W.cell? ⟨gL, n * 2 + 1, none⟩ = some (.string lo[n].cls)) := fun W vS' st' hp => by
    have hx := hp.oL.cells (g := gL) rfl
    refine ⟨by rw [← hn]; exact cell_of hp.blk 3 rfl, cell_of hp.blk 5 rfl, ?_, ?_⟩
    · have := hx (n * 2 + 0) _ (kcs_get lo n 0 hnl (by omega))
      rw [addr_add, Nat.zero_add] at this
      exact this
    · have := hx (n * 2 + 1) _ (kcs_get lo n 1 hnl (by omega))
      rw [addr_add, Nat.zero_add] at this
      exact this
  generalize lo[n] = ka at *
  have e1 : ∀ W, (binOp BinOp.neq 40 (kv ka) (.agg #[.int .i64 6, .string noNm])).run Tryz.prog W = .ok (.bool (!sameK ka anyK)) W := kindNeq ka anyK
  have eg := kindNeqG
  clear h0 h1 hn hN yg hFg
  obtain ⟨V, hV⟩ : ∃ V, V = w.drew := ⟨_, rfl⟩
  have HBV : Hid (Below w.heap.size w V) := by rw [hV]; exact (Below.refl _ _).drew
  have HV := mkHid hV
  clear hV
  go_wp2_with fail
  refine wp_region_held_drew (S := fun W' => ∀ p : Addr, p.block < w.heap.size → W'.cell? p = w.cell? p) (by kernel_rfl) (fun p hp => rfl) fun hH => ?_
  refine ta 0 (.pointer (some ⟨Q, 0, none⟩)) rfl hH ?_
  refine ta 1 (.pointer (some ⟨Q, 0, none⟩)) rfl hH ?_
  refine ta 2 (.pointer (some ⟨Q, 0, none⟩)) rfl hH ?_
  refine ta 3 (.pointer (some ⟨Q, 5, none⟩)) rfl hH ?_
  refine ta 4 (.slice (some ⟨gL, 0, none⟩) lo.length cL) rfl hH ?_
  refine ta 5 (.pointer (some ⟨Q, 0, none⟩)) rfl hH ?_
  refine ta 6 (.pointer (some ⟨Q, 0, none⟩)) rfl hH ?_
  refine ta 7 (.pointer (some ⟨Q, 1, none⟩)) rfl hH ?_
  refine ta 8 (.pointer (some ⟨Q, 3, none⟩)) rfl hH ?_
  refine ta 9 (.int .i64 (n : Int)) rfl hH ?_
  refine ta 10 (.pointer (some ⟨gL, n * 2, none⟩)) rfl hH ?_
  refine ta 11 (.agg #[.int .i64 ka.kind, .string ka.cls]) rfl hH ?_
  refine ta 12 (.agg #[.int .i64 6, .string noNm]) rfl hH ?_
  refine ta 13 (.bool (!sameK ka anyK)) rfl hH ?_
  refine wpAnyH_ready (rs := [14]) (by kernel_rfl) (by simp) ?_
  refine AllReadyH.cons rfl (fun K14 hK14 => ?_) AllReadyH.nil
  go_simp
  refine (sdemand_any _ (H.out.up (Below.refl _ _).drew) _ _).mono ?_
  rintro r u4 ⟨hu4, ⟨hb, rfl⟩ | ⟨hb, rfl⟩⟩
  · exact ⟨rfl, by rw [hu4]; exact SpOut.fail' (by rw [HD.out, HE.out, if_pos (by simpa using hb)]) ((Below.refl _ _).drew) ⟨_, _, by decide, rfl⟩⟩
  rw [hu4]
  have HOK : Hid (sameK ka anyK = false) := (by simpa using hb : sameK ka anyK = false)
  clear hb hu4 u4
  refine hK14.out _ _ (fun p hp => rfl) fun hH => ?_
  refine wpAnyH_done (by kernel_rfl) ?_ _
  clear hH
  try simp only [Act.put, List.setIfInBounds_toArray, List.set_cons_zero, List.set_cons_succ, List.getElem_toArray, List.getElem_cons_zero, List.getElem_cons_succ]
  rw [← HV.out]
  replace q3 := (HBV.out.cell (p := ⟨Q, 3, none⟩) lQ).trans q3
  replace q5 := (HBV.out.cell (p := ⟨Q, 5, none⟩) lQ).trans q5
  replace y0 := (HBV.out.cell (p := ⟨gL, n * 2, none⟩) lg).trans y0
  replace y1 := (HBV.out.cell (p := ⟨gL, n * 2 + 1, none⟩) lg).trans y1
  have lQ' := Nat.lt_of_lt_of_le lQ HBV.out.size
  have lg' := Nat.lt_of_lt_of_le lg HBV.out.size
  have H6 := mkHid (H.out.up HBV.out)
  have HB6 := mkHid (HBV.out.mono H.out.ff)
  clear a0 a1 lA yf lQ lg
  go_wp2_with fail
  refine wp_region_held_drew (S := fun W' => W'.cell? ⟨Q, 3, none⟩ = some (.int .i64 (n : Int)) ∧ W'.cell? ⟨Q, 5, none⟩ = some (.slice (some ⟨gL, 0, none⟩) lo.length cL) ∧ W'.cell? ⟨gL, n * 2, none⟩ = some (.int .i64 ka.kind) ∧ W'.cell? ⟨gL, n * 2 + 1, none⟩ = some (.string ka.cls)) (by kernel_rfl) ⟨q3, q5, y0, y1⟩ fun hH => ?_
  refine tq 0 (.pointer (some ⟨Q, 0, none⟩)) rfl (by kernel_rfl) (by kernel_rfl) (fun _ _ _ h => h) ?_ hH ?_
  · intro w hSw
    obtain ⟨g3, g5, ga0, ga1⟩ := hSw
    go_simp
  refine tq 1 (.pointer (some ⟨Q, 0, none⟩)) rfl (by kernel_rfl) (by kernel_rfl) (fun _ _ _ h => h) ?_ hH ?_
  · intro w hSw
    obtain ⟨g3, g5, ga0, ga1⟩ := hSw
    go_simp
  refine tq 2 (.pointer (some ⟨Q, 0, none⟩)) rfl (by kernel_rfl) (by kernel_rfl) (fun _ _ _ h => h) ?_ hH ?_
  · intro w hSw
    obtain ⟨g3, g5, ga0, ga1⟩ := hSw
    go_simp
  refine tq 3 (.pointer (some ⟨Q, 5, none⟩)) rfl (by kernel_rfl) (by kernel_rfl) (fun _ _ _ h => h) ?_ hH ?_
  · intro w hSw
    obtain ⟨g3, g5, ga0, ga1⟩ := hSw
    go_simp
  refine tq 4 (.slice (some ⟨gL, 0, none⟩) lo.length cL) rfl (by kernel_rfl) (by kernel_rfl) (fun _ _ _ h => h) ?_ hH ?_
  · intro w hSw
    obtain ⟨g3, g5, ga0, ga1⟩ := hSw
    go_simp
  refine tq 5 (.pointer (some ⟨Q, 0, none⟩)) rfl (by kernel_rfl) (by kernel_rfl) (fun _ _ _ h => h) ?_ hH ?_
  · intro w hSw
    obtain ⟨g3, g5, ga0, ga1⟩ := hSw
    go_simp
  refine tq 6 (.pointer (some ⟨Q, 0, none⟩)) rfl (by kernel_rfl) (by kernel_rfl) (fun _ _ _ h => h) ?_ hH ?_
  · intro w hSw
    obtain ⟨g3, g5, ga0, ga1⟩ := hSw
    go_simp
  refine tq 7 (.pointer (some ⟨Q, 1, none⟩)) rfl (by kernel_rfl) (by kernel_rfl) (fun _ _ _ h => h) ?_ hH ?_
  · intro w hSw
    obtain ⟨g3, g5, ga0, ga1⟩ := hSw
    go_simp
  refine tq 8 (.pointer (some ⟨Q, 3, none⟩)) rfl (by kernel_rfl) (by kernel_rfl) (fun _ _ _ h => h) ?_ hH ?_
  · intro w hSw
    obtain ⟨g3, g5, ga0, ga1⟩ := hSw
    go_simp
  refine tq 9 (.int .i64 (n : Int)) rfl (by kernel_rfl) (by kernel_rfl) (fun _ _ _ h => h) ?_ hH ?_
  · intro w hSw
    obtain ⟨g3, g5, ga0, ga1⟩ := hSw
    go_simp
  refine tq 10 (.pointer (some ⟨gL, n * 2, none⟩)) rfl (by kernel_rfl) (by kernel_rfl) (fun _ _ _ h => h) ?_ hH ?_
  · intro w hSw
    obtain ⟨g3, g5, ga0, ga1⟩ := hSw
    go_simp
  refine tq 11 (.agg #[.int .i64 ka.kind, .string ka.cls]) rfl (by kernel_rfl) (by kernel_rfl) (fun _ _ _ h => h) ?_ hH ?_
  · intro w hSw
    obtain ⟨g3, g5, ga0, ga1⟩ := hSw
    go_simp
  refine wpAnyH_ready (rs := [12]) (by kernel_rfl) (by simp) ?_
  refine AllReadyH.cons rfl (fun K12 hK12 => ?_) AllReadyH.nil
  go_simp
  have hb12 := ((Below.refl V.heap.size V).drew).alloc (Nat.le_refl _) (.cells #[.int .i64 ka.kind, .string ka.cls] 40)
  refine hK12.out _ _ ⟨(hb12.cell (p := ⟨Q, 3, none⟩) lQ').trans q3, (hb12.cell (p := ⟨Q, 5, none⟩) lQ').trans q5, (hb12.cell (p := ⟨gL, n * 2, none⟩) lg').trans y0, (hb12.cell (p := ⟨gL, n * 2 + 1, none⟩) lg').trans y1⟩ fun hH => ?_
  clear hb12
  refine wpAnyH_ready (rs := [13]) (by kernel_rfl) (by simp) ?_
  refine AllReadyH.cons rfl (fun K13 hK13 => ?_) AllReadyH.nil
  go_simp
  refine (putN_any _ (H6.out.up (Below.refl _ _).drew) [ka] _ rfl (sm1 ys) (gd1 HGK.out) (by simp; omega)).mono ?_
  rintro r w7 ⟨rfl, hb7, vS7, hp7⟩
  have H7 := mkHid hp7
  have HB7 := mkHid (HB6.out.trans ((Below.refl _ _).drew.trans hb7))
  have HBk : Hid (Below F _ w7) := (Below.refl _ _).drew.trans hb7
  clear hp7 hb7
  refine hK13.out _ _ ((HSL.out _ _ H7.out)) fun hH => ?_
  refine wpAnyH_done (by kernel_rfl) ?_ _
  clear hH
  try simp only [Act.put, List.setIfInBounds_toArray, List.set_cons_zero, List.set_cons_succ, List.getElem_toArray, List.getElem_cons_zero, List.getElem_cons_succ]
  go_wp2_with fail
  go_end0
  exact SpOut.ok (by rw [HD.out, HE.out, if_neg (by rw [HOK.out]; decide)]) HB7.out H7.out
set_option maxRecDepth 100000 in
set_option maxHeartbeats 2000000 in
theorem stackD_4 {c : Lkr} {B F P Q : Nat} {x : Cd.Op4} {v : LkV} (hw : Wf c) (w : World) {vL vS : Value} {lo st : List KindD} (hl : LkW c B P v w) (hBF : B ≤ F) (h : Sp c F P Q x w vL vS lo st) (hst : st.length ≤ 10) (h0 : 0 ≤ x.a) (h1 : x.a < lo.length) (hop : x.op = 4) :
    Calls Tryz.prog 147 #[.pointer (some ⟨Q, 0, none⟩)] w fun r w' => SpOut c F P Q x (stackD c x lo st) r w w' := by
  have HU := mkHid (And.intro hw (And.intro hBF hst))
  clear HU
  have H := mkHid h
  have HL := mkHid hl
  have HD : Hid (stackD c x lo st = (takeD c st [anyK]).map fun t => (lo.set x.a.toNat (kAt t.1 0), t.2)) := by show _ = _; unfold stackD; rw [hop]; rfl
  have c2 : w.cell? ⟨Q, 2, none⟩ = some (.int .i64 4) := by rw [← hop]; exact cell_of h.blk 2 rfl
  clear h hl hop
  go_enter Tryz.func147, Tryz.ntmps147
  obtain ⟨n, hn, hnl, hN⟩ := Cd_nat h0 h1
  obtain ⟨gL, cL, eL, lg, hFg, y0, y1, yf, ys, yg⟩ := Sp.loc hw.cls HL.out H.out n hnl
  subst eL
  have HE : Hid (kAt lo x.a.toNat = lo[n]) := by rw [hN]; exact kAt_eq hnl
  have HGK := mkHid yg
  have HFG := mkHid hFg
  have q3 : w.cell? ⟨Q, 3, none⟩ = some (.int .i64 (n : Int)) := by rw [← hn]; exact cell_of H.out.blk 3 rfl
  have q5 := cell_of H.out.blk 5 (x := .slice (some ⟨gL, 0, none⟩) lo.length cL) rfl
  have lQ : Q < w.heap.size := lt_of H.out.blk
  have hnl' : (n : Int) < lo.length := by omega
  have hn0 : (0 : Int) ≤ n := by omega
  have lA : 3 < w.heap.size := Nat.lt_of_le_of_lt (by decide) HL.out.gl.big
  obtain ⟨-, -, a0, a1, -, -, -, -, -, -, -⟩ := HL.out.gl
  clear y0 y1 yf ys yg HE HGK
  have HN := mkHid hn
  have HNN := mkHid hN
  clear h0 h1 hn hN hFg lg
  go_wp2_with fail
  refine wp_region_held_drew (S := fun W' => W'.cell? ⟨Q, 3, none⟩ = some (.int .i64 (n : Int)) ∧ W'.cell? ⟨Q, 5, none⟩ = some (.slice (some ⟨gL, 0, none⟩) lo.length cL) ∧ W'.cell? ⟨3, 0, none⟩ = some (.int .i64 6) ∧ W'.cell? ⟨3, 1, none⟩ = some (.string noNm)) (by kernel_rfl) ⟨q3, q5, a0, a1⟩ fun hH => ?_
  refine tq 0 (.pointer (some ⟨Q, 0, none⟩)) rfl (by kernel_rfl) (by kernel_rfl) (fun _ _ _ h => h) ?_ hH ?_
  · intro w hSw
    obtain ⟨g3, g5, ga0, ga1⟩ := hSw
    go_simp
  refine tq 1 (.pointer (some ⟨Q, 0, none⟩)) rfl (by kernel_rfl) (by kernel_rfl) (fun _ _ _ h => h) ?_ hH ?_
  · intro w hSw
    obtain ⟨g3, g5, ga0, ga1⟩ := hSw
    go_simp
  refine tq 2 (.pointer (some ⟨Q, 5, none⟩)) rfl (by kernel_rfl) (by kernel_rfl) (fun _ _ _ h => h) ?_ hH ?_
  · intro w hSw
    obtain ⟨g3, g5, ga0, ga1⟩ := hSw
    go_simp
  refine tq 3 (.slice (some ⟨gL, 0, none⟩) lo.length cL) rfl (by kernel_rfl) (by kernel_rfl) (fun _ _ _ h => h) ?_ hH ?_
  · intro w hSw
    obtain ⟨g3, g5, ga0, ga1⟩ := hSw
    go_simp
  refine tq 4 (.pointer (some ⟨Q, 0, none⟩)) rfl (by kernel_rfl) (by kernel_rfl) (fun _ _ _ h => h) ?_ hH ?_
  · intro w hSw
    obtain ⟨g3, g5, ga0, ga1⟩ := hSw
    go_simp
  refine tq 5 (.pointer (some ⟨Q, 0, none⟩)) rfl (by kernel_rfl) (by kernel_rfl) (fun _ _ _ h => h) ?_ hH ?_
  · intro w hSw
    obtain ⟨g3, g5, ga0, ga1⟩ := hSw
    go_simp
  refine tq 6 (.pointer (some ⟨Q, 1, none⟩)) rfl (by kernel_rfl) (by kernel_rfl) (fun _ _ _ h => h) ?_ hH ?_
  · intro w hSw
    obtain ⟨g3, g5, ga0, ga1⟩ := hSw
    go_simp
  refine tq 7 (.pointer (some ⟨Q, 3, none⟩)) rfl (by kernel_rfl) (by kernel_rfl) (fun _ _ _ h => h) ?_ hH ?_
  · intro w hSw
    obtain ⟨g3, g5, ga0, ga1⟩ := hSw
    go_simp
  refine tq 8 (.int .i64 (n : Int)) rfl (by kernel_rfl) (by kernel_rfl) (fun _ _ _ h => h) ?_ hH ?_
  · intro w hSw
    obtain ⟨g3, g5, ga0, ga1⟩ := hSw
    go_simp
  refine tq 9 (.pointer (some ⟨Q, 0, none⟩)) rfl (by kernel_rfl) (by kernel_rfl) (fun _ _ _ h => h) ?_ hH ?_
  · intro w hSw
    obtain ⟨g3, g5, ga0, ga1⟩ := hSw
    go_simp
  refine tq 10 (.agg #[.int .i64 6, .string noNm]) rfl (by kernel_rfl) (by kernel_rfl) (fun _ _ _ h => h) ?_ hH ?_
  · intro w hSw
    obtain ⟨g3, g5, ga0, ga1⟩ := hSw
    go_simp
  refine wpAnyH_ready (rs := [11]) (by kernel_rfl) (by simp) ?_
  refine AllReadyH.cons rfl (fun K11 hK11 => ?_) AllReadyH.nil
  go_simp
  have hb11 := ((Below.refl w.heap.size w).drew).alloc (Nat.le_refl _) (.cells #[.int .i64 6, .string noNm] 40)
  refine hK11.out _ _ ⟨(hb11.cell (p := ⟨Q, 3, none⟩) lQ).trans q3, (hb11.cell (p := ⟨Q, 5, none⟩) lQ).trans q5, (hb11.cell (p := ⟨3, 0, none⟩) lA).trans a0, (hb11.cell (p := ⟨3, 1, none⟩) lA).trans a1⟩ fun hH => ?_
  clear hb11
  refine wpAnyH_ready (rs := [12]) (by kernel_rfl) (by simp) ?_
  refine AllReadyH.cons rfl (fun K12 hK12 => ?_) AllReadyH.nil
  go_simp
  refine (takeN_any hw.cls _ (HL.out.below ((Below.refl _ _).drew)) hBF (H.out.up (Below.refl _ _).drew) (by omega) [anyK] _ rfl (sm1 sm_any) (by decide)).mono ?_
  rintro r w1 ⟨hb1, ⟨t1, rest1, v1, vS1, ht1, rfl, hs1, hp1⟩ | ⟨hn1, e1, p1, he1, rfl⟩⟩
  rotate_left
  · exact ⟨rfl, SpOut.fail' (by rw [HD.out, hn1]; rfl) ((Below.refl _ _).drew.trans hb1) ⟨_, _, he1, rfl⟩⟩
  have HB1 : Hid (Below F w w1) := (Below.refl _ _).drew.trans hb1
  obtain ⟨aT, cT, eT, -⟩ := id hs1
  subst eT
  have hlt : t1.length = 1 := (take_len ht1).1
  obtain ⟨bT, oT, eT, hbT, z0, z1, zs⟩ := hs1.atK 0 (by omega)
  subst eT
  have HE : Hid (kAt t1 0 = t1[0]) := kAt_eq (by omega)
  have HGK : Hid (GdK (Kn c) t1[0]) := H.out.gS _ ((take_len ht1).2.2.1 _ (List.getElem_mem _))
  generalize t1[0] = ka at *
  simp only [Nat.zero_mul, Nat.add_zero] at z0 z1
  rw [hlt]
  obtain ⟨gL', cL', eL', lg', -, x0, x1, xf, -, -⟩ := Sp.loc hw.cls (HL.out.below (HB1.out.mono hBF)) hp1 n hnl
  cases eL'
  have s3 : w1.cell? ⟨Q, 3, none⟩ = some (.int .i64 (n : Int)) := by rw [← HN.out]; exact cell_of hp1.blk 3 rfl
  have s5 := cell_of hp1.blk 5 (x := .slice (some ⟨gL, 0, none⟩) lo.length cL) rfl
  obtain ⟨-, -, sa0, sa1, -, -, -, -, -, -, -⟩ := (HL.out.below (HB1.out.mono hBF)).gl
  have HS3 := mkHid (Sp.setL hp1 n ka HGK.out)
  have HT1 := mkHid ht1
  have sf : ∀ j, w1.frozen? ⟨gL, j, none⟩ = false := xf
  generalize lo[n] = ko at *
  clear hb1 ht1 hs1 hlt hp1 hbT
  refine hK12.out _ _ ⟨s3, s5, sa0, sa1⟩ fun hH => ?_
  refine tq 13 (.pointer (some ⟨bT, oT, none⟩)) rfl (by kernel_rfl) (by kernel_rfl) (fun _ _ _ h => h) ?_ hH ?_
  · intro w hSw
    obtain ⟨g3, g5, ga0, ga1⟩ := hSw
    go_simp
  refine wpAnyH_ready (rs := [14]) (by kernel_rfl) (by simp) ?_
  refine AllReadyH.cons rfl (fun K14 hK14 => ?_) AllReadyH.nil
  go_simp
  refine hK14.out _ _ ⟨s3, s5, sa0, sa1⟩ fun hH => ?_
  refine tq 15 (.pointer (some ⟨gL, n * 2, none⟩)) rfl (by kernel_rfl) (by kernel_rfl) (fun _ _ _ h => h) ?_ hH ?_
  · intro w hSw
    obtain ⟨g3, g5, ga0, ga1⟩ := hSw
    go_simp
  refine wpAnyH_ready (rs := [16]) (by kernel_rfl) (by simp) ?_
  refine AllReadyH.cons rfl (fun K16 hK16 => ?_) AllReadyH.nil
  go_simp
  have hcs := fun (b o : Nat) (h : b ≠ gL) => (World.cell?_setCell_far (w1.setCell ⟨gL, n * 2, none⟩ (.int .i64 ka.kind)) ⟨gL, n * 2 + 1, none⟩ ⟨b, o, none⟩ (.string ka.cls) (fun e => h e.symm)).trans (World.cell?_setCell_far w1 ⟨gL, n * 2, none⟩ ⟨b, o, none⟩ (.int .i64 ka.kind) (fun e => h e.symm))
  have hQg : Q ≠ gL := fun e => H.out.nL (by rw [e]; rfl)
  have hAg : 3 ≠ gL := fun e => by have := HFG.out; have := HL.out.bg; omega
  refine hK16.out _ _ ⟨(hcs _ _ hQg).trans s3, (hcs _ _ hQg).trans s5, (hcs _ _ hAg).trans sa0, (hcs _ _ hAg).trans sa1⟩ fun hH => ?_
  refine wpAnyH_done (by kernel_rfl) ?_ _
  clear hH
  try simp only [Act.put, List.setIfInBounds_toArray, List.set_cons_zero, List.set_cons_succ, List.getElem_toArray, List.getElem_cons_zero, List.getElem_cons_succ]
  go_wp2_with fail
  go_end0
  exact SpOut.ok (by rw [HD.out, HT1.out, HNN.out]; show some (lo.set n (kAt t1 0), rest1) = _; rw [HE.out]) (HB1.out.trans HS3.out.2) HS3.out.1
end Go.Proofs.YtfibgdcpbkaaoaaGreatDoor
