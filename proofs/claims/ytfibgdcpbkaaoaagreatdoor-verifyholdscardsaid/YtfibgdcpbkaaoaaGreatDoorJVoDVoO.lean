/- A step's operations: throw and spawn. -/
import Derived.Test.YtfibgdcpbkaaoaaGreatDoorJVmKVmC
import Derived.Test.YtfibgdcpbkaaoaaGreatDoorTka
import Derived.Test.YtfibgdcpbkaaoaaGreatDoorJVoJVoK
import Derived.Test.YtfibgdcpbkaaoaaGreatDoorVmE
import Derived.Test.YtfibgdcpbkaaoaaGreatDoorVmG
import Derived.Test.YtfibgdcpbkaaoaaGreatDoorVmQ
namespace Go.Proofs.YtfibgdcpbkaaoaaGreatDoor
open Go.RowKit Go.Maps
theorem sm_err : (KindD.mk 3 errName).cls.size ≤ maxLen := by decide
theorem fieldArgs (n d q : ByteArray) (s : Bool) (k a b : Int) (va vh : Value) (w : World) : (Instr.field 43 (.agg #[.string n, .bool s, va, .int .i64 k, .string q, .int .i64 a, .int .i64 b, .string d, vh]) 2).run Tryz.prog w = .ok va w := by kernel_rfl
set_option maxRecDepth 100000 in
set_option maxHeartbeats 2000000 in
theorem callD_28 {c : Lkr} {B F P Q : Nat} {x : Cd.Op4} {v : LkV} (hw : Wf c) (w : World) {vL vS : Value} {lo st : List KindD} (hl : LkW c B P v w) (hBF : B ≤ F) (h : Sp c F P Q x w vL vS lo st) (hst : st.length ≤ 10) (hop : x.op = 28) :
    Calls Tryz.prog 146 #[.pointer (some ⟨Q, 0, none⟩)] w fun r w' => SpOut c F P Q x (callD c x lo st) r w w' := by
  have HU := mkHid (And.intro hw (And.intro hBF hst))
  clear HU
  have H := mkHid h
  have HL := mkHid hl
  have HD : Hid (callD c x lo st = tpD c lo st [⟨3, errName⟩] fun _ => some []) := by show _ = _; unfold callD; rw [hop]; rfl
  have c2 : w.cell? ⟨Q, 2, none⟩ = some (.int .i64 28) := by rw [← hop]; exact cell_of h.blk 2 rfl
  clear h hl hop
  go_enter Tryz.func146, Tryz.ntmps146
  go_wp2_with fail
  refine (object_any _ _).mono ?_
  rintro r w1 ⟨rfl, hb1⟩
  have H1 := mkHid (H.out.up hb1)
  have HB1 := mkHid (hb1.mono H.out.ff)
  clear hb1
  go_wp2_with fail
  refine (takeN_any hw.cls _ (HL.out.below (HB1.out.mono hBF)) hBF H1.out (by omega) [⟨3, errName⟩] _ rfl (sm1 sm_err) (by decide)).mono ?_
  rintro r w2 ⟨hb2, ⟨t2, rest2, v2, vS2, ht2, rfl, hs2, hp2⟩ | ⟨hn2, e2, p2, he2, rfl⟩⟩
  rotate_left
  · exact ⟨rfl, SpOut.fail' (by rw [HD.out]; exact tp_none hn2) (HB1.out.trans hb2) ⟨_, _, he2, rfl⟩⟩
  have HT2 := mkHid ht2
  have HS2 := mkHid hs2
  have H2 := mkHid hp2
  have HB2 := mkHid (HB1.out.trans hb2)
  have hst2 : rest2.length ≤ 10 := Nat.le_trans (take_len ht2).2.1 (by omega)
  clear ht2 hs2 hp2 hb2
  go_wp2_with fail
  go_end0
  exact SpOut.ok (HD.out.trans (by have := tp_some (lo := lo) (puts := fun _ => some []) HT2.out rfl; rwa [List.append_nil] at this)) HB2.out H2.out
set_option maxRecDepth 100000 in
set_option maxHeartbeats 2000000 in
theorem callD_34 {c : Lkr} {B F P Q : Nat} {x : Cd.Op4} {v : LkV} (hw : Wf c) (w : World) {vL vS : Value} {lo st : List KindD} (hl : LkW c B P v w) (hBF : B ≤ F) (h : Sp c F P Q x w vL vS lo st) (hst : st.length ≤ 10) (h0 : 0 ≤ x.a) (h1 : x.a < c.d.classes.length) (h2 : 0 ≤ x.b) (h3 : x.b < (c.cls x).meths.length) (hop : x.op = 34) :
    Calls Tryz.prog 146 #[.pointer (some ⟨Q, 0, none⟩)] w fun r w' => SpOut c F P Q x (callD c x lo st) r w w' := by
  have HU := mkHid (And.intro hw (And.intro hBF hst))
  clear HU
  have H := mkHid h
  have HL := mkHid hl
  have HD : Hid (callD c x lo st = tpD c lo st (c.told x).args fun _ => some []) := by show _ = _; unfold callD; rw [hop]; rfl
  have c2 : w.cell? ⟨Q, 2, none⟩ = some (.int .i64 34) := by rw [← hop]; exact cell_of h.blk 2 rfl
  clear h hl hop
  go_enter Tryz.func146, Tryz.ntmps146
  go_wp2_with fail
  refine (told_any _ (HL.out) H.out h0 h1 h2 h3).mono ?_
  rintro r w1 ⟨hb1, va, vh, rfl, hs1, -⟩
  have H1 := mkHid (H.out.up hb1)
  have HB1 := mkHid (hb1.mono H.out.ff)
  have HA1 := mkHid hs1
  obtain ⟨aA, cA, eA, -⟩ := hs1
  subst eA
  clear hb1
  have e9 := fieldArgs (c.told x).name (c.told x).code (c.told x).ret.cls (c.told x).static (c.told x).ret.kind (c.told x).stack (c.told x).locals (.slice aA (c.told x).args.length cA) vh
  unfold mv9
  go_wp2_with fail
  refine (take_any hw.cls _ (HL.out.below (HB1.out.mono hBF)) hBF H1.out (by omega) _ _ _ HA1.out).mono ?_
  rintro r w2 ⟨hb2, ⟨t2, rest2, v2, vS2, ht2, rfl, hs2, hp2⟩ | ⟨hn2, e2, p2, he2, rfl⟩⟩
  rotate_left
  · exact ⟨rfl, SpOut.fail' (by rw [HD.out]; exact tp_none hn2) (HB1.out.trans hb2) ⟨_, _, he2, rfl⟩⟩
  have HT2 := mkHid ht2
  have HS2 := mkHid hs2
  have H2 := mkHid hp2
  have HB2 := mkHid (HB1.out.trans hb2)
  have hst2 : rest2.length ≤ 10 := Nat.le_trans (take_len ht2).2.1 (by omega)
  clear ht2 hs2 hp2 hb2
  go_wp2_with fail
  go_end0
  exact SpOut.ok (HD.out.trans (by have := tp_some (lo := lo) (puts := fun _ => some []) HT2.out rfl; rwa [List.append_nil] at this)) HB2.out H2.out
end Go.Proofs.YtfibgdcpbkaaoaaGreatDoor
/- (It lies in VmT.) -/
/- A step's operations: call. -/
namespace Go.Proofs.YtfibgdcpbkaaoaaGreatDoor
open Go.RowKit Go.Maps
theorem stp_append_kinds {ops : Array Oper} {o : Oper} {a : Act} {K : Act → World → Prop} {Q : Exit → Act → World → Prop} {E : Prop} (w : World) (hgd : o.guard = none) (s x : Operand)
    (ho : o.op = .call { callee := .builtin .append, args := #[s, x], argTypes := #[38, 38] }) (base : Nat) (v : Value) (xs : List KindD) (hs : a.eval s = v) (hown : OwnK w base v xs)
    (M : Nat → Prop) (u : Value) (l : List KindD) (hx : a.eval x = u) (hu : SL 2 RK M w u l) (hb : xs.length + l.length ≤ 1000000) (hbase : base ≤ w.heap.size)
    (h : ∀ v' w', OwnK w' base v' (xs ++ l) → w.grownBy w' v.ownBlock → K (a.put o.dst v') w') : if Region.wanted o (yielded ops a.tmps) = true then Oper.wp Tryz.prog o a w K Q else E := by
  obtain ⟨iI, hiI, hzI0, hzI1, hzI2⟩ := info_parts Tryz.infoClK
  have HU := hu
  obtain ⟨ao, cl, rfl, -, -, hel⟩ := hu
  cases l with
  | nil =>
    obtain ⟨av, cv, rfl⟩ := own_shape hown
    have hoa := own_app hown
    rw [if_pos (by simp [Region.wanted, hgd])]
    have hr := run_append_none (P := Tryz.prog) w 38 o.type 40 iI Tryz.underlying38 hiI av xs.length cv hoa.1 hoa.2 ao cl
    unfold Oper.wp execOp
    simp only [ho, resolve, invoke, builtin, Sem.run_bind, Sem.run_pure, Result.andThen_ok, List.map_toArray, List.map_cons, List.map_nil, hs, hx, List.length_nil, hr]
    exact h _ _ (by simpa [OwnK] using hown) (World.grownBy.refl _ _)
  | cons y l =>
    obtain ⟨b, off, cs, e, -⟩ := hel 0 (by simp)
    subst e
    refine step_append_lies w hgd s x 38 ho base 40 iI (.agg #[.int .i64 0, .string ⟨#[]⟩]) 2 24 Tryz.underlying38 hiI hzI0 hzI1 hzI2 rfl (by decide) v xs.length (Go.Proofs.YtfibgdcpbkaaoaaGreatDoor.kcs xs) hs hown ⟨b, off, none⟩ (y :: l).length cl (Go.Proofs.YtfibgdcpbkaaoaaGreatDoor.kcs (y :: l)) hx (kcs_len _) HU.kcs (one_kcs _) (by simp) (by unfold maxLen; omega) (by omega) hbase w.heap.size rfl ?_
    intro g cap w' h1 h2 _ _
    refine h _ _ ?_ h2
    unfold OwnK
    rw [kcs_app, List.length_append]
    exact h1
theorem someD_len (k : KindD) : (someD k).length ≤ 1 := by unfold someD; split <;> simp
set_option maxRecDepth 100000 in
set_option maxHeartbeats 2000000 in
theorem callD_26 {c : Lkr} {B F P Q : Nat} {x : Cd.Op4} {v : LkV} (hw : Wf c) (w : World) {vL vS : Value} {lo st : List KindD} (hl : LkW c B P v w) (hBF : B ≤ F) (h : Sp c F P Q x w vL vS lo st) (hst : st.length ≤ 10) (h0 : 0 ≤ x.a) (h1 : x.a < c.d.classes.length) (h2 : 0 ≤ x.b) (h3 : x.b < (c.cls x).meths.length) (hsz : (c.ofC x).cls.size ≤ maxLen) (hma : (c.told x).args.length ≤ 4) (hrt : (c.told x).ret.kind = 0 ∨ GdK (Kn c) (c.told x).ret) (hop : x.op = 26) :
    Calls Tryz.prog 146 #[.pointer (some ⟨Q, 0, none⟩)] w fun r w' => SpOut c F P Q x (callD c x lo st) r w w' := by
  have HU := mkHid (And.intro hw (And.intro hBF hst))
  clear HU
  have H := mkHid h
  have HL := mkHid hl
  have HD : Hid (callD c x lo st = tpD c lo st (if (c.told x).static then (c.told x).args else c.ofC x :: (c.told x).args) fun _ => some (someD (c.told x).ret)) := by show _ = _; unfold callD; rw [hop]; rfl
  have c2 : w.cell? ⟨Q, 2, none⟩ = some (.int .i64 26) := by rw [← hop]; exact cell_of h.blk 2 rfl
  clear h hl hop
  go_enter Tryz.func146, Tryz.ntmps146
  have HOC : Hid (∀ V, Below w.heap.size w V → Calls Tryz.prog 179 #[.pointer (some ⟨Q, 0, none⟩)] V fun r w' => r = .returned (kv (c.ofC x)) ∧ Below V.heap.size V w') := fun V hV => ofClass_any V (HL.out.below (hV.mono HL.out.bw)) (H.out.up hV) h0 h1
  go_wp2_with fail
  refine (told_any _ HL.out H.out h0 h1 h2 h3).mono ?_
  rintro r w1 ⟨hb1, va, vh, rfl, hs1, hrs, ⟨az, nz, cz⟩, eH⟩
  subst eH
  obtain ⟨mm, hmm⟩ : ∃ m, m = c.told x := ⟨_, rfl⟩
  obtain ⟨ko, hko⟩ : ∃ k, k = c.ofC x := ⟨_, rfl⟩
  rw [← hmm] at hs1 hrs HD hma hrt
  rw [← hmm]
  rw [← hko] at HD HOC hsz
  have HRS := mkHid hrs
  have HRT := mkHid hrt
  have HSO := mkHid hsz
  have HA := mkHid hs1
  have HB1 := mkHid hb1
  have H1 := mkHid (H.out.up hb1)
  have HL1 := mkHid (HL.out.below (hb1.mono HL.out.bw))
  obtain ⟨aA, cA, eA, -⟩ := id hs1
  subst eA
  have lQ : Q < w1.heap.size := lt_of H1.out.blk
  have hMQ : w1.heap.size ≠ Q := by omega
  unfold mv9
  have hma9 := hma
  clear hs1 hrs hb1 h0 h1 h2 h3 hsz hma hrt hmm hko
  cases hst9 : mm.static with
  | true =>
    rw [hst9] at HD
    have HDD : Hid (callD c x lo st = tpD c lo st mm.args fun _ => some (someD mm.ret)) := HD.out
    obtain ⟨V, hV, hBV, hsV, hbM⟩ := boxes1 w1 #[.string mm.name, .bool true, .slice aA mm.args.length cA, .int .i64 mm.ret.kind, .string mm.ret.cls, .int .i64 mm.stack, .int .i64 mm.locals, .string mm.code, .slice az nz cz] 43
    have HMX := mkHid hbM
    have HVV := mkHid hV
    have HBV := mkHid hBV
    have HSX := mkHid (H1.out.up hBV)
    have HBX : Hid (Below F w V) := (HB1.out.mono H.out.ff).trans (hBV.mono H1.out.ff)
    clear hBV hsV hbM hV hst9 HD
    go_wp2_with fail
    rw [← HVV.out]
    refine (takeK_any hw.cls V (HL1.out.below (HBV.out.mono HL1.out.bw)) hBF HSX.out (by omega) _ _ _ (HA.out.keptK (Kp.below (HBV.out.mono HL1.out.bw)))).mono ?_
    rintro r w2 ⟨⟨hb2, ⟨t2, rest2, v2, vS2, ht2, rfl, hs2, hp2⟩ | ⟨hn2, e2, p2, he2, rfl⟩⟩, hkq⟩
    rotate_left
    · exact ⟨rfl, SpOut.fail' (by rw [HDD.out]; exact tp_none hn2) (HBX.out.trans hb2) ⟨_, _, he2, rfl⟩⟩
    have hbM2 := (hkq _ rfl w1.heap.size (lt_of HMX.out) hMQ).trans HMX.out
    have m3 := cell_of hbM2 3 (x := .int .i64 mm.ret.kind) rfl
    have m4 := cell_of hbM2 4 (x := .string mm.ret.cls) rfl
    have HT2 := mkHid ht2
    have H2 := mkHid hp2
    have HB2 := mkHid (HBX.out.trans hb2)
    have hst2 : rest2.length ≤ 10 := Nat.le_trans (take_len ht2).2.1 (by omega)
    obtain ⟨aT, cT, eT, -⟩ := id hs2
    subst eT
    clear ht2 hs2 hp2 hb2 hkq hbM2
    go_wp2_with fail
    refine (something_any _ mm.ret HRS.out).mono ?_
    rintro r w3 ⟨hb3, v3, rfl, hs3⟩
    obtain ⟨a3, c3, e3, -⟩ := id hs3
    subst e3
    have HS3 := mkHid hs3
    have H3 := mkHid (H2.out.up hb3)
    have HB3 := mkHid (HB2.out.trans (hb3.mono H2.out.ff))
    clear hs3 hb3
    go_wp2_with fail
    refine (put_any _ H3.out _ _ _ HS3.out (some_gd HRT.out) (by have : (someD mm.ret).length ≤ 1 := someD_len _; omega)).mono ?_
    rintro r w4 ⟨rfl, hb4, vS4, hp4⟩
    have H4 := mkHid hp4
    have HB4 := mkHid (HB3.out.trans hb4)
    clear hp4 hb4
    go_wp2_with fail
    go_end0
    exact SpOut.ok (HDD.out.trans (tp_some (lo := lo) (puts := fun _ => some (someD mm.ret)) HT2.out rfl)) HB4.out H4.out
  | false =>
    rw [hst9] at HD
    have HDD : Hid (callD c x lo st = tpD c lo st (ko :: mm.args) fun _ => some (someD mm.ret)) := HD.out
    obtain ⟨V, hV, hBV, hsV, hbM⟩ := boxes1 w1 #[.string mm.name, .bool false, .slice aA mm.args.length cA, .int .i64 mm.ret.kind, .string mm.ret.cls, .int .i64 mm.stack, .int .i64 mm.locals, .string mm.code, .slice az nz cz] 43
    have HMV := mkHid hbM
    have HVV := mkHid hV
    have HBV : Hid (Below w.heap.size w V) := HB1.out.trans (hBV.mono HB1.out.size)
    have m2 := cell_of hbM 2 (x := .slice aA mm.args.length cA) rfl
    have lM : w1.heap.size < V.heap.size := lt_of hbM
    have HA9 : Hid (∀ W, Below V.heap.size V W → SL 2 RK (· < B) W (.slice aA mm.args.length cA) mm.args) := fun W hW => HA.out.keptK (Kp.below ((hBV.trans (hW.mono hBV.size)).mono HL1.out.bw))
    clear hBV hsV hbM hV hst9 HD
    go_wp2_with fail
    rw [← HVV.out]
    refine wp_region_held_drew (S := fun W' => W'.cell? ⟨w1.heap.size, 2, none⟩ = some (.slice aA mm.args.length cA)) (by kernel_rfl) m2 fun hH => ?_
    refine ta 0 (.pointer (some ⟨Q, 0, none⟩)) rfl hH ?_
    refine ta 1 (.pointer (some ⟨Q, 0, none⟩)) rfl hH ?_
    refine ta 4 (.pointer (some ⟨w1.heap.size, 2, none⟩)) rfl hH ?_
    refine ta 5 (.slice aA mm.args.length cA) rfl hH ?_
    refine wpAnyH_ready (rs := [2]) (by kernel_rfl) (by simp) ?_
    refine AllReadyH.cons rfl (fun K2 hK2 => ?_) AllReadyH.nil
    go_simp
    refine (HOC.out _ (HBV.out.drew)).mono ?_
    rintro r u2 ⟨rfl, hu2⟩
    have HU2 : Hid (Below V.heap.size V u2) := (Below.refl _ _).drew.trans hu2
    refine hK2.out _ _ ((HU2.out.cell (p := ⟨w1.heap.size, 2, none⟩) lM).trans m2) fun hH => ?_
    clear hu2
    refine wpAnyH_ready (rs := [3]) (by kernel_rfl) (by simp) ?_
    refine AllReadyH.cons rfl (fun K3 hK3 => ?_) AllReadyH.nil
    go_simp
    obtain ⟨U3, hU3, hB3, hs3, hb3⟩ := boxes1 u2 #[.int .i64 ko.kind, .string ko.cls] 40
    rw [← hU3]
    have HB3 : Hid (Below V.heap.size V U3) := HU2.out.trans (hB3.mono HU2.out.size)
    have HO3 : Hid (OwnK U3 u2.heap.size (.slice (some ⟨u2.heap.size, 0, none⟩) 1 1) [ko]) := ⟨rfl, Or.inr ⟨_, _, _, rfl, Nat.le_refl _, hb3, Nat.le_refl _, by decide, rfl, rfl⟩⟩
    have hz3 : u2.heap.size ≤ U3.heap.size := by omega
    have hz2 : V.heap.size ≤ u2.heap.size := HU2.out.size
    refine hK3.out _ _ ((HB3.out.cell (p := ⟨w1.heap.size, 2, none⟩) lM).trans m2) fun hH => ?_
    clear hU3 hB3 hs3 hb3
    refine wpAnyH_ready (rs := [6]) (by kernel_rfl) (by simp) ?_
    refine AllReadyH.cons rfl (fun K6 hK6 => ?_) AllReadyH.nil
    refine stp_append_kinds U3 rfl (.tmp 21) (.tmp 23) rfl u2.heap.size (.slice (some ⟨u2.heap.size, 0, none⟩) 1 1) [ko] (by go_simp) HO3.out (· < B) (.slice aA mm.args.length cA) mm.args (by go_simp) (HA9.out _ HB3.out) (by simp; omega) hz3 ?_
    intro va U6 ho6 hg6
    have HB6 : Hid (Below V.heap.size V U6) := HB3.out.grown hg6 HB3.out.size (fun k e => by cases e; exact hz2)
    have HBw : Hid (Below w.heap.size w U6) := HBV.out.trans (HB6.out.mono HBV.out.size)
    have HS6 : Hid (SL 2 RK (fun b => va.ownBlock = some b) U6 va ([ko] ++ mm.args)) := own_SLK ho6 (fun k hk => by
      rcases List.mem_append.1 hk with hk | hk
      · simp at hk; rw [hk]; exact HSO.out
      · exact (HA.out).small k hk)
    obtain ⟨a6, c6, e6⟩ := own_shape ho6
    subst e6
    have HMX := mkHid ((HB6.out.block _ lM).trans HMV.out)
    have HSX := mkHid (H.out.up HBw.out)
    have HBX := mkHid (HBw.out.mono H.out.ff)
    clear ho6 hg6
    refine hK6.out _ _ ((HB6.out.cell (p := ⟨w1.heap.size, 2, none⟩) lM).trans m2) fun hH => ?_
    refine wpAnyH_ready (rs := [7]) (by kernel_rfl) (by simp) ?_
    refine AllReadyH.cons rfl (fun K7 hK7 => ?_) AllReadyH.nil
    go_simp
    refine (takeK_any hw.cls U6 (HL.out.below (HBw.out.mono HL.out.bw)) hBF HSX.out (by omega) _ _ _ HS6.out).mono ?_
    rintro r w2 ⟨⟨hb2, ⟨t2, rest2, v2, vS2, ht2, rfl, hs2, hp2⟩ | ⟨hn2, e2, p2, he2, rfl⟩⟩, hkq⟩
    rotate_left
    · exact ⟨rfl, SpOut.fail' (by rw [HDD.out]; exact tp_none hn2) (HBX.out.trans hb2) ⟨_, _, he2, rfl⟩⟩
    have hbM2 := (hkq _ rfl w1.heap.size (lt_of HMX.out) hMQ).trans HMX.out
    have m3 := cell_of hbM2 3 (x := .int .i64 mm.ret.kind) rfl
    have m4 := cell_of hbM2 4 (x := .string mm.ret.cls) rfl
    have HT2 := mkHid ht2
    have H2 := mkHid hp2
    have HB2 := mkHid (HBX.out.trans hb2)
    have hst2 : rest2.length ≤ 10 := Nat.le_trans (take_len ht2).2.1 (by omega)
    obtain ⟨aT, cT, eT, -⟩ := id hs2
    subst eT
    have HM2 : Hid (w2.cell? ⟨w1.heap.size, 2, none⟩ = some (.slice aA mm.args.length cA)) := cell_of hbM2 2 rfl
    clear ht2 hs2 hp2 hb2 hkq hbM2
    refine hK7.out _ _ HM2.out fun hH => ?_
    refine wpAnyH_done (by kernel_rfl) ?_ _
    clear hH
    try simp only [Act.put, List.setIfInBounds_toArray, List.set_cons_zero, List.set_cons_succ, List.getElem_toArray, List.getElem_cons_zero, List.getElem_cons_succ]
    go_wp2_with fail
    refine (something_any _ mm.ret HRS.out).mono ?_
    rintro r w3 ⟨hb3, v3, rfl, hs3⟩
    obtain ⟨a3, c3, e3, -⟩ := id hs3
    subst e3
    have HS3 := mkHid hs3
    have H3 := mkHid (H2.out.up hb3)
    have HB3 := mkHid (HB2.out.trans (hb3.mono H2.out.ff))
    clear hs3 hb3
    go_wp2_with fail
    refine (put_any _ H3.out _ _ _ HS3.out (some_gd HRT.out) (by have : (someD mm.ret).length ≤ 1 := someD_len _; omega)).mono ?_
    rintro r w4 ⟨rfl, hb4, vS4, hp4⟩
    have H4 := mkHid hp4
    have HB4 := mkHid (HB3.out.trans hb4)
    clear hp4 hb4
    go_wp2_with fail
    go_end0
    exact SpOut.ok (HDD.out.trans (tp_some (lo := lo) (puts := fun _ => some (someD mm.ret)) HT2.out rfl)) HB4.out H4.out
end Go.Proofs.YtfibgdcpbkaaoaaGreatDoor
/- What operations' runs are: calls. -/
namespace Go.Proofs.YtfibgdcpbkaaoaaGreatDoor
open Go.RowKit Go.Maps
theorem told_mem {c : Lkr} {x : Cd.Op4} (h0 : 0 ≤ x.a) (h1 : x.a < c.d.classes.length) (h2 : 0 ≤ x.b) (h3 : x.b < (c.cls x).meths.length) : ∃ k ∈ c.d.classes, c.told x ∈ k.meths := by
  obtain ⟨n, hn, hnl, hN⟩ := Cd_nat h0 h1
  have hcl : c.cls x = c.d.classes[n] := by unfold Lkr.cls; rw [hN, clsAt_eq hnl]
  rw [hcl] at h3
  obtain ⟨k, hk, hkl, hK⟩ := Cd_nat h2 h3
  rw [told_is hnl hkl hN hK]
  exact ⟨_, List.getElem_mem hnl, List.getElem_mem hkl⟩
theorem callG {c : Lkr} {B F P Q : Nat} {x : Cd.Op4} {v : LkV} (hw : Wf c) (w : World) {vL vS : Value} {lo st : List KindD} (hl : LkW c B P v w) (hBF : B ≤ F) (h : Sp c F P Q x w vL vS lo st) (hst : st.length ≤ 10) {n : Int} (hn : n = 26 ∨ n = 28 ∨ n = 32) (hop : x.op = n) (hxa : x.op ≠ 1 → 0 ≤ x.a) (hxb : 0 ≤ x.b) (ht : tellsD c x lo.length = true) :
    Calls Tryz.prog 146 #[.pointer (some ⟨Q, 0, none⟩)] w fun r w' => SpOut c F P Q x (callD c x lo st) r w w' := by
  have ha : x.op ≠ 1 → 0 ≤ x.a := hxa
  unfold tellsD at ht
  rcases hn with rfl | rfl | rfl <;> rw [hop] at ht
  · rw [if_neg (by decide), if_neg (by decide), if_neg (by decide), if_pos (by decide)] at ht
    rw [Bool.and_eq_true, decide_eq_true_iff, decide_eq_true_iff] at ht
    have h1 := ht.1
    obtain ⟨k, hk, hm⟩ := told_mem (c := c) (ha (by rw [hop]; decide)) h1 hxb ht.2
    exact callD_26 hw w hl hBF h hst (ha (by rw [hop]; decide)) h1 hxb ht.2 (gd_small hw.cls hl.kd (ofC_gd hw (ha (by rw [hop]; decide)) h1)) (hw.ma k hk _ hm) (hw.mr k hk _ hm) hop
  · exact callD_28 hw w hl hBF h hst hop
  · exact callD_32 hw w hl hBF h hst hop
set_option maxRecDepth 100000 in
set_option maxHeartbeats 4000000 in
theorem run_call {c : Lkr} {B P : Nat} {v : LkV} (hw : Wf c) {x : Cd.Op4} {n : Int} (hn : n = 26 ∨ n = 28 ∨ n = 32) (hop : x.op = n) (hxa : x.op ≠ 1 → 0 ≤ x.a) (hxb : 0 ≤ x.b) : RunOk c B P v x := by
  rcases hn with rfl | rfl | rfl
  all_goals
    intro W F Q vL vS lo st hl hBF h hst hlo
    have HU := mkHid hlo
    clear HU
    have H := mkHid h
    have HL := mkHid hl
    have HW := mkHid hw
    have HTL := mkHid (tells_any W hl h hw.fl hxa)
    have HF : Hid (F ≤ W.heap.size) := h.ff
    have HBF := mkHid hBF
    cases ht : tellsD c x lo.length with
    | false =>
      have HRD : Hid (runD c x lo st = none) := by show _ = _; unfold runD; rw [ht]; rfl
      rw [ht] at HTL
      clear h hl
      go_enter Tryz.func92, Tryz.ntmps92
      go_wp2_with fail
      refine HTL.out.mono ?_
      rintro r w1 ⟨rfl, hb1⟩
      have HB1 := mkHid hb1
      clear hb1
      go_wp2_with fail
      refine (sdemand_any _ (H.out.up HB1.out) _ _).mono ?_
      rintro r w2 ⟨hw2, ⟨hb, rfl⟩ | ⟨hb, rfl⟩⟩
      · exact ⟨rfl, by rw [hw2]; exact SpOut.fail' HRD.out (HB1.out.mono HF.out) ⟨3, _, by decide, rfl⟩⟩
      · exact absurd hb (by simp)
    | true =>
      have HRD : Hid (runD c x lo st = (callD c x lo st).bind fun r => if decide ((r.2.length : Int) ≤ c.m.stack) then some r else none) := by
        show _ = _
        unfold runD spawnD workD
        rw [ht, hop]
        rfl
      rw [ht] at HTL
      clear h hl
      go_enter Tryz.func92, Tryz.ntmps92
      go_wp2_with fail
      refine HTL.out.mono ?_
      rintro r w1 ⟨rfl, hb1⟩
      have HB1 := mkHid hb1
      have H1 := mkHid (H.out.up hb1)
      have HL1 := mkHid (HL.out.below (hb1.mono HL.out.bw))
      clear hb1
      go_wp2_with fail
      refine (sdemand_any _ H1.out _ _).mono ?_
      rintro r w2 ⟨hw2, ⟨hb, rfl⟩ | ⟨hb, rfl⟩⟩
      · exact absurd hb (by simp)
      rw [hw2]
      clear hb hw2 w2
      have c2 := cell_of H1.out.blk 2 (x := .int .i64 x.op) rfl
      rw [hop] at c2
      go_wp2_with fail
      refine (callG hw w1 HL1.out hBF H1.out hst (by decide) hop hxa hxb ht).mono ?_
      rintro r w3 ⟨hb3, ⟨⟨lo3, st3⟩, vL3, vS3, hr3, rfl, hp3⟩ | ⟨hr3, e3, p3, he3, rfl⟩⟩
      rotate_left
      · exact ⟨rfl, SpOut.fail' (by rw [HRD.out, hr3]; rfl) ((HB1.out.mono HF.out).trans hb3) ⟨e3, p3, he3, rfl⟩⟩
      have hres3 := mkHid hr3
      have HB3 := mkHid ((HB1.out.mono HF.out).trans hb3)
      have H3 := mkHid hp3
      have hp3' : Sp c F P Q x w3 vL3 vS3 lo3 st3 := hp3
      obtain ⟨aS3, cS3, rfl⟩ := own_shape hp3'.oS
      have HL3 := mkHid (HL1.out.below (hb3.mono HBF.out))
      have q0 := cell_of hp3'.blk 0 (x := .pointer (some ⟨P, 0, none⟩)) rfl
      have q6 := cell_of hp3'.blk 6 (x := .slice aS3 st3.length cS3) rfl
      have p11 := cell_of HL3.out.blk 11 (x := .int .i64 c.m.stack) rfl
      have lQ : Q < w3.heap.size := lt_of hp3'.blk
      have lP : P < w3.heap.size := lt_of HL3.out.blk
      clear hb3 hr3 hp3 hp3' c2 hop
      go_wp2_with fail
      refine wp_region_held_drew (S := fun W' => ∀ p : Addr, p.block < w3.heap.size → W'.cell? p = w3.cell? p) (by kernel_rfl) (fun p hp => rfl) fun hH => ?_
      refine ta 0 (.pointer (some ⟨Q, 0, none⟩)) rfl hH ?_
      refine ta 1 (.pointer (some ⟨Q, 0, none⟩)) rfl hH ?_
      refine ta 2 (.pointer (some ⟨Q, 0, none⟩)) rfl hH ?_
      refine ta 3 (.pointer (some ⟨Q, 6, none⟩)) rfl hH ?_
      refine ta 4 (.slice aS3 st3.length cS3) rfl hH ?_
      refine ta 5 (.int .i64 st3.length) rfl hH ?_
      refine ta 6 (.pointer (some ⟨Q, 0, none⟩)) rfl hH ?_
      refine ta 7 (.pointer (some ⟨Q, 0, none⟩)) rfl hH ?_
      refine ta 8 (.pointer (some ⟨Q, 0, none⟩)) rfl hH ?_
      refine ta 9 (.pointer (some ⟨P, 0, none⟩)) rfl hH ?_
      refine ta 10 (.pointer (some ⟨P, 0, none⟩)) rfl hH ?_
      refine ta 11 (.pointer (some ⟨P, 6, none⟩)) rfl hH ?_
      refine ta 12 (.pointer (some ⟨P, 11, none⟩)) rfl hH ?_
      refine ta 13 (.int .i64 c.m.stack) rfl hH ?_
      refine ta 14 (.bool (decide ((st3.length : Int) ≤ c.m.stack))) rfl hH ?_
      refine wpAnyH_ready (rs := [15]) (by kernel_rfl) (by simp) ?_
      refine AllReadyH.cons rfl (fun K15 hK15 => ?_) AllReadyH.nil
      go_simp
      refine (sdemand_any _ (H3.out.up (Below.refl _ _).drew) _ _).mono ?_
      rintro r w4 ⟨hw4, ⟨hb, rfl⟩ | ⟨hb, rfl⟩⟩
      · exact ⟨rfl, by rw [hw4]; exact SpOut.fail' (by rw [HRD.out, hres3.out]; show (if decide ((st3.length : Int) ≤ c.m.stack) = true then _ else _) = _; rw [hb]; rfl) HB3.out.drew ⟨2, _, by decide, rfl⟩⟩
      rw [hw4]
      have HOK4 := mkHid hb
      clear hb hw4 w4
      refine hK15.out _ _ (fun p hp => rfl) fun hH => ?_
      refine wpAnyH_done (by kernel_rfl) ?_ _
      clear hH
      try simp only [Act.put, List.setIfInBounds_toArray, List.set_cons_zero, List.set_cons_succ, List.getElem_toArray, List.getElem_cons_zero, List.getElem_cons_succ]
      go_wp2_with fail
      go_end0
      exact SpOut.ok (by rw [HRD.out, hres3.out]; show (if decide ((st3.length : Int) ≤ c.m.stack) = true then _ else _) = _; rw [HOK4.out]; rfl) HB3.out.drew (H3.out.up (Below.refl _ _).drew)
end Go.Proofs.YtfibgdcpbkaaoaaGreatDoor
/- What operations' runs are: spawn. -/
namespace Go.Proofs.YtfibgdcpbkaaoaaGreatDoor
open Go.RowKit Go.Maps
set_option maxRecDepth 100000 in
set_option maxHeartbeats 4000000 in
theorem run_34 {c : Lkr} {B P : Nat} {v : LkV} (hw : Wf c) {x : Cd.Op4} (hop : x.op = 34) (hxa : x.op ≠ 1 → 0 ≤ x.a) (hxb : 0 ≤ x.b) : RunOk c B P v x := by
  intro W F Q vL vS lo st hl hBF h hst hlo
  have HU := mkHid hlo
  clear HU
  have H := mkHid h
  have HL := mkHid hl
  have HW := mkHid hw
  have HTL := mkHid (tells_any W hl h hw.fl hxa)
  have HF : Hid (F ≤ W.heap.size) := h.ff
  have HBF := mkHid hBF
  cases ht : tellsD c x lo.length with
  | false =>
    have HRD : Hid (runD c x lo st = none) := by show _ = _; unfold runD; rw [ht]; rfl
    rw [ht] at HTL
    clear h hl
    go_enter Tryz.func92, Tryz.ntmps92
    go_wp2_with fail
    refine HTL.out.mono ?_
    rintro r w1 ⟨rfl, hb1⟩
    have HB1 := mkHid hb1
    clear hb1
    go_wp2_with fail
    refine (sdemand_any _ (H.out.up HB1.out) _ _).mono ?_
    rintro r w2 ⟨hw2, ⟨hb, rfl⟩ | ⟨hb, rfl⟩⟩
    · exact ⟨rfl, by rw [hw2]; exact SpOut.fail' HRD.out (HB1.out.mono HF.out) ⟨3, _, by decide, rfl⟩⟩
    · exact absurd hb (by simp)
  | true =>
    have HT0 : Hid (0 ≤ x.a ∧ x.a < c.d.classes.length ∧ x.b < (c.cls x).meths.length) := by
      have ht0 := ht
      unfold tellsD at ht0
      rw [hop, if_neg (by decide), if_neg (by decide), if_neg (by decide), if_pos (by decide), Bool.and_eq_true, decide_eq_true_iff, decide_eq_true_iff] at ht0
      exact ⟨hxa (by rw [hop]; decide), ht0.1, ht0.2⟩
    have HSD : Hid (runD c x lo st = if ((c.told x).static && decide ((c.told x).ret.kind = 0)) then (callD c x lo st).bind fun r => if decide ((r.2.length : Int) ≤ c.m.stack) then some r else none else none) := by
      show _ = _
      unfold runD spawnD workD
      rw [ht, hop]
      rfl
    rw [ht] at HTL
    clear h hl
    go_enter Tryz.func92, Tryz.ntmps92
    go_wp2_with fail
    refine HTL.out.mono ?_
    rintro r w1 ⟨rfl, hb1⟩
    have HB1 := mkHid hb1
    have H1 := mkHid (H.out.up hb1)
    have HL1 := mkHid (HL.out.below (hb1.mono HL.out.bw))
    clear hb1
    go_wp2_with fail
    refine (sdemand_any _ H1.out _ _).mono ?_
    rintro r w2 ⟨hw2, ⟨hb, rfl⟩ | ⟨hb, rfl⟩⟩
    · exact absurd hb (by simp)
    rw [hw2]
    clear hb hw2 w2
    have c2 : w1.cell? ⟨Q, 2, none⟩ = some (.int .i64 34) := by rw [← hop]; exact cell_of H1.out.blk 2 rfl
    go_wp2_with fail
    refine (told_any _ HL1.out H1.out HT0.out.1 HT0.out.2.1 hxb HT0.out.2.2).mono ?_
    rintro r u1 ⟨hu1, va, vh, rfl, hs1, hrs, ⟨az, nz, cz⟩, eH⟩
    subst eH
    obtain ⟨mm, hmm⟩ : ∃ m, m = c.told x := ⟨_, rfl⟩
    rw [← hmm] at hs1 HSD
    rw [← hmm]
    obtain ⟨aA, cA, eA, -⟩ := id hs1
    subst eA
    unfold mv9
    cases hms : mm.static with
    | false =>
      rw [hms] at HSD
      obtain ⟨V, hV, hBV, hsV, hbM⟩ := boxes1 u1 #[.string mm.name, .bool false, .slice aA mm.args.length cA, .int .i64 mm.ret.kind, .string mm.ret.cls, .int .i64 mm.stack, .int .i64 mm.locals, .string mm.code, .slice az nz cz] 43
      have HVV := mkHid hV
      have HBV : Hid (Below w1.heap.size w1 V) := hu1.trans (hBV.mono hu1.size)
      have H6 := mkHid (H1.out.up HBV.out)
      have HL6 := mkHid (HL1.out.below (HBV.out.mono HL1.out.bw))
      have HB6 := mkHid (HB1.out.trans (HBV.out.mono HB1.out.size))
      clear hu1 hs1 hrs hBV hsV hbM hV hmm hms c2
      have HDM : Hid (∀ b e, Calls Tryz.prog 93 #[.pointer (some ⟨Q, 0, none⟩), .bool b, .int .i64 e] V fun r w' => w' = V ∧ DemOut b e x.loc r) := fun b e => sdemand_any V H6.out b e
      clear hop
      go_wp2_with fail
      rw [← HVV.out]
      refine (HDM.out _ _).mono ?_
      rintro r w5 ⟨hw5, ⟨hb, rfl⟩ | ⟨hb, rfl⟩⟩
      · exact ⟨rfl, by rw [hw5]; exact SpOut.fail' (by rw [HSD.out]; rfl) (HB6.out.mono HF.out) ⟨7, _, by decide, rfl⟩⟩
      · exact absurd hb (by simp)
    | true =>
      rw [hms] at HSD
      obtain ⟨V, hV, hBV, hsV, hbM⟩ := boxes1 u1 #[.string mm.name, .bool true, .slice aA mm.args.length cA, .int .i64 mm.ret.kind, .string mm.ret.cls, .int .i64 mm.stack, .int .i64 mm.locals, .string mm.code, .slice az nz cz] 43
      have HVV := mkHid hV
      have HBV : Hid (Below w1.heap.size w1 V) := hu1.trans (hBV.mono hu1.size)
      have H6 := mkHid (H1.out.up HBV.out)
      have HL6 := mkHid (HL1.out.below (HBV.out.mono HL1.out.bw))
      have HB6 := mkHid (HB1.out.trans (HBV.out.mono HB1.out.size))
      clear hu1 hs1 hrs hBV hsV hbM hV hmm hms c2
      have HDM : Hid (∀ b e, Calls Tryz.prog 93 #[.pointer (some ⟨Q, 0, none⟩), .bool b, .int .i64 e] V fun r w' => w' = V ∧ DemOut b e x.loc r) := fun b e => sdemand_any V H6.out b e
      go_wp2_with fail
      rw [← HVV.out]
      refine (HDM.out _ _).mono ?_
      rintro r w5 ⟨hw5, ⟨hb, rfl⟩ | ⟨hb, rfl⟩⟩
      · exact ⟨rfl, by rw [hw5]; exact SpOut.fail' (by rw [HSD.out, show decide (mm.ret.kind = 0) = false by simpa using hb]; rfl) (HB6.out.mono HF.out) ⟨7, _, by decide, rfl⟩⟩
      have HRD : Hid (runD c x lo st = (callD c x lo st).bind fun r => if decide ((r.2.length : Int) ≤ c.m.stack) then some r else none) := by
        show _ = _
        rw [HSD.out]
        have hb' : mm.ret.kind = 0 := by simpa using hb
        simp [hb']
      rw [hw5]
      clear hb hw5 w5
      have c2 : V.cell? ⟨Q, 2, none⟩ = some (.int .i64 34) := by rw [← hop]; exact cell_of H6.out.blk 2 rfl
      go_wp2_with fail
      refine (callD_34 hw V HL6.out hBF H6.out hst HT0.out.1 HT0.out.2.1 hxb HT0.out.2.2 hop).mono ?_
      rintro r w3 ⟨hb3, ⟨⟨lo3, st3⟩, vL3, vS3, hr3, rfl, hp3⟩ | ⟨hr3, e3, p3, he3, rfl⟩⟩
      rotate_left
      · exact ⟨rfl, SpOut.fail' (by rw [HRD.out, hr3]; rfl) ((HB6.out.mono HF.out).trans hb3) ⟨e3, p3, he3, rfl⟩⟩
      have hres3 := mkHid hr3
      have HB3 := mkHid ((HB6.out.mono HF.out).trans hb3)
      have H3 := mkHid hp3
      have hp3' : Sp c F P Q x w3 vL3 vS3 lo3 st3 := hp3
      obtain ⟨aS3, cS3, rfl⟩ := own_shape hp3'.oS
      have HL3 := mkHid (HL6.out.below (hb3.mono HBF.out))
      have q0 := cell_of hp3'.blk 0 (x := .pointer (some ⟨P, 0, none⟩)) rfl
      have q6 := cell_of hp3'.blk 6 (x := .slice aS3 st3.length cS3) rfl
      have p11 := cell_of HL3.out.blk 11 (x := .int .i64 c.m.stack) rfl
      have lQ : Q < w3.heap.size := lt_of hp3'.blk
      have lP : P < w3.heap.size := lt_of HL3.out.blk
      clear hb3 hr3 hp3 hp3' c2 hop
      go_wp2_with fail
      refine wp_region_held_drew (S := fun W' => ∀ p : Addr, p.block < w3.heap.size → W'.cell? p = w3.cell? p) (by kernel_rfl) (fun p hp => rfl) fun hH => ?_
      refine ta 0 (.pointer (some ⟨Q, 0, none⟩)) rfl hH ?_
      refine ta 1 (.pointer (some ⟨Q, 0, none⟩)) rfl hH ?_
      refine ta 2 (.pointer (some ⟨Q, 0, none⟩)) rfl hH ?_
      refine ta 3 (.pointer (some ⟨Q, 6, none⟩)) rfl hH ?_
      refine ta 4 (.slice aS3 st3.length cS3) rfl hH ?_
      refine ta 5 (.int .i64 st3.length) rfl hH ?_
      refine ta 6 (.pointer (some ⟨Q, 0, none⟩)) rfl hH ?_
      refine ta 7 (.pointer (some ⟨Q, 0, none⟩)) rfl hH ?_
      refine ta 8 (.pointer (some ⟨Q, 0, none⟩)) rfl hH ?_
      refine ta 9 (.pointer (some ⟨P, 0, none⟩)) rfl hH ?_
      refine ta 10 (.pointer (some ⟨P, 0, none⟩)) rfl hH ?_
      refine ta 11 (.pointer (some ⟨P, 6, none⟩)) rfl hH ?_
      refine ta 12 (.pointer (some ⟨P, 11, none⟩)) rfl hH ?_
      refine ta 13 (.int .i64 c.m.stack) rfl hH ?_
      refine ta 14 (.bool (decide ((st3.length : Int) ≤ c.m.stack))) rfl hH ?_
      refine wpAnyH_ready (rs := [15]) (by kernel_rfl) (by simp) ?_
      refine AllReadyH.cons rfl (fun K15 hK15 => ?_) AllReadyH.nil
      go_simp
      refine (sdemand_any _ (H3.out.up (Below.refl _ _).drew) _ _).mono ?_
      rintro r w4 ⟨hw4, ⟨hb, rfl⟩ | ⟨hb, rfl⟩⟩
      · exact ⟨rfl, by rw [hw4]; exact SpOut.fail' (by rw [HRD.out, hres3.out]; show (if decide ((st3.length : Int) ≤ c.m.stack) = true then _ else _) = _; rw [hb]; rfl) HB3.out.drew ⟨2, _, by decide, rfl⟩⟩
      rw [hw4]
      have HOK4 := mkHid hb
      clear hb hw4 w4
      refine hK15.out _ _ (fun p hp => rfl) fun hH => ?_
      refine wpAnyH_done (by kernel_rfl) ?_ _
      clear hH
      try simp only [Act.put, List.setIfInBounds_toArray, List.set_cons_zero, List.set_cons_succ, List.getElem_toArray, List.getElem_cons_zero, List.getElem_cons_succ]
      go_wp2_with fail
      go_end0
      exact SpOut.ok (by rw [HRD.out, hres3.out]; show (if decide ((st3.length : Int) ≤ c.m.stack) = true then _ else _) = _; rw [HOK4.out]; rfl) HB3.out.drew (H3.out.up (Below.refl _ _).drew)
end Go.Proofs.YtfibgdcpbkaaoaaGreatDoor
