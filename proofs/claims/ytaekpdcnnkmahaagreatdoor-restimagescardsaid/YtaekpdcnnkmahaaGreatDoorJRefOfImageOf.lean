/- The contracts of the document's small functions on bytes. -/
import Derived.Test.YtaekpdcnnkmahaaGreatDoorJWrWrAll
import Derived.Test.YtaekpdcnnkmahaaGreatDoorGrow
import Derived.Test.YtaekpdcnnkmahaaGreatDoorFine
namespace Go.Proofs.YtaekpdcnnkmahaaGreatDoor
open Go.RowKit

theorem countOf_any (w : World) (n : Int) : Calls Tryz.prog 42 #[.int .i64 n] w fun r w' => r = .returned (.string ⟨[toB n].toArray⟩) ∧ Below w.heap.size w w' := by
  have ew : IntKind.u8.wrap n = n % 256 := by
    simp [IntKind.wrap, IntKind.bits, IntKind.signed]
  have hcv := run_convert_bytes_back (P := Tryz.prog) (w.alloc (.cells #[.int .u8 (n % 256)] 5)) 111 9 5 ⟨w.heap.size, 0, none⟩ 1 [toB n] Tryz.underlying111 Tryz.underlying5 Tryz.underlying9 (fun j hj => by
    have h0 : j = 0 := by simp at hj; omega
    subst h0
    simp [Addr.add, toB_toNat])
  have hcv' : (convert 111 9 (.slice (some ⟨w.heap.size, 0, none⟩) 1 1)).run Tryz.prog (w.alloc (.cells #[.int .u8 (n % 256)] 5)) = .ok (.string ⟨[toB n].toArray⟩) (w.alloc (.cells #[.int .u8 (n % 256)] 5)) := hcv
  clear hcv
  go_enter Tryz.func42, Tryz.ntmps42
  go_wp2
  go_ret
  exact ⟨rfl, (Below.refl _ _).alloc (Nat.le_refl _) _⟩

theorem twoOf_any (w : World) (n : Int) (h0 : 0 ≤ n) (h1 : n ≤ 65535) : Calls Tryz.prog 45 #[.int .i64 n] w fun r w' => r = .returned (.string ⟨[toB (n / 256), toB n].toArray⟩) ∧ Below w.heap.size w w' := by
  have hcv := run_convert_bytes_back (P := Tryz.prog) (w.alloc (.cells #[.int .u8 (n / 256), .int .u8 (n % 256)] 5)) 111 9 5 ⟨w.heap.size, 0, none⟩ 2 [toB (n / 256), toB n] Tryz.underlying111 Tryz.underlying5 Tryz.underlying9 (fun j hj => by
    have hj2 : j < 2 := by simpa using hj
    match j, hj2 with
    | 0, _ => simp [Addr.add, toB_toNat]; omega
    | 1, _ => simp [Addr.add, toB_toNat])
  have hcv' : (convert 111 9 (.slice (some ⟨w.heap.size, 0, none⟩) 2 2)).run Tryz.prog (w.alloc (.cells #[.int .u8 (n / 256), .int .u8 (n % 256)] 5)) = .ok (.string ⟨[toB (n / 256), toB n].toArray⟩) (w.alloc (.cells #[.int .u8 (n / 256), .int .u8 (n % 256)] 5)) := hcv
  clear hcv
  go_enter Tryz.func45, Tryz.ntmps45
  go_wp2
  go_ret
  exact ⟨rfl, (Below.refl _ _).alloc (Nat.le_refl _) _⟩

/-- The text of bytes. -/
abbrev Bx (bs : List UInt8) : ByteArray := ⟨bs.toArray⟩
theorem Bx_append (a b : List UInt8) : Bx a ++ Bx b = Bx (a ++ b) := by simp [Bx, ByteArray.mk_append_mk]
theorem Bx_data (s : ByteArray) : s = Bx s.data.toList := by
  obtain ⟨⟨l⟩⟩ := s
  rfl
theorem Bx_size (bs : List UInt8) : (Bx bs).size = bs.length := rfl

theorem twoOfB_any (w : World) (n : Int) (h0 : 0 ≤ n) (h1 : n ≤ 65535) : Calls Tryz.prog 45 #[.int .i64 n] w fun r w' => r = .returned (.string (Bx (wTwo n))) ∧ Below w.heap.size w w' := twoOf_any w n h0 h1

theorem textOf_any (w : World) (s : ByteArray) (hs : s.size ≤ 4611686018427387904) : Calls Tryz.prog 43 #[.string s] w fun r w' => r = .returned (.string (Bx (wText s))) ∧ Below w.heap.size w w' := by
  have hsum : ¬ (1 + s.size > 9223372036854775807) := by omega
  go_enter Tryz.func43, Tryz.ntmps43
  go_wp2_with fail
  refine (countOf_any _ _).mono ?_
  rintro r w1 ⟨rfl, hB⟩
  go_wp2
  go_ret
  refine ⟨?_, hB⟩
  show Ending.returned (.string (Bx [toB s.size] ++ s)) = _
  conv => lhs; rw [Bx_data s]
  rw [Bx_append]
  rfl

set_option maxHeartbeats 1000000 in
theorem kindOf_any (w : World) (k : KindD) (hs : k.cls.size ≤ 1000000) : Calls Tryz.prog 44 #[.agg #[.int .i64 k.kind, .string k.cls]] w fun r w' => r = .returned (.string (Bx (wKind k))) ∧ Below w.heap.size w w' := by
  obtain ⟨n, s⟩ := k
  dsimp only at *
  have hb := (Below.refl w.heap.size w).alloc (Nat.le_refl _) (.cells #[.int .i64 n, .string s] 51)
  cases hc : hasCls n
  · have HC := mkHid (wKind_no (k := ⟨n, s⟩) hc)
    have b3 : (n == 3) = false := by simp [hasCls] at hc; simp [hc]
    have b4 : (n == 4) = false := by simp [hasCls] at hc; simp [hc]
    clear hc
    go_enter Tryz.func44, Tryz.ntmps44
    go_wp2_with fail
    refine (countOf_any _ _).mono ?_
    rintro r w1 ⟨rfl, hB⟩
    go_wp2
    go_ret
    exact ⟨by rw [HC.out]; rfl, hb.trans (hB.mono (by simp))⟩
  · have HC := mkHid (wKind_yes (k := ⟨n, s⟩) hc)
    have h34 : (n == 3) = true ∨ ((n == 3) = false ∧ (n == 4) = true) := by
      have h : n = 3 ∨ n = 4 := by simpa [hasCls] using hc
      rcases h with rfl | rfl
      · exact Or.inl rfl
      · exact Or.inr ⟨rfl, rfl⟩
    clear hc
    have hsum : ¬ (1 + (wText s).length > 9223372036854775807) := by rw [len_wText]; omega
    generalize hW : w.alloc (.cells #[.int .i64 n, .string s] 51) = W0 at *
    have c0 : ∀ g : Gr (w.heap.size + 1) W0, g.w.cell? ⟨w.heap.size, 0, none⟩ = some (.int .i64 n) := fun g => (g.ok.cell (p := ⟨w.heap.size, 0, none⟩) (by simp)).trans (by rw [← hW]; simp [go_sem])
    have c1 : ∀ g : Gr (w.heap.size + 1) W0, g.w.cell? ⟨w.heap.size, 1, none⟩ = some (.string s) := fun g => (g.ok.cell (p := ⟨w.heap.size, 1, none⟩) (by simp)).trans (by rw [← hW]; simp [go_sem])
    have d0 : W0.cell? ⟨w.heap.size, 0, none⟩ = some (.int .i64 n) := by rw [← hW]; simp [go_sem]
    have hz : w.heap.size + 1 ≤ W0.heap.size := by rw [← hW]; simp
    have hne : Nonempty (Gr (w.heap.size + 1) W0) := ⟨⟨W0, Below.refl _ _⟩⟩
    rcases h34 with b3 | ⟨b3, b4⟩
    all_goals
      go_enter Tryz.func44, Tryz.ntmps44
      go_wp2_with fail
      refine wp_region_grow_lit (w.heap.size + 1) W0 (by kernel_rfl) (by kernel_rfl) (Below.refl _ _) ?_
      repeat (go_big_quiet_step (first | exact Gr.calls _ hz (countOf_any _ _) | exact Gr.calls _ hz (textOf_any _ _ (by omega))))
      refine wpQuiet_nil ?_
      intro _ hw'
      obtain ⟨g, rfl⟩ := hw'
      have hg := g.ok
      generalize g.w = w2 at *
      go_wp2
      go_ret
      exact ⟨by rw [HC.out]; simp [Bx, ByteArray.mk_append_mk], hb.trans (hg.mono (by omega))⟩

end Go.Proofs.YtaekpdcnnkmahaaGreatDoor
/- The contract of the document's own image of classes. -/
namespace Go.Proofs.YtaekpdcnnkmahaaGreatDoor
open Go.RowKit

theorem mem_get {α : Type} {l : List α} {k : Nat} (h : k < l.length) : l[k] ∈ l := List.getElem_mem h

set_option maxRecDepth 100000 in
set_option maxHeartbeats 40000000 in
theorem imageOf_any (w : World) (B : Nat) (l : List ClassD) (v : Value) (hv : SL 4 RC (· < B) w v l) (hB : B ≤ w.heap.size) (hc : checkL l = 0) :
    Calls Tryz.prog 11 #[v] w fun r w' => r = .returned (.string (Bx (wImage l))) ∧ Below w.heap.size w w' := by
  have hfine := (list_fine hc).2
  have hlen := (list_fine hc).1
  clear hc
  have HV := mkHid hv
  obtain ⟨ao, cl, rfl, hcl, hll, -⟩ := hv
  go_enter Tryz.func11, Tryz.ntmps11
  go_wp2_with fail
  refine (countOf_any _ _).mono ?_
  rintro r w0 ⟨rfl, hB00⟩
  go_wp2_with fail
  go_loopw [3, 4] (fun s i wr => ∃ (k : Nat) (acc : List UInt8), k ≤ l.length ∧ i = .int .i64 k ∧ s = .string (Bx acc) ∧ acc.length ≤ 1 + 4400 * k ∧ Hid (acc = toB l.length :: (l.take k).flatMap wClass) ∧ Below w.heap.size w wr) (fun _ i _ => l.length - (intOf i).toNat)
  case atStart => exact ⟨0, [toB l.length], Nat.zero_le _, rfl, rfl, by simp, rfl, hB00⟩
  case round =>
    obtain ⟨k, acc, hk, rfl, rfl, hacc, HAC, hBr⟩ := hrel
    have hszr := hBr.size
    by_cases hlt : k < l.length
    rotate_left
    · go_wp2_with fail
      go_ret
      refine ⟨?_, hBr⟩
      have e : acc = wImage l := by rw [HAC.out, List.take_of_length_le (by omega)]; rfl
      rw [e]
      rfl
    have hfc := hfine _ (mem_get hlt)
    obtain ⟨b, off, vf, vm, rfl, hbl, e0, e1, e2, e3, ef, em, es1, es2⟩ := (HV.out.keptC (Kp.below (hBr.mono hB))).atC k hlt
    have HNX := mkHid (show toB l.length :: (l.take (k + 1)).flatMap wClass = (toB l.length :: (l.take k).flatMap wClass) ++ wClass l[k] by rw [flat_snoc wClass l k hlt]; rfl)
    generalize l[k] = c at *
    obtain ⟨name, super, fields, meths⟩ := c
    obtain ⟨fn1, fn2, fn3, fn4, fn5, fn6⟩ := hfc
    dsimp only at *
    have HF4 := mkHid fn4
    have HF6 := mkHid fn6
    clear fn4 fn6
    have EF := mkHid ef
    have EM := mkHid em
    obtain ⟨fo, cf, rfl, hcf, hlf, -⟩ := ef
    obtain ⟨mo, cm, rfl, hcm, hlm, -⟩ := em
    clear hcf hlf hcm hlm
    have hbc : (wClass ⟨name, super, fields, meths⟩).length ≤ 4400 := class_bound ⟨fn1, fn2, fn3, HF4.out, fn5, HF6.out⟩
    have HBC := mkHid hbc
    have hn1 := len_wText name
    have hn2 := len_wText super
    clear hbc
    generalize hW : wr.alloc (.cells #[.string name, .string super, .slice fo fields.length cf, .slice mo meths.length cm] 61) = W0
    have hz : wr.heap.size + 1 ≤ W0.heap.size := by rw [← hW]; simp
    have hB0 : Below wr.heap.size wr W0 := by rw [← hW]; exact (Below.refl wr.heap.size wr).alloc (Nat.le_refl _) _
    have hBw : Below w.heap.size w W0 := hBr.trans (hB0.mono hszr)
    have hne : Nonempty (Gr (wr.heap.size + 1) W0) := ⟨⟨W0, Below.refl _ _⟩⟩
    have c0 : ∀ g : Gr (wr.heap.size + 1) W0, g.w.cell? ⟨wr.heap.size, 0, none⟩ = some (.string name) := fun g => (g.ok.cell (p := ⟨wr.heap.size, 0, none⟩) (by simp)).trans (by rw [← hW]; simp [go_sem])
    have c1 : ∀ g : Gr (wr.heap.size + 1) W0, g.w.cell? ⟨wr.heap.size, 1, none⟩ = some (.string super) := fun g => (g.ok.cell (p := ⟨wr.heap.size, 1, none⟩) (by simp)).trans (by rw [← hW]; simp [go_sem])
    have c2 : ∀ g : Gr (wr.heap.size + 1) W0, g.w.cell? ⟨wr.heap.size, 2, none⟩ = some (.slice fo fields.length cf) := fun g => (g.ok.cell (p := ⟨wr.heap.size, 2, none⟩) (by simp)).trans (by rw [← hW]; simp [go_sem])
    have c3 : ∀ g : Gr (wr.heap.size + 1) W0, g.w.cell? ⟨wr.heap.size, 3, none⟩ = some (.slice mo meths.length cm) := fun g => (g.ok.cell (p := ⟨wr.heap.size, 3, none⟩) (by simp)).trans (by rw [← hW]; simp [go_sem])
    go_wp2_with fail
    refine wp_region_grow_lit (wr.heap.size + 1) W0 (by kernel_rfl) (by kernel_rfl) (Below.refl _ _) ?_
    repeat (go_big_quiet_step (first | (go_at_call 42; exact Gr.calls _ hz (countOf_any _ _)) | (go_at_call_of 43 name; exact Gr.calls _ hz (textOf_any _ name (by omega))) | (go_at_call_of 43 super; exact Gr.calls _ hz (textOf_any _ super (by omega)))))
    refine wpQuiet_nil ?_
    intro _ hw'
    obtain ⟨g1, rfl⟩ := hw'
    have hg1 := g1.ok
    generalize g1.w = w1 at *
    clear g1
    go_wp2_with fail
    go_loopw [3, 6] (fun s i wi => ∃ (j : Nat) (ac : List UInt8), j ≤ fields.length ∧ i = .int .i64 j ∧ s = .string (Bx ac) ∧ ac.length ≤ 45000 + 43 * j ∧ Hid (ac = acc ++ (wText name ++ wText super ++ [toB fields.length]) ++ (fields.take j).flatMap wField) ∧ Below (wr.heap.size + 1) W0 wi) (fun _ i _ => fields.length - (intOf i).toNat)
    case atStart => exact ⟨0, acc ++ (wText name ++ wText super ++ [toB fields.length]), Nat.zero_le _, rfl, by simp [Bx, ByteArray.mk_append_mk], by simp; omega, by simp [mkHid], hg1⟩
    case round =>
      rename World => wi
      obtain ⟨j, ac, hj, rfl, rfl, hac, HA2, hBi⟩ := hrel
      have hszi : wr.heap.size + 1 ≤ wi.heap.size := by have := hBi.size; omega
      have d2 := c2 ⟨wi, hBi⟩
      by_cases hltj : j < fields.length
      · have hff := HF4.out _ (mem_get hltj)
        obtain ⟨b2, off2, rfl, hbl2, x0, x1, x2, et1, et2⟩ := (EF.out.keptF (Kp.below ((hB0.trans (hBi.mono (by omega))).mono (by omega)))).atF j hltj
        have HNX2 := mkHid (flat_snoc wField fields j hltj)
        have hb3 := field_bound hff
        have HB3 := mkHid hb3
        obtain ⟨q1, q2⟩ := hff
        have hk2 := q2.2.2.1
        have hkb := kind_bound q2
        clear q2
        have ht2 := len_wText fields[j].name
        have hne2 : Nonempty (Gr wi.heap.size wi) := ⟨⟨wi, Below.refl _ _⟩⟩
        have y2 : ∀ g : Gr wi.heap.size wi, g.w.cell? ⟨wr.heap.size, 2, none⟩ = some (.slice (some ⟨b2, off2, none⟩) fields.length cf) := fun g => (g.ok.cell (p := ⟨wr.heap.size, 2, none⟩) (by simp; omega)).trans d2
        have z0 : ∀ g : Gr wi.heap.size wi, g.w.cell? ⟨b2, off2 + j * 3, none⟩ = some (.string fields[j].name) := fun g => (g.ok.cell (p := ⟨b2, _, none⟩) hbl2).trans x0
        have z1 : ∀ g : Gr wi.heap.size wi, g.w.cell? ⟨b2, off2 + j * 3 + 1, none⟩ = some (.int .i64 fields[j].kind.kind) := fun g => (g.ok.cell (p := ⟨b2, _, none⟩) hbl2).trans x1
        have z2 : ∀ g : Gr wi.heap.size wi, g.w.cell? ⟨b2, off2 + j * 3 + 2, none⟩ = some (.string fields[j].kind.cls) := fun g => (g.ok.cell (p := ⟨b2, _, none⟩) hbl2).trans x2
        go_wp2_with fail
        refine wp_region_grow_lit (wi.heap.size) wi (by kernel_rfl) (by kernel_rfl) (Below.refl _ _) ?_
        repeat (go_big_quiet_step (first | (go_at_call 43; exact Gr.calls _ (Nat.le_refl _) (textOf_any _ fields[j].name (by omega))) | (go_at_call 44; exact Gr.calls _ (Nat.le_refl _) (kindOf_any _ fields[j].kind (by omega)))))
        refine wpQuiet_nil ?_
        intro _ hw'
        obtain ⟨g2, rfl⟩ := hw'
        have hg2 := g2.ok
        generalize g2.w = w2 at *
        clear g2
        have hBi2 := hBi.trans (hg2.mono hszi)
        clear hBi hg2 x0 x1 x2 y2 z0 z1 z2 d2
        go_wp2_with fail
        go_roundw
        case rel => exact ⟨j + 1, ac ++ wField fields[j], by omega, by go_num, by simp [Bx, ByteArray.mk_append_mk, wField], by have := HB3.out; simp only [List.length_append]; omega, by show _ = _; rw [HA2.out, HNX2.out, List.append_assoc], hBi2⟩
        case measure => simp [intOf]; omega
      · have HP2 := mkHid (show ac = acc ++ (wText name ++ wText super ++ wCounted wField fields) by rw [HA2.out, List.take_of_length_le (by omega), wCounted]; simp)
        have d3 := c3 ⟨wi, hBi⟩
        clear HA2
        go_wp2_with fail
        refine (countOf_any _ _).mono ?_
        rintro r w3 ⟨rfl, hb3⟩
        have hB3 := hBi.trans (hb3.mono hszi)
        clear hb3 hBi d2 d3 hszi
        have hsm : ¬ (ac.length + 1 > 9223372036854775807) := by omega
        go_wp2_with fail
        go_loopw [3, 7] (fun s i wi => ∃ (j : Nat) (am : List UInt8), j ≤ meths.length ∧ i = .int .i64 j ∧ s = .string (Bx am) ∧ am.length ≤ 46000 + 500 * j ∧ Hid (am = ac ++ [toB meths.length] ++ (meths.take j).flatMap wMeth) ∧ Below (wr.heap.size + 1) W0 wi) (fun _ i _ => meths.length - (intOf i).toNat)
        case atStart => exact ⟨0, ac ++ [toB meths.length], Nat.zero_le _, rfl, by simp [Bx, ByteArray.mk_append_mk], by simp; omega, by simp [mkHid], hB3⟩
        case round =>
          rename World => wm
          obtain ⟨jm, am, hjm, rfl, rfl, ham, HAM, hBm⟩ := hrel
          have hszm : wr.heap.size + 1 ≤ wm.heap.size := by have := hBm.size; omega
          have d3 := c3 ⟨wm, hBm⟩
          by_cases hltm : jm < meths.length
          rotate_left
          · have hl2 : acc.length + (wClass ⟨name, super, fields, meths⟩).length ≤ 1 + 4400 * (k + 1) := by have := HBC.out; omega
            have HE := mkHid (show am = acc ++ wClass ⟨name, super, fields, meths⟩ by
              rw [HAM.out, HP2.out, List.take_of_length_le (by omega), wClass, wCounted]
              simp [wCounted])
            go_wp2_with fail
            go_roundw
            case rel => exact ⟨k + 1, am, by omega, by go_num, rfl, by rw [HE.out, List.length_append]; exact hl2, by show _ = _; rw [HE.out, HNX.out, HAC.out], hBw.trans (hBm.mono (by omega))⟩
            case measure => simp [intOf]; omega
          have hfm := HF6.out _ (mem_get hltm)
          obtain ⟨b2, off2, va, vh, rfl, hbl2, x0, x1, x2, x3, x4, x5, x6, x7, x8, ea, eh, et1, et2, et3⟩ := (EM.out.keptM (Kp.below ((hB0.trans (hBm.mono (by omega))).mono (by omega)))).atM jm hltm
          have HNM := mkHid (flat_snoc wMeth meths jm hltm)
          have HBM := mkHid (meth_bound hfm)
          generalize meths[jm] = m at *
          obtain ⟨mname, static, args, ⟨rk, rc⟩, stack, locals, code, hands⟩ := m
          obtain ⟨fm1, fm2, fm3, fm4, fm5, fm6, fm7, fm8, fm9⟩ := hfm
          dsimp only at *
          have HM3 := mkHid fm3
          have HM9 := mkHid fm9
          have hkr := kind_bound fm4
          have hrc := fm4.2.2.1
          dsimp only at hrc
          clear fm3 fm9 fm4
          have EA := mkHid ea
          have EH := mkHid eh
          obtain ⟨ao, ca, rfl, hca, hla, -⟩ := ea
          obtain ⟨ho, ch, rfl, hch, hlh, -⟩ := eh
          clear hca hla hch hlh
          have hn3 := len_wText mname
          generalize hW2 : wm.alloc (.cells #[.string mname, .bool static, .slice ao args.length ca, .int .i64 rk, .string rc, .int .i64 stack, .int .i64 locals, .string code, .slice ho hands.length ch] 76) = W2
          have hz2 : wm.heap.size + 1 ≤ W2.heap.size := by rw [← hW2]; simp
          have hB2 : Below wm.heap.size wm W2 := by rw [← hW2]; exact (Below.refl wm.heap.size wm).alloc (Nat.le_refl _) _
          have hBc2 : Below (wr.heap.size + 1) W0 W2 := hBm.trans (hB2.mono (by omega))
          have m0 : ∀ g : Gr (wm.heap.size + 1) W2, g.w.cell? ⟨wm.heap.size, 0, none⟩ = some (.string mname) := fun g => (g.ok.cell (p := ⟨wm.heap.size, 0, none⟩) (by simp)).trans (by rw [← hW2]; simp [go_sem])
          have m1 : ∀ g : Gr (wm.heap.size + 1) W2, g.w.cell? ⟨wm.heap.size, 1, none⟩ = some (.bool static) := fun g => (g.ok.cell (p := ⟨wm.heap.size, 1, none⟩) (by simp)).trans (by rw [← hW2]; simp [go_sem])
          have m2 : ∀ g : Gr (wm.heap.size + 1) W2, g.w.cell? ⟨wm.heap.size, 2, none⟩ = some (.slice ao args.length ca) := fun g => (g.ok.cell (p := ⟨wm.heap.size, 2, none⟩) (by simp)).trans (by rw [← hW2]; simp [go_sem])
          have m3 : ∀ g : Gr (wm.heap.size + 1) W2, g.w.cell? ⟨wm.heap.size, 3, none⟩ = some (.int .i64 rk) := fun g => (g.ok.cell (p := ⟨wm.heap.size, 3, none⟩) (by simp)).trans (by rw [← hW2]; simp [go_sem])
          have m4 : ∀ g : Gr (wm.heap.size + 1) W2, g.w.cell? ⟨wm.heap.size, 4, none⟩ = some (.string rc) := fun g => (g.ok.cell (p := ⟨wm.heap.size, 4, none⟩) (by simp)).trans (by rw [← hW2]; simp [go_sem])
          have m5 : ∀ g : Gr (wm.heap.size + 1) W2, g.w.cell? ⟨wm.heap.size, 5, none⟩ = some (.int .i64 stack) := fun g => (g.ok.cell (p := ⟨wm.heap.size, 5, none⟩) (by simp)).trans (by rw [← hW2]; simp [go_sem])
          have m6 : ∀ g : Gr (wm.heap.size + 1) W2, g.w.cell? ⟨wm.heap.size, 6, none⟩ = some (.int .i64 locals) := fun g => (g.ok.cell (p := ⟨wm.heap.size, 6, none⟩) (by simp)).trans (by rw [← hW2]; simp [go_sem])
          have m7 : ∀ g : Gr (wm.heap.size + 1) W2, g.w.cell? ⟨wm.heap.size, 7, none⟩ = some (.string code) := fun g => (g.ok.cell (p := ⟨wm.heap.size, 7, none⟩) (by simp)).trans (by rw [← hW2]; simp [go_sem])
          have m8 : ∀ g : Gr (wm.heap.size + 1) W2, g.w.cell? ⟨wm.heap.size, 8, none⟩ = some (.slice ho hands.length ch) := fun g => (g.ok.cell (p := ⟨wm.heap.size, 8, none⟩) (by simp)).trans (by rw [← hW2]; simp [go_sem])
          have n0 := m0 ⟨W2, Below.refl _ _⟩
          have n1 := m1 ⟨W2, Below.refl _ _⟩
          go_wp2_with fail
          refine (textOf_any _ mname (by omega)).mono ?_
          rintro r w4 ⟨rfl, hb4⟩
          have hB4 : Below (wm.heap.size + 1) W2 w4 := hb4.mono hz2
          clear hb4 x0 x1 x2 x3 x4 x5 x6 x7 x8 d3 n0 n1
          have n1 := m1 ⟨w4, hB4⟩
          have hs4 : wm.heap.size + 1 ≤ w4.heap.size := by have := hB4.size; omega
          have hsm2 : ¬ (am.length + (wText mname).length > 9223372036854775807) := by omega
          cases static
          · go_wp2_with fail
            refine (countOf_any _ _).mono ?_
            rintro r w5 ⟨rfl, hb5⟩
            have hB5 := hB4.trans (hb5.mono hs4)
            have hs5 : wm.heap.size + 1 ≤ w5.heap.size := by have := hB5.size; omega
            have n2 := m2 ⟨w5, hB5⟩
            have hsm3 : ¬ (am.length + (wText mname).length + 1 > 9223372036854775807) := by omega
            go_wp2_with fail
            refine (countOf_any _ _).mono ?_
            rintro r w6 ⟨rfl, hb6⟩
            have hB6 := hB5.trans (hb6.mono hs5)
            have hsm4 : ¬ (am.length + (wText mname).length + 1 + 1 > 9223372036854775807) := by omega
            clear hB5 hb5 hb6 hs5 n2 hB4 n1 hs4
            go_wp2_with fail
            go_loopw [3, 9] (fun s i wi => ∃ (j : Nat) (aa : List UInt8), j ≤ args.length ∧ i = .int .i64 j ∧ s = .string (Bx aa) ∧ aa.length ≤ 51000 + 22 * j ∧ Hid (aa = am ++ wText mname ++ wFlag false ++ [toB args.length] ++ (args.take j).flatMap wKind) ∧ Below (wm.heap.size + 1) W2 wi) (fun _ i _ => args.length - (intOf i).toNat)
            case atStart => exact ⟨0, am ++ wText mname ++ wFlag false ++ [toB args.length], Nat.zero_le _, rfl, by simp [Bx, ByteArray.mk_append_mk, wFlag, toB], by simp [wFlag]; omega, by simp [mkHid], hB6⟩
            case round =>
              rename World => wa
              obtain ⟨ja, aa, hja, rfl, rfl, haa, HAA, hBa⟩ := hrel
              have hsza : wm.heap.size + 1 ≤ wa.heap.size := by have := hBa.size; omega
              have n2 := m2 ⟨wa, hBa⟩
              by_cases hlta : ja < args.length
              · have hfa := HM3.out _ (mem_get hlta)
                obtain ⟨b3, off3, rfl, hbl3, x0, x1, et4⟩ := (EA.out.keptK (Kp.below ((hB2.trans (hBa.mono (by omega))).mono (by omega)))).atK ja hlta
                have HNA := mkHid (flat_snoc wKind args ja hlta)
                have hkb := kind_bound hfa
                have hks := hfa.2.2.1
                clear hfa
                go_wp2_with fail
                refine (kindOf_any _ args[ja] (by omega)).mono ?_
                rintro r w7 ⟨rfl, hb7⟩
                have hB7 := hBa.trans (hb7.mono hsza)
                clear hb7 hBa x0 x1 n2
                have hsm5 : ¬ (aa.length + (wKind args[ja]).length > 9223372036854775807) := by omega
                go_wp2_with fail
                go_roundw
                case rel => exact ⟨ja + 1, aa ++ wKind args[ja], by omega, by go_num, by simp [Bx, ByteArray.mk_append_mk], by simp only [List.length_append]; omega, by show _ = _; rw [HAA.out, HNA.out, List.append_assoc], hB7⟩
                case measure => simp [intOf]; omega
              · have HPA := mkHid (show aa = am ++ (wText mname ++ wFlag false ++ wCounted wKind args) by rw [HAA.out, List.take_of_length_le (by omega), wCounted]; simp)
                clear HAA
                have hne3 : Nonempty (Gr wa.heap.size wa) := ⟨⟨wa, Below.refl _ _⟩⟩
                have p3 : ∀ g : Gr wa.heap.size wa, g.w.cell? ⟨wm.heap.size, 3, none⟩ = some (.int .i64 rk) := fun g => (g.ok.cell (p := ⟨wm.heap.size, 3, none⟩) (by simp; omega)).trans (m3 ⟨wa, hBa⟩)
                have p4 : ∀ g : Gr wa.heap.size wa, g.w.cell? ⟨wm.heap.size, 4, none⟩ = some (.string rc) := fun g => (g.ok.cell (p := ⟨wm.heap.size, 4, none⟩) (by simp; omega)).trans (m4 ⟨wa, hBa⟩)
                have p5 : ∀ g : Gr wa.heap.size wa, g.w.cell? ⟨wm.heap.size, 5, none⟩ = some (.int .i64 stack) := fun g => (g.ok.cell (p := ⟨wm.heap.size, 5, none⟩) (by simp; omega)).trans (m5 ⟨wa, hBa⟩)
                have p6 : ∀ g : Gr wa.heap.size wa, g.w.cell? ⟨wm.heap.size, 6, none⟩ = some (.int .i64 locals) := fun g => (g.ok.cell (p := ⟨wm.heap.size, 6, none⟩) (by simp; omega)).trans (m6 ⟨wa, hBa⟩)
                have p7 : ∀ g : Gr wa.heap.size wa, g.w.cell? ⟨wm.heap.size, 7, none⟩ = some (.string code) := fun g => (g.ok.cell (p := ⟨wm.heap.size, 7, none⟩) (by simp; omega)).trans (m7 ⟨wa, hBa⟩)
                have p8 : ∀ g : Gr wa.heap.size wa, g.w.cell? ⟨wm.heap.size, 8, none⟩ = some (.slice ho hands.length ch) := fun g => (g.ok.cell (p := ⟨wm.heap.size, 8, none⟩) (by simp; omega)).trans (m8 ⟨wa, hBa⟩)
                have kcs : (wTwo code.size).length = 2 := rfl
                go_wp2_with fail
                refine wp_region_grow_lit (wa.heap.size) wa (by kernel_rfl) (by kernel_rfl) (Below.refl _ _) ?_
                repeat (go_big_quiet_step (first | (go_at_call 44; exact Gr.calls _ (Nat.le_refl _) (kindOf_any _ ⟨rk, rc⟩ (by dsimp only; omega))) | (go_at_call_of 42 stack; exact Gr.calls _ (Nat.le_refl _) (countOf_any _ stack)) | (go_at_call_of 42 locals; exact Gr.calls _ (Nat.le_refl _) (countOf_any _ locals)) | (go_at_call 45; exact Gr.calls _ (Nat.le_refl _) (twoOfB_any _ code.size (by omega) (by omega))) | (go_at_call 42; exact Gr.calls _ (Nat.le_refl _) (countOf_any _ hands.length))))
                refine wpQuiet_nil ?_
                intro _ hw'
                obtain ⟨g3, rfl⟩ := hw'
                have hg3 := g3.ok
                generalize g3.w = w8 at *
                clear g3
                have hB8 := hBa.trans (hg3.mono hsza)
                clear hBa hg3 p3 p4 p5 p6 p7 p8 n2 hsza
                go_wp2_with fail
                go_loopw [3, 10] (fun s i wi => ∃ (j : Nat) (ah : List UInt8), j ≤ hands.length ∧ i = .int .i64 j ∧ s = .string (Bx ah) ∧ ah.length ≤ 52000 + 27 * j ∧ Hid (ah = aa ++ (wKind ⟨rk, rc⟩ ++ [toB stack] ++ [toB locals] ++ wTwo code.size ++ code.data.toList ++ [toB hands.length]) ++ (hands.take j).flatMap wHand) ∧ Below (wm.heap.size + 1) W2 wi) (fun _ i _ => hands.length - (intOf i).toNat)
                case atStart =>
                  refine ⟨0, aa ++ (wKind ⟨rk, rc⟩ ++ [toB stack] ++ [toB locals] ++ wTwo code.size ++ code.data.toList ++ [toB hands.length]), Nat.zero_le _, rfl, ?_, ?_, by simp [mkHid], hB8⟩
                  · refine congrArg Value.string (ByteArray.ext ?_)
                    simp [Bx]
                  · have hcd := len_data code
                    simp only [List.length_append, len_wTwo, List.length_cons, List.length_nil]
                    omega
                case round =>
                  rename World => wh
                  obtain ⟨jh, ah, hjh, rfl, rfl, hah, HAH, hBh⟩ := hrel
                  have hszh : wm.heap.size + 1 ≤ wh.heap.size := by have := hBh.size; omega
                  have n8 := m8 ⟨wh, hBh⟩
                  by_cases hlth : jh < hands.length
                  · have hfh := HM9.out _ (mem_get hlth)
                    obtain ⟨b4, off4, rfl, hbl4, x0, x1, x2, x3, et5⟩ := (EH.out.keptH (Kp.below ((hB2.trans (hBh.mono (by omega))).mono (by omega)))).atH jh hlth
                    have HNH := mkHid (flat_snoc wHand hands jh hlth)
                    have HHB := mkHid (hand_bound hfh)
                    generalize hands[jh] = hd at *
                    obtain ⟨hfr, hup, hlo, hcl4⟩ := hd
                    obtain ⟨u1, u2, u3, u4⟩ := hfh
                    dsimp only at *
                    have hn5 := len_wText hcl4
                    have v1 : hfr ≤ 65535 := by omega
                    have v2 : hup ≤ 65535 := by omega
                    have v3 : hlo ≤ 65535 := by omega
                    have v4 : hcl4.size ≤ 4611686018427387904 := by omega
                    generalize hW3 : wh.alloc (.cells #[.int .i64 hfr, .int .i64 hup, .int .i64 hlo, .string hcl4] 79) = W3
                    have hz3 : wh.heap.size + 1 ≤ W3.heap.size := by rw [← hW3]; simp
                    have hBW3 : Below (wm.heap.size + 1) W2 W3 := by rw [← hW3]; exact hBh.alloc hszh _
                    have hne4 : Nonempty (Gr (wh.heap.size + 1) W3) := ⟨⟨W3, Below.refl _ _⟩⟩
                    have p0 : ∀ g : Gr (wh.heap.size + 1) W3, g.w.cell? ⟨wh.heap.size, 0, none⟩ = some (.int .i64 hfr) := fun g => (g.ok.cell (p := ⟨wh.heap.size, 0, none⟩) (by simp)).trans (by rw [← hW3]; simp [go_sem])
                    have p1 : ∀ g : Gr (wh.heap.size + 1) W3, g.w.cell? ⟨wh.heap.size, 1, none⟩ = some (.int .i64 hup) := fun g => (g.ok.cell (p := ⟨wh.heap.size, 1, none⟩) (by simp)).trans (by rw [← hW3]; simp [go_sem])
                    have p2 : ∀ g : Gr (wh.heap.size + 1) W3, g.w.cell? ⟨wh.heap.size, 2, none⟩ = some (.int .i64 hlo) := fun g => (g.ok.cell (p := ⟨wh.heap.size, 2, none⟩) (by simp)).trans (by rw [← hW3]; simp [go_sem])
                    have p3 : ∀ g : Gr (wh.heap.size + 1) W3, g.w.cell? ⟨wh.heap.size, 3, none⟩ = some (.string hcl4) := fun g => (g.ok.cell (p := ⟨wh.heap.size, 3, none⟩) (by simp)).trans (by rw [← hW3]; simp [go_sem])
                    have k1 : (wTwo hfr).length = 2 := rfl
                    have k2 : (wTwo hup).length = 2 := rfl
                    have k3 : (wTwo hlo).length = 2 := rfl
                    have hah2 : ah.length ≤ 60000 := by omega
                    go_wp2_with fail
                    refine wp_region_grow_lit (wh.heap.size + 1) W3 (by kernel_rfl) (by kernel_rfl) (Below.refl _ _) ?_
                    repeat (go_big_quiet_step (first | (go_at_call_of 45 hfr; exact Gr.calls _ hz3 (twoOfB_any _ hfr u2.1 v1)) | (go_at_call_of 45 hup; exact Gr.calls _ hz3 (twoOfB_any _ hup u3.1 v2)) | (go_at_call_of 45 hlo; exact Gr.calls _ hz3 (twoOfB_any _ hlo u4.1 v3)) | (go_at_call_of 43 hcl4; exact Gr.calls _ hz3 (textOf_any _ hcl4 v4))))
                    refine wpQuiet_nil ?_
                    intro _ hw'
                    obtain ⟨g4, rfl⟩ := hw'
                    have hg4 := g4.ok
                    generalize g4.w = w9 at *
                    clear g4
                    have hB9 := hBW3.trans (hg4.mono (by omega))
                    clear hBh hg4 x0 x1 x2 x3 p0 p1 p2 p3 n8
                    go_wp2_with fail
                    go_roundw
                    case rel => exact ⟨jh + 1, ah ++ wHand ⟨hfr, hup, hlo, hcl4⟩, by omega, by go_num, by simp [Bx, ByteArray.mk_append_mk, wHand], by have := HHB.out; simp only [List.length_append]; omega, by show _ = _; rw [HAH.out, HNH.out, List.append_assoc], hB9⟩
                    case measure => simp [intOf]; omega
                  · have HE := mkHid (show ah = am ++ wMeth ⟨mname, false, args, ⟨rk, rc⟩, stack, locals, code, hands⟩ by
                      rw [HAH.out, HPA.out, List.take_of_length_le (by omega), wMeth, wCounted, wCounted]
                      simp)
                    go_wp2_with fail
                    go_roundw
                    case rel => exact ⟨jm + 1, ah, by omega, by go_num, rfl, by have := HBM.out; rw [HE.out, List.length_append]; omega, by show _ = _; rw [HE.out, HAM.out, HNM.out, List.append_assoc], hBc2.trans (hBh.mono (by omega))⟩
                    case measure => simp [intOf]; omega
          · go_wp2_with fail
            refine (countOf_any _ _).mono ?_
            rintro r w5 ⟨rfl, hb5⟩
            have hB5 := hB4.trans (hb5.mono hs4)
            have hs5 : wm.heap.size + 1 ≤ w5.heap.size := by have := hB5.size; omega
            have n2 := m2 ⟨w5, hB5⟩
            have hsm3 : ¬ (am.length + (wText mname).length + 1 > 9223372036854775807) := by omega
            go_wp2_with fail
            refine (countOf_any _ _).mono ?_
            rintro r w6 ⟨rfl, hb6⟩
            have hB6 := hB5.trans (hb6.mono hs5)
            have hsm4 : ¬ (am.length + (wText mname).length + 1 + 1 > 9223372036854775807) := by omega
            clear hB5 hb5 hb6 hs5 n2 hB4 n1 hs4
            go_wp2_with fail
            go_loopw [3, 9] (fun s i wi => ∃ (j : Nat) (aa : List UInt8), j ≤ args.length ∧ i = .int .i64 j ∧ s = .string (Bx aa) ∧ aa.length ≤ 51000 + 22 * j ∧ Hid (aa = am ++ wText mname ++ wFlag true ++ [toB args.length] ++ (args.take j).flatMap wKind) ∧ Below (wm.heap.size + 1) W2 wi) (fun _ i _ => args.length - (intOf i).toNat)
            case atStart => exact ⟨0, am ++ wText mname ++ wFlag true ++ [toB args.length], Nat.zero_le _, rfl, by simp [Bx, ByteArray.mk_append_mk, wFlag, toB], by simp [wFlag]; omega, by simp [mkHid], hB6⟩
            case round =>
              rename World => wa
              obtain ⟨ja, aa, hja, rfl, rfl, haa, HAA, hBa⟩ := hrel
              have hsza : wm.heap.size + 1 ≤ wa.heap.size := by have := hBa.size; omega
              have n2 := m2 ⟨wa, hBa⟩
              by_cases hlta : ja < args.length
              · have hfa := HM3.out _ (mem_get hlta)
                obtain ⟨b3, off3, rfl, hbl3, x0, x1, et4⟩ := (EA.out.keptK (Kp.below ((hB2.trans (hBa.mono (by omega))).mono (by omega)))).atK ja hlta
                have HNA := mkHid (flat_snoc wKind args ja hlta)
                have hkb := kind_bound hfa
                have hks := hfa.2.2.1
                clear hfa
                go_wp2_with fail
                refine (kindOf_any _ args[ja] (by omega)).mono ?_
                rintro r w7 ⟨rfl, hb7⟩
                have hB7 := hBa.trans (hb7.mono hsza)
                clear hb7 hBa x0 x1 n2
                have hsm5 : ¬ (aa.length + (wKind args[ja]).length > 9223372036854775807) := by omega
                go_wp2_with fail
                go_roundw
                case rel => exact ⟨ja + 1, aa ++ wKind args[ja], by omega, by go_num, by simp [Bx, ByteArray.mk_append_mk], by simp only [List.length_append]; omega, by show _ = _; rw [HAA.out, HNA.out, List.append_assoc], hB7⟩
                case measure => simp [intOf]; omega
              · have HPA := mkHid (show aa = am ++ (wText mname ++ wFlag true ++ wCounted wKind args) by rw [HAA.out, List.take_of_length_le (by omega), wCounted]; simp)
                clear HAA
                have hne3 : Nonempty (Gr wa.heap.size wa) := ⟨⟨wa, Below.refl _ _⟩⟩
                have p3 : ∀ g : Gr wa.heap.size wa, g.w.cell? ⟨wm.heap.size, 3, none⟩ = some (.int .i64 rk) := fun g => (g.ok.cell (p := ⟨wm.heap.size, 3, none⟩) (by simp; omega)).trans (m3 ⟨wa, hBa⟩)
                have p4 : ∀ g : Gr wa.heap.size wa, g.w.cell? ⟨wm.heap.size, 4, none⟩ = some (.string rc) := fun g => (g.ok.cell (p := ⟨wm.heap.size, 4, none⟩) (by simp; omega)).trans (m4 ⟨wa, hBa⟩)
                have p5 : ∀ g : Gr wa.heap.size wa, g.w.cell? ⟨wm.heap.size, 5, none⟩ = some (.int .i64 stack) := fun g => (g.ok.cell (p := ⟨wm.heap.size, 5, none⟩) (by simp; omega)).trans (m5 ⟨wa, hBa⟩)
                have p6 : ∀ g : Gr wa.heap.size wa, g.w.cell? ⟨wm.heap.size, 6, none⟩ = some (.int .i64 locals) := fun g => (g.ok.cell (p := ⟨wm.heap.size, 6, none⟩) (by simp; omega)).trans (m6 ⟨wa, hBa⟩)
                have p7 : ∀ g : Gr wa.heap.size wa, g.w.cell? ⟨wm.heap.size, 7, none⟩ = some (.string code) := fun g => (g.ok.cell (p := ⟨wm.heap.size, 7, none⟩) (by simp; omega)).trans (m7 ⟨wa, hBa⟩)
                have p8 : ∀ g : Gr wa.heap.size wa, g.w.cell? ⟨wm.heap.size, 8, none⟩ = some (.slice ho hands.length ch) := fun g => (g.ok.cell (p := ⟨wm.heap.size, 8, none⟩) (by simp; omega)).trans (m8 ⟨wa, hBa⟩)
                have kcs : (wTwo code.size).length = 2 := rfl
                go_wp2_with fail
                refine wp_region_grow_lit (wa.heap.size) wa (by kernel_rfl) (by kernel_rfl) (Below.refl _ _) ?_
                repeat (go_big_quiet_step (first | (go_at_call 44; exact Gr.calls _ (Nat.le_refl _) (kindOf_any _ ⟨rk, rc⟩ (by dsimp only; omega))) | (go_at_call_of 42 stack; exact Gr.calls _ (Nat.le_refl _) (countOf_any _ stack)) | (go_at_call_of 42 locals; exact Gr.calls _ (Nat.le_refl _) (countOf_any _ locals)) | (go_at_call 45; exact Gr.calls _ (Nat.le_refl _) (twoOfB_any _ code.size (by omega) (by omega))) | (go_at_call 42; exact Gr.calls _ (Nat.le_refl _) (countOf_any _ hands.length))))
                refine wpQuiet_nil ?_
                intro _ hw'
                obtain ⟨g3, rfl⟩ := hw'
                have hg3 := g3.ok
                generalize g3.w = w8 at *
                clear g3
                have hB8 := hBa.trans (hg3.mono hsza)
                clear hBa hg3 p3 p4 p5 p6 p7 p8 n2 hsza
                go_wp2_with fail
                go_loopw [3, 10] (fun s i wi => ∃ (j : Nat) (ah : List UInt8), j ≤ hands.length ∧ i = .int .i64 j ∧ s = .string (Bx ah) ∧ ah.length ≤ 52000 + 27 * j ∧ Hid (ah = aa ++ (wKind ⟨rk, rc⟩ ++ [toB stack] ++ [toB locals] ++ wTwo code.size ++ code.data.toList ++ [toB hands.length]) ++ (hands.take j).flatMap wHand) ∧ Below (wm.heap.size + 1) W2 wi) (fun _ i _ => hands.length - (intOf i).toNat)
                case atStart =>
                  refine ⟨0, aa ++ (wKind ⟨rk, rc⟩ ++ [toB stack] ++ [toB locals] ++ wTwo code.size ++ code.data.toList ++ [toB hands.length]), Nat.zero_le _, rfl, ?_, ?_, by simp [mkHid], hB8⟩
                  · refine congrArg Value.string (ByteArray.ext ?_)
                    simp [Bx]
                  · have hcd := len_data code
                    simp only [List.length_append, len_wTwo, List.length_cons, List.length_nil]
                    omega
                case round =>
                  rename World => wh
                  obtain ⟨jh, ah, hjh, rfl, rfl, hah, HAH, hBh⟩ := hrel
                  have hszh : wm.heap.size + 1 ≤ wh.heap.size := by have := hBh.size; omega
                  have n8 := m8 ⟨wh, hBh⟩
                  by_cases hlth : jh < hands.length
                  · have hfh := HM9.out _ (mem_get hlth)
                    obtain ⟨b4, off4, rfl, hbl4, x0, x1, x2, x3, et5⟩ := (EH.out.keptH (Kp.below ((hB2.trans (hBh.mono (by omega))).mono (by omega)))).atH jh hlth
                    have HNH := mkHid (flat_snoc wHand hands jh hlth)
                    have HHB := mkHid (hand_bound hfh)
                    generalize hands[jh] = hd at *
                    obtain ⟨hfr, hup, hlo, hcl4⟩ := hd
                    obtain ⟨u1, u2, u3, u4⟩ := hfh
                    dsimp only at *
                    have hn5 := len_wText hcl4
                    have v1 : hfr ≤ 65535 := by omega
                    have v2 : hup ≤ 65535 := by omega
                    have v3 : hlo ≤ 65535 := by omega
                    have v4 : hcl4.size ≤ 4611686018427387904 := by omega
                    generalize hW3 : wh.alloc (.cells #[.int .i64 hfr, .int .i64 hup, .int .i64 hlo, .string hcl4] 79) = W3
                    have hz3 : wh.heap.size + 1 ≤ W3.heap.size := by rw [← hW3]; simp
                    have hBW3 : Below (wm.heap.size + 1) W2 W3 := by rw [← hW3]; exact hBh.alloc hszh _
                    have hne4 : Nonempty (Gr (wh.heap.size + 1) W3) := ⟨⟨W3, Below.refl _ _⟩⟩
                    have p0 : ∀ g : Gr (wh.heap.size + 1) W3, g.w.cell? ⟨wh.heap.size, 0, none⟩ = some (.int .i64 hfr) := fun g => (g.ok.cell (p := ⟨wh.heap.size, 0, none⟩) (by simp)).trans (by rw [← hW3]; simp [go_sem])
                    have p1 : ∀ g : Gr (wh.heap.size + 1) W3, g.w.cell? ⟨wh.heap.size, 1, none⟩ = some (.int .i64 hup) := fun g => (g.ok.cell (p := ⟨wh.heap.size, 1, none⟩) (by simp)).trans (by rw [← hW3]; simp [go_sem])
                    have p2 : ∀ g : Gr (wh.heap.size + 1) W3, g.w.cell? ⟨wh.heap.size, 2, none⟩ = some (.int .i64 hlo) := fun g => (g.ok.cell (p := ⟨wh.heap.size, 2, none⟩) (by simp)).trans (by rw [← hW3]; simp [go_sem])
                    have p3 : ∀ g : Gr (wh.heap.size + 1) W3, g.w.cell? ⟨wh.heap.size, 3, none⟩ = some (.string hcl4) := fun g => (g.ok.cell (p := ⟨wh.heap.size, 3, none⟩) (by simp)).trans (by rw [← hW3]; simp [go_sem])
                    have k1 : (wTwo hfr).length = 2 := rfl
                    have k2 : (wTwo hup).length = 2 := rfl
                    have k3 : (wTwo hlo).length = 2 := rfl
                    have hah2 : ah.length ≤ 60000 := by omega
                    go_wp2_with fail
                    refine wp_region_grow_lit (wh.heap.size + 1) W3 (by kernel_rfl) (by kernel_rfl) (Below.refl _ _) ?_
                    repeat (go_big_quiet_step (first | (go_at_call_of 45 hfr; exact Gr.calls _ hz3 (twoOfB_any _ hfr u2.1 v1)) | (go_at_call_of 45 hup; exact Gr.calls _ hz3 (twoOfB_any _ hup u3.1 v2)) | (go_at_call_of 45 hlo; exact Gr.calls _ hz3 (twoOfB_any _ hlo u4.1 v3)) | (go_at_call_of 43 hcl4; exact Gr.calls _ hz3 (textOf_any _ hcl4 v4))))
                    refine wpQuiet_nil ?_
                    intro _ hw'
                    obtain ⟨g4, rfl⟩ := hw'
                    have hg4 := g4.ok
                    generalize g4.w = w9 at *
                    clear g4
                    have hB9 := hBW3.trans (hg4.mono (by omega))
                    clear hBh hg4 x0 x1 x2 x3 p0 p1 p2 p3 n8
                    go_wp2_with fail
                    go_roundw
                    case rel => exact ⟨jh + 1, ah ++ wHand ⟨hfr, hup, hlo, hcl4⟩, by omega, by go_num, by simp [Bx, ByteArray.mk_append_mk, wHand], by have := HHB.out; simp only [List.length_append]; omega, by show _ = _; rw [HAH.out, HNH.out, List.append_assoc], hB9⟩
                    case measure => simp [intOf]; omega
                  · have HE := mkHid (show ah = am ++ wMeth ⟨mname, true, args, ⟨rk, rc⟩, stack, locals, code, hands⟩ by
                      rw [HAH.out, HPA.out, List.take_of_length_le (by omega), wMeth, wCounted, wCounted]
                      simp)
                    go_wp2_with fail
                    go_roundw
                    case rel => exact ⟨jm + 1, ah, by omega, by go_num, rfl, by have := HBM.out; rw [HE.out, List.length_append]; omega, by show _ = _; rw [HE.out, HAM.out, HNM.out, List.append_assoc], hBc2.trans (hBh.mono (by omega))⟩
                    case measure => simp [intOf]; omega
end Go.Proofs.YtaekpdcnnkmahaaGreatDoor
