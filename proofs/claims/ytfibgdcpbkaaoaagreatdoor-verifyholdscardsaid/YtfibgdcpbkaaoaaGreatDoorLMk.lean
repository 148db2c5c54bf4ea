/- The contract of makes: is what came in what the web is? -/
import Derived.Test.YtfibgdcpbkaaoaaGreatDoorJLErrLEq
namespace Go.Proofs.YtfibgdcpbkaaoaaGreatDoor
open Go.RowKit Go.Maps
structure LinkD where
  classes : List ClassD
  supers : List Int
  fields : List (List FieldD)
  names : List (List ByteArray)
  targets : List (List TargD)
structure RLk (M : Nat → Prop) (w : World) (kC kS kF kN kT : Value) (d : LinkD) : Prop where
  C : SL 4 RC M w kC d.classes
  S : SL 1 RI M w kS d.supers
  F : SL 1 (RSl 3 RF) M w kF d.fields
  N : SL 1 (RSl 1 RS) M w kN d.names
  T : SL 1 (RSl 2 RT) M w kT d.targets
theorem RLk.kept {M : Nat → Prop} {w w' : World} {kC kS kF kN kT : Value} {d : LinkD} (h : RLk M w kC kS kF kN kT d) (hk : Kp M w w') : RLk M w' kC kS kF kN kT d :=
  ⟨h.C.keptC hk, h.S.keptI hk, h.F.keptSl hk fun _ _ h => h, h.N.keptSl hk fun _ _ h => h, h.T.keptSl hk fun _ _ h => h⟩
def makesB (l : List ClassD) (d : LinkD) : Bool :=
  eqL sameI ((List.range l.length).map (supAt l)) d.supers && eqL (eqL sameF) ((List.range l.length).map (fieldsOf l)) d.fields &&
    eqL (eqL sameS) ((List.range l.length).map (namesOf l)) d.names && eqL (eqL sameT) ((List.range l.length).map (targetsOf l)) d.targets
set_option maxHeartbeats 4000000 in
theorem makes_any (w : World) (B b : Nat) (l : List ClassD) (vC vS vF vN vT vL : Value) (Bm : Nat) (hw : Web B w b l vC vS vF vN vT vL Bm) (kC kS kF kN kT : Value) (d : LinkD) (hk : RLk (· < B) w kC kS kF kN kT d) :
    Calls Tryz.prog 60 #[.pointer (some ⟨b, 0, none⟩), .agg #[kC, kS, kF, kN, kT]] w fun r w' => r = .returned (.bool (makesB l d)) ∧ Below w.heap.size w w' := by
  have hb : b < w.heap.size := Nat.lt_of_lt_of_le hw.bB hw.le
  have c1 := cell_of hw.blk 1 (x := vS) rfl
  have c2 := cell_of hw.blk 2 (x := vF) rfl
  have c3 := cell_of hw.blk 3 (x := vN) rfl
  have c4 := cell_of hw.blk 4 (x := vT) rfl
  have hB0 : Below w.heap.size w (w.alloc (.cells #[kC, kS, kF, kN, kT] 29)) := (Below.refl _ _).alloc (Nat.le_refl _) _
  have HB0 := mkHid hB0
  have hB1 := hB0.mono hw.le
  have hk1 := hk.kept (Kp.below hB1)
  have hw1 := hw.below hB1
  have KD : ∀ n, Kp (· < B) (w.alloc (.cells #[kC, kS, kF, kN, kT] 29)) ((w.alloc (.cells #[kC, kS, kF, kN, kT] 29)).drewN n) := fun n => ⟨Nat.le_refl _, fun _ _ _ => rfl⟩
  generalize hS : (List.range l.length).map (supAt l) = lS at *
  generalize hF : (List.range l.length).map (fieldsOf l) = lF at *
  generalize hN : (List.range l.length).map (namesOf l) = lN at *
  generalize hT : (List.range l.length).map (targetsOf l) = lT at *
  have sS : SL 1 RI (· < B) _ vS lS := hS ▸ hw1.sS
  have sF : SL 1 (RSl 3 RF) (· < B) _ vF lF := hF ▸ hw1.sF
  have sN : SL 1 (RSl 1 RS) (· < B) _ vN lN := hN ▸ hw1.sN
  have sT : SL 1 (RSl 2 RT) (· < B) _ vT lT := hT ▸ hw1.sT
  have HM : Hid (makesB l d = (eqL sameI lS d.supers && eqL (eqL sameF) lF d.fields && eqL (eqL sameS) lN d.names && eqL (eqL sameT) lT d.targets)) := by
    show makesB l d = _
    rw [makesB, hS, hF, hN, hT]
  have H1 := mkHid (fun n => equalI_any _ _ _ _ _ _ _ (sS.keptI (KD n)) (hk1.S.keptI (KD n)))
  have H2 := mkHid (fun n => equalFs_any _ _ _ _ _ _ _ (sF.keptSl (KD n) fun _ _ h => h) (hk1.F.keptSl (KD n) fun _ _ h => h))
  have H3 := mkHid (fun n => equalSs_any _ _ _ _ _ _ _ (sN.keptSl (KD n) fun _ _ h => h) (hk1.N.keptSl (KD n) fun _ _ h => h))
  have H4 := mkHid (fun n => equalTs_any _ _ _ _ _ _ _ (sT.keptSl (KD n) fun _ _ h => h) (hk1.T.keptSl (KD n) fun _ _ h => h))
  clear hw hk hw1 hk1 sS sF sN sT KD hS hF hN hT hB0 hB1
  generalize eqL sameI lS d.supers = e1 at *
  generalize eqL (eqL sameF) lF d.fields = e2 at *
  generalize eqL (eqL sameS) lN d.names = e3 at *
  generalize eqL (eqL sameT) lT d.targets = e4 at *
  cases e1 with
  | false =>
    go_enter Tryz.func60, Tryz.ntmps60
    go_wp2_with fail
    go_quiet (first | (go_at_call 103; exact Calls.quiet_of (H1.out _)) | (go_at_call 104; exact Calls.quiet_of (H2.out _)) | (go_at_call 106; exact Calls.quiet_of (H3.out _)) | (go_at_call 108; exact Calls.quiet_of (H4.out _)))
    go_wp2_with fail
    go_ret
    exact ⟨by rw [HM.out]; rfl, below_dn HB0.out _⟩
  | true =>
    cases e2 with
    | false =>
      go_enter Tryz.func60, Tryz.ntmps60
      go_wp2_with fail
      go_quiet (first | (go_at_call 103; exact Calls.quiet_of (H1.out _)) | (go_at_call 104; exact Calls.quiet_of (H2.out _)) | (go_at_call 106; exact Calls.quiet_of (H3.out _)) | (go_at_call 108; exact Calls.quiet_of (H4.out _)))
      go_wp2_with fail
      go_ret
      exact ⟨by rw [HM.out]; rfl, below_dn HB0.out _⟩
    | true =>
      cases e3 with
      | false =>
        go_enter Tryz.func60, Tryz.ntmps60
        go_wp2_with fail
        go_quiet (first | (go_at_call 103; exact Calls.quiet_of (H1.out _)) | (go_at_call 104; exact Calls.quiet_of (H2.out _)) | (go_at_call 106; exact Calls.quiet_of (H3.out _)) | (go_at_call 108; exact Calls.quiet_of (H4.out _)))
        go_wp2_with fail
        go_ret
        exact ⟨by rw [HM.out]; rfl, below_dn HB0.out _⟩
      | true =>
        go_enter Tryz.func60, Tryz.ntmps60
        go_wp2_with fail
        go_quiet (first | (go_at_call 103; exact Calls.quiet_of (H1.out _)) | (go_at_call 104; exact Calls.quiet_of (H2.out _)) | (go_at_call 106; exact Calls.quiet_of (H3.out _)) | (go_at_call 108; exact Calls.quiet_of (H4.out _)))
        go_wp2_with fail
        go_ret
        exact ⟨by rw [HM.out]; rfl, below_dn HB0.out _⟩
end Go.Proofs.YtfibgdcpbkaaoaaGreatDoor
