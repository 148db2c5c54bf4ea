/- The contract of makes: is what came in what the web is? -/
import Derived.Test.YtaekpdcnnkmahaaGreatDoorJLErrLEq
import Derived.Test.YtaekpdcnnkmahaaGreatDoorGrow
import Derived.Test.YtaekpdcnnkmahaaGreatDoorDies
import Derived.Test.YtaekpdcnnkmahaaGreatDoorJLDifLRf3
namespace Go.Proofs.YtaekpdcnnkmahaaGreatDoor
open Go.RowKit Go.Maps

structure LinkD where
  classes : List ClassD
  supers : List Int
  fields : List (List FieldD)
  names : List (List ByteArray)
  targets : List (List TargD)

/-- Linked classes in memory, out of their five slices. -/
structure RLk (M : Nat → Prop) (w : World) (kC kS kF kN kT : Value) (d : LinkD) : Prop where
  C : SL 4 RC M w kC d.classes
  S : SL 1 RI M w kS d.supers
  F : SL 1 (RSl 3 RF) M w kF d.fields
  N : SL 1 (RSl 1 RS) M w kN d.names
  T : SL 1 (RSl 2 RT) M w kT d.targets
theorem RLk.kept {M : Nat → Prop} {w w' : World} {kC kS kF kN kT : Value} {d : LinkD} (h : RLk M w kC kS kF kN kT d) (hk : Kp M w w') : RLk M w' kC kS kF kN kT d :=
  ⟨h.C.keptC hk, h.S.keptI hk, h.F.keptSl hk fun _ _ h => h, h.N.keptSl hk fun _ _ h => h, h.T.keptSl hk fun _ _ h => h⟩

def makesB (l : List ClassD) (d : LinkD) : Bool :=
  eqL sameI ((List.range l.length).map (supAt l)) d.supers && eqL (eqL sameF) ((List.range l.length).map (fieldsOf l)) d.fields &&
    eqL (eqL sameS) ((List.range l.length).map (namesOf l)) d.names && eqL (eqL sameT) ((List.range l.length).map (targetsOf l)) d.targets

set_option maxHeartbeats 4000000 in
theorem makes_any (w : World) (B b : Nat) (l : List ClassD) (vC vS vF vN vT vL : Value) (Bm : Nat) (hw : Web B w b l vC vS vF vN vT vL Bm) (kC kS kF kN kT : Value) (d : LinkD) (hk : RLk (· < B) w kC kS kF kN kT d) :
    Calls Tryz.prog 100 #[.pointer (some ⟨b, 0, none⟩), .agg #[kC, kS, kF, kN, kT]] w fun r w' => r = .returned (.bool (makesB l d)) ∧ Below w.heap.size w w' := by
  have hb : b < w.heap.size := Nat.lt_of_lt_of_le hw.bB hw.le
  have c1 := cell_of hw.blk 1 (x := vS) rfl
  have c2 := cell_of hw.blk 2 (x := vF) rfl
  have c3 := cell_of hw.blk 3 (x := vN) rfl
  have c4 := cell_of hw.blk 4 (x := vT) rfl
  have hB0 : Below w.heap.size w (w.alloc (.cells #[kC, kS, kF, kN, kT] 37)) := (Below.refl _ _).alloc (Nat.le_refl _) _
  have HB0 := mkHid hB0
  have hB1 := hB0.mono hw.le
  have hk1 := hk.kept (Kp.below hB1)
  have hw1 := hw.below hB1
  have KD : ∀ n, Kp (· < B) (w.alloc (.cells #[kC, kS, kF, kN, kT] 37)) ((w.alloc (.cells #[kC, kS, kF, kN, kT] 37)).drewN n) := fun n => ⟨Nat.le_refl _, fun _ _ _ => rfl⟩
  generalize hS : (List.range l.length).map (supAt l) = lS at *
  generalize hF : (List.range l.length).map (fieldsOf l) = lF at *
  generalize hN : (List.range l.length).map (namesOf l) = lN at *
  generalize hT : (List.range l.length).map (targetsOf l) = lT at *
  have sS : SL 1 RI (· < B) _ vS lS := hS ▸ hw1.sS
  have sF : SL 1 (RSl 3 RF) (· < B) _ vF lF := hF ▸ hw1.sF
  have sN : SL 1 (RSl 1 RS) (· < B) _ vN lN := hN ▸ hw1.sN
  have sT : SL 1 (RSl 2 RT) (· < B) _ vT lT := hT ▸ hw1.sT
  have HM : Hid (makesB l d = (eqL sameI lS d.supers && eqL (eqL sameF) lF d.fields && eqL (eqL sameS) lN d.names && eqL (eqL sameT) lT d.targets)) := by
    show makesB l d = _
    rw [makesB, hS, hF, hN, hT]
  have H1 := mkHid (fun n => equalI_any _ _ _ _ _ _ _ (sS.keptI (KD n)) (hk1.S.keptI (KD n)))
  have H2 := mkHid (fun n => equalFs_any _ _ _ _ _ _ _ (sF.keptSl (KD n) fun _ _ h => h) (hk1.F.keptSl (KD n) fun _ _ h => h))
  have H3 := mkHid (fun n => equalSs_any _ _ _ _ _ _ _ (sN.keptSl (KD n) fun _ _ h => h) (hk1.N.keptSl (KD n) fun _ _ h => h))
  have H4 := mkHid (fun n => equalTs_any _ _ _ _ _ _ _ (sT.keptSl (KD n) fun _ _ h => h) (hk1.T.keptSl (KD n) fun _ _ h => h))
  clear hw hk hw1 hk1 sS sF sN sT KD hS hF hN hT hB0 hB1
  generalize eqL sameI lS d.supers = e1 at *
  generalize eqL (eqL sameF) lF d.fields = e2 at *
  generalize eqL (eqL sameS) lN d.names = e3 at *
  generalize eqL (eqL sameT) lT d.targets = e4 at *
  cases e1 with
  | false =>
    go_enter Tryz.func100, Tryz.ntmps100
    go_wp2_with fail
    go_quiet (first | (go_at_call 144; exact Calls.quiet_of (H1.out _)) | (go_at_call 145; exact Calls.quiet_of (H2.out _)) | (go_at_call 147; exact Calls.quiet_of (H3.out _)) | (go_at_call 149; exact Calls.quiet_of (H4.out _)))
    go_wp2_with fail
    go_ret
    exact ⟨by rw [HM.out]; rfl, below_dn HB0.out _⟩
  | true =>
    cases e2 with
    | false =>
      go_enter Tryz.func100, Tryz.ntmps100
      go_wp2_with fail
      go_quiet (first | (go_at_call 144; exact Calls.quiet_of (H1.out _)) | (go_at_call 145; exact Calls.quiet_of (H2.out _)) | (go_at_call 147; exact Calls.quiet_of (H3.out _)) | (go_at_call 149; exact Calls.quiet_of (H4.out _)))
      go_wp2_with fail
      go_ret
      exact ⟨by rw [HM.out]; rfl, below_dn HB0.out _⟩
    | true =>
      cases e3 with
      | false =>
        go_enter Tryz.func100, Tryz.ntmps100
        go_wp2_with fail
        go_quiet (first | (go_at_call 144; exact Calls.quiet_of (H1.out _)) | (go_at_call 145; exact Calls.quiet_of (H2.out _)) | (go_at_call 147; exact Calls.quiet_of (H3.out _)) | (go_at_call 149; exact Calls.quiet_of (H4.out _)))
        go_wp2_with fail
        go_ret
        exact ⟨by rw [HM.out]; rfl, below_dn HB0.out _⟩
      | true =>
        go_enter Tryz.func100, Tryz.ntmps100
        go_wp2_with fail
        go_quiet (first | (go_at_call 144; exact Calls.quiet_of (H1.out _)) | (go_at_call 145; exact Calls.quiet_of (H2.out _)) | (go_at_call 147; exact Calls.quiet_of (H3.out _)) | (go_at_call 149; exact Calls.quiet_of (H4.out _)))
        go_wp2_with fail
        go_ret
        exact ⟨by rw [HM.out]; rfl, below_dn HB0.out _⟩
end Go.Proofs.YtaekpdcnnkmahaaGreatDoor
/- The contract of Ask: questions in their order. -/
namespace Go.Proofs.YtaekpdcnnkmahaaGreatDoor
open Go.RowKit Go.Maps

theorem wp_region_diesg_lit {P : Program} {id : Nat} {Q : Exit → Act → World → Prop} {a : Act} {w : World} {L l : List Oper} {z : Oper} (B : Nat) (W : World) (R : List PanicEntry → World → Prop) (hm : P.follows .mixedOrders = true) (hB : Region.lexB .any L.toArray = true)
    (hz : L.getLast? = some z) (hl : L.dropLast = l) (hw : Below B W w)
    (hR : ∀ chain a' w, a'.defers = a.defers → R chain w → Q (.panic chain) a' w)
    (h : wpQuiet P L.toArray (fun w' => ∃ g : Gr B W, w' = g.w) (fun a' => DiesIn P L.toArray (fun w' => ∃ g : Gr B W, w' = g.w) R z a') l a) : (Code.region id L.toArray true).wp P Q a w := by
  have e : L = l ++ [z] := by
    obtain ⟨ys, e⟩ := List.getLast?_eq_some_iff.1 hz
    rw [← hl, e, List.dropLast_concat]
  subst e
  simp only [Region.lexB, Bool.and_eq_true] at hB
  refine wp_region_any hm (wpAny_of_dies (R := R) (Q := fun _ => False) (C := fun w' => ∃ g : Gr B W, w' = g.w) hR (fun _ _ _ h => h.elim) _ _ _ _ rfl ⟨⟨_, hw.drew⟩, rfl⟩ ?_)
  have := wpAnyD_lex (Q := fun _ => False) (C := fun w' => ∃ g : Gr B W, w' = g.w) (R := R) (md := .any) (z := z) hB.1 l 0 (Array.replicate (l ++ [z]).toArray.size false) a (by simp) (by simpa using hB.2) h
  simpa using this

/-- A question: what answers it, what is told if the answer is no, the answer. -/
structure QD where
  g : Nat
  e : Int
  ans : Bool
def RQ (first : Array Value) (_ : Nat → Prop) (_ : World) (cs : List Value) (q : QD) : Prop := cs = [.func (.func q.g) first #[], .int .i64 q.e]
theorem SL.atQ {first : Array Value} {M : Nat → Prop} {w : World} {ao : Option Addr} {len cap : Nat} {l : List QD} (h : SL 2 (RQ first) M w (.slice ao len cap) l) (k : Nat) (hk : k < l.length) :
    ∃ b off, ao = some ⟨b, off, none⟩ ∧ b < w.heap.size ∧ w.cell? ⟨b, off + k * 2, none⟩ = some (.func (.func l[k].g) first #[]) ∧ w.cell? ⟨b, off + k * 2 + 1, none⟩ = some (.int .i64 l[k].e) := by
  obtain ⟨b, off, cs, e, _, hb, _, hc, rfl⟩ := h.at k hk
  exact ⟨b, off, e, hb, hc 0 (by decide), hc 1 (by decide)⟩
def askRes : List QD → Int
  | [] => 0
  | q :: l => if q.ans then askRes l else q.e
theorem askRes_drop (l : List QD) (k : Nat) (hk : k < l.length) : askRes (l.drop k) = if l[k].ans then askRes (l.drop (k + 1)) else l[k].e := by
  rw [List.drop_eq_getElem_cons hk, askRes]

set_option maxRecDepth 100000 in
set_option maxHeartbeats 2000000 in
theorem Ask_any (w : World) (B : Nat) (first : Array Value) (v : Value) (l : List QD) (hv : SL 2 (RQ first) (· < B) w v l) (hB : B ≤ w.heap.size) (hcf : ∀ q ∈ l, ∀ args w, (callFunc q.g args).run Tryz.prog w = .ok (.enter q.g args) w) (he : ∀ q ∈ l, q.e ≠ 0)
    (hc : ∀ (k : Nat) (hk : k < l.length), (∀ (j : Nat) (hj : j < l.length), j < k → l[j].ans = true) → ∀ w', Below w.heap.size w w' → Calls Tryz.prog l[k].g first w' fun r w'' => r = .returned (.bool l[k].ans) ∧ Below w'.heap.size w' w'') :
    Calls Tryz.prog 118 #[v] w fun r w' => ChkOut (askRes l) r ∧ Below w.heap.size w w' := by
  have hsf : ∀ (a : Addr) (w : World) (fn : Fn) (first cap : Array Value), (store a (.func fn first cap)).run Tryz.prog w = stored Tryz.prog w a (.func fn first cap) .plain := fun a w fn first cap => run_store _ w a _ _ rfl
  have HV := mkHid hv
  have HC := mkHid hc
  have HE := mkHid he
  have HF := mkHid hcf
  obtain ⟨ao, cl, rfl, -, hl, -⟩ := hv
  unfold maxLen at hl
  clear hc he hcf
  go_enter Tryz.func118, Tryz.ntmps118
  go_wp2_with fail
  go_loopw [6] (fun i wr => ∃ k : Nat, k ≤ l.length ∧ i = .int .i64 k ∧ Hid (askRes l = askRes (l.drop k) ∧ (∀ (j : Nat) (hj : j < l.length), j < k → l[j].ans = true) ∧ Below w.heap.size w wr)) (fun i _ => l.length - (intOf i).toNat)
  case atStart => exact ⟨0, Nat.zero_le _, rfl, rfl, (fun _ _ h => by omega), Below.refl _ _⟩
  case round =>
    obtain ⟨k, hk, rfl, HQ⟩ := hrel
    have hsr : w.heap.size ≤ wr.heap.size := HQ.out.2.2.size
    by_cases hlt : k < l.length
    · obtain ⟨b, off, rfl, hb, c0, c1⟩ := (HV.out.kept (Kp.below (HQ.out.2.2.mono hB)) fun _ _ h => h).atQ k hlt
      have hB1 := (Below.refl wr.heap.size wr).alloc (Nat.le_refl _) (.cells #[.func (.func l[k].g) first #[], .int .i64 l[k].e] 179)
      obtain ⟨W0, hW⟩ : ∃ W0, W0 = wr.alloc (.cells #[.func (.func l[k].g) first #[], .int .i64 l[k].e] 179) := ⟨_, rfl⟩
      have hz : wr.heap.size + 1 ≤ W0.heap.size := by rw [hW]; simp
      rw [← hW] at hB1
      have hne : Nonempty (Gr (wr.heap.size + 1) W0) := ⟨⟨W0, Below.refl _ _⟩⟩
      have ky0 : ∀ g : Gr (wr.heap.size + 1) W0, g.w.cell? ⟨wr.heap.size, 0, none⟩ = some (.func (.func l[k].g) first #[]) := fun g => (g.ok.cell (p := ⟨wr.heap.size, 0, none⟩) (by simp)).trans (by rw [hW]; simp [go_sem])
      have ky1 : ∀ g : Gr (wr.heap.size + 1) W0, g.w.cell? ⟨wr.heap.size, 1, none⟩ = some (.int .i64 l[k].e) := fun g => (g.ok.cell (p := ⟨wr.heap.size, 1, none⟩) (by simp)).trans (by rw [hW]; simp [go_sem])
      have HBG : Hid (∀ g : Gr (wr.heap.size + 1) W0, Below w.heap.size w g.w) := fun g => HQ.out.2.2.trans ((hB1.mono hsr).trans (g.ok.mono (by omega)))
      have HCX : Hid (∀ g : Gr (wr.heap.size + 1) W0, Calls Tryz.prog l[k].g first g.w fun e w'' => e = .returned (.bool l[k].ans) ∧ ∃ g' : Gr (wr.heap.size + 1) W0, w'' = g'.w) := fun g => Gr.calls g hz (HC.out k hlt HQ.out.2.1 g.w (HBG.out g))
      have HDY : Hid (∀ g : Gr (wr.heap.size + 1) W0, Calls Tryz.prog 77 #[.bool true, .int .i64 l[k].e] g.w fun e w'' => e = .returned (.tuple #[]) ∧ ∃ g' : Gr (wr.heap.size + 1) W0, w'' = g'.w) := fun g => (demand_any g.w true l[k].e).mono (by
        rintro e w' ⟨rfl, h | h⟩
        · exact absurd h.1 (by simp)
        · exact ⟨h.2, g, rfl⟩)
      have hcf := HF.out l[k] (List.getElem_mem hlt)
      have HEK := mkHid (HE.out l[k] (List.getElem_mem hlt))
      have HST := mkHid (askRes_drop l k hlt)
      have HAN : Hid (l[k].ans = true → ∀ (j : Nat) (hj : j < l.length), j < k + 1 → l[j].ans = true) := fun ha j hj hjk => by
        by_cases hjk' : j < k
        · exact HQ.out.2.1 j hj hjk'
        · have : j = k := by omega
          subst this
          exact ha
      have HB1 := mkHid hB1
      have h00 : (0 : Int) ≤ k := by omega
      have h01 : (k : Int) < l.length := by omega
      clear hB1
      generalize l[k] = q at *
      obtain ⟨qg, qe, qa⟩ := q
      dsimp only at *
      go_wp2_with fail
      rw [← hW]
      clear hW
      cases qa with
      | true =>
        refine wp_region_grow_lit (wr.heap.size + 1) W0 (by kernel_rfl) (by kernel_rfl) (Below.refl _ _) ?_
        repeat (go_big_quiet_step (first | (go_at_call 77; exact HDY.out _) | (exact HCX.out _)))
        refine wpQuiet_nil ?_
        intro _ hw'
        obtain ⟨g, rfl⟩ := hw'
        have HFIN : Hid (askRes l = askRes (l.drop (k + 1)) ∧ (∀ (j : Nat) (hj : j < l.length), j < k + 1 → l[j].ans = true) ∧ Below w.heap.size w g.w) := ⟨HQ.out.1.trans (HST.out.trans (if_pos rfl)), HAN.out rfl, HBG.out g⟩
        generalize g.w = w2 at *
        clear ky0 ky1 hne hcf
        go_wp2_with fail
        go_roundw
        case rel => exact ⟨k + 1, by omega, by go_num, HFIN.out⟩
        case measure => simp [intOf]; omega
      | false =>
        have HDN : Hid (∀ g : Gr (wr.heap.size + 1) W0, Calls Tryz.prog 77 #[.bool false, .int .i64 qe] g.w fun e w'' => e = .panicked [wrongV qe 0] ∧ Below w.heap.size w w'') := fun g => (demand_any g.w false qe).mono (by
          rintro e w' ⟨h0, h | h⟩
          · exact ⟨h.2, h0 ▸ HBG.out g⟩
          · exact absurd h.1 (by simp))
        have HFIN : Hid (askRes l = qe ∧ qe ≠ 0) := ⟨HQ.out.1.trans (HST.out.trans (if_neg (by simp))), HEK.out⟩
        refine wp_region_diesg_lit (wr.heap.size + 1) W0 (fun chain w' => chain = [wrongV qe 0] ∧ Below w.heap.size w w') (by kernel_rfl) (by kernel_rfl) rfl (by simp only [List.dropLast]; rfl) (Below.refl _ _) ?_ ?_
        · rintro chain a' w' hd ⟨rfl, hg⟩
          exact ⟨hd, Or.inl ⟨by rw [HFIN.out.1]; exact HFIN.out.2, by rw [HFIN.out.1]⟩, hg⟩
        · repeat (go_big_quiet_step (first | (exact HCX.out _)))
          refine wpQuiet_nil ?_
          refine ⟨rfl, ?_⟩
          intro _ hw'
          obtain ⟨g, rfl⟩ := hw'
          go_simp
          refine ⟨rfl, (HDN.out g).mono ?_⟩
          rintro e w' ⟨rfl, hg⟩
          exact ⟨_, rfl, rfl, hg⟩
    · have HR : Hid (askRes l = 0) := HQ.out.1.trans (by rw [List.drop_of_length_le (by omega)]; rfl)
      go_wp2_with fail
      go_end0
      exact ⟨Or.inr ⟨HR.out, rfl⟩, HQ.out.2.2⟩
end Go.Proofs.YtaekpdcnnkmahaaGreatDoor
/- Linked classes that are being made: their state in memory. -/
namespace Go.Proofs.YtaekpdcnnkmahaaGreatDoor
open Go.RowKit Go.Sort

structure Lv (w0 W : World) (vC vS vF vN vT : Value) (zS : List (List Value × Int)) (zF : List (List Value × (List FieldD))) (zN : List (List Value × (List ByteArray))) (zT : List (List Value × (List TargD))) : Prop where
  below : Below w0.heap.size w0 W
  blk : W.heap[w0.heap.size]? = some (.cells #[vC, vS, vF, vN, vT] 37 (0, 0))
  oS : W.ownsRow (w0.heap.size + 1) 3 1 vS zS.length (zS.flatMap (·.1))
  aS : ∀ z ∈ zS, z.1 = [Value.int .i64 z.2]
  oF : W.ownsRow (w0.heap.size + 1) 49 1 vF zF.length (zF.flatMap (·.1))
  aF : ∀ z ∈ zF, z.1.length = 1 ∧ RSl 3 RF (MT w0.heap.size [53] W) W z.1 z.2
  oN : W.ownsRow (w0.heap.size + 1) 54 1 vN zN.length (zN.flatMap (·.1))
  aN : ∀ z ∈ zN, z.1.length = 1 ∧ RSl 1 RS (MT w0.heap.size [9] W) W z.1 z.2
  oT : W.ownsRow (w0.heap.size + 1) 84 1 vT zT.length (zT.flatMap (·.1))
  aT : ∀ z ∈ zT, z.1.length = 1 ∧ RSl 2 RT (MT w0.heap.size [110] W) W z.1 z.2
theorem Lv.lt {w0 W : World} {vC vS vF vN vT : Value} {zS : List (List Value × Int)} {zF : List (List Value × (List FieldD))} {zN : List (List Value × (List ByteArray))} {zT : List (List Value × (List TargD))} (h : Lv w0 W vC vS vF vN vT zS zF zN zT) : w0.heap.size < W.heap.size := lt_of h.blk
theorem Lv.grow {w0 W : World} {vC vS vF vN vT : Value} {zS : List (List Value × Int)} {zF : List (List Value × (List FieldD))} {zN : List (List Value × (List ByteArray))} {zT : List (List Value × (List TargD))} {W' : World} (h : Lv w0 W vC vS vF vN vT zS zF zN zT) (hb : Below W.heap.size W W') : Lv w0 W' vC vS vF vN vT zS zF zN zT :=
  ⟨h.below.trans (hb.mono h.below.size), (hb.block _ h.lt).trans h.blk, own_belowW h.oS hb, h.aS, own_belowW h.oF hb, (fun z hz => ⟨(h.aF z hz).1, (h.aF z hz).2.stp (Stp.below hb) fun _ _ _ _ _ _ h => h⟩), own_belowW h.oN hb, (fun z hz => ⟨(h.aN z hz).1, (h.aN z hz).2.stp (Stp.below hb) fun _ _ _ _ _ _ h => h⟩), own_belowW h.oT hb, (fun z hz => ⟨(h.aT z hz).1, (h.aT z hz).2.stp (Stp.below hb) fun _ _ _ _ _ _ h => h⟩)⟩
theorem Lv.cell {w0 W : World} {vC vS vF vN vT : Value} {zS : List (List Value × Int)} {zF : List (List Value × (List FieldD))} {zN : List (List Value × (List ByteArray))} {zT : List (List Value × (List TargD))} (h : Lv w0 W vC vS vF vN vT zS zF zN zT) (j : Nat) {x : Value} (hx : (#[vC, vS, vF, vN, vT] : Array Value)[j]? = some x) : W.cell? ⟨w0.heap.size, j, none⟩ = some x := cell_of h.blk j hx

set_option maxHeartbeats 1000000 in
theorem Lv.addS {w0 W : World} {vC vS vF vN vT : Value} {zS : List (List Value × Int)} {zF : List (List Value × (List FieldD))} {zN : List (List Value × (List ByteArray))} {zT : List (List Value × (List TargD))} (h : Lv w0 W vC vS vF vN vT zS zF zN zT) {u : Value} {x : Int} (hu : u = .int .i64 x) {w1 : World} {v' : Value}
    (ho : w1.ownsRow (w0.heap.size + 1) 3 1 v' (zS.length + 1) (zS.flatMap (·.1) ++ [u])) (hg : (W.alloc (.cells #[u] 3)).grownBy w1 vS.ownBlock) :
    Lv w0 (w1.setCell ⟨w0.heap.size, 1, none⟩ v') vC v' vF vN vT (zS ++ [([u], x)]) zF zN zT := by
  have hlt := h.lt
  have hrb : ∀ q, vS.ownBlock = some q → w0.heap.size + 1 ≤ q ∧ q < W.heap.size := fun q e => h.oS.lt q e
  have hb1 : w1.heap[w0.heap.size]? = some (.cells #[vC, vS, vF, vN, vT] 37 (0, 0)) := by
    rw [hg.block w0.heap.size (by simp; omega) (fun e => by have := (hrb _ e.symm).1; omega), Below.heap_alloc _ _ _ hlt]
    exact h.blk
  have hst : ∀ t, t ∉ [3, 37] → Stp w0.heap.size [t] W (w1.setCell ⟨w0.heap.size, 1, none⟩ v') := fun t ht =>
    (((Stp.refl _ _ _).alloc _).trans (Stp.row hg (h.oS.alloc _) (fun e => ht (by simp at e; simp [e])))).trans (Stp.set hb1 (fun e => ht (by simp at e; simp [← e])) 1 v')
  have hB1 : Below w0.heap.size w0 w1 := (h.below.alloc h.below.size _).grown hg (by have := h.below.size; simp; omega) (fun q e => by have := (hrb q e).1; omega)
  refine ⟨hB1.setCell (by simp) _, heap_set hb1 v', ?_, ?_, ?_, ?_, ?_, ?_, ?_, ?_⟩
  · rw [List.length_append, snoc_flat]
    exact ownsRow_setCell_below ho (by simp) _
  · intro z hz
    rcases List.mem_append.1 hz with hz | hz
    · exact h.aS z hz
    · rw [List.mem_singleton] at hz
      subst hz
      rw [hu]
  · exact ownsRow_setCell_below ((h.oF.alloc _).kept hg (own_types h.oF h.oS (by decide))) (by simp) _
  · exact fun z hz => ⟨(h.aF z hz).1, (h.aF z hz).2.stp (hst _ (by decide)) fun _ _ _ _ _ _ h => h⟩
  · exact ownsRow_setCell_below ((h.oN.alloc _).kept hg (own_types h.oN h.oS (by decide))) (by simp) _
  · exact fun z hz => ⟨(h.aN z hz).1, (h.aN z hz).2.stp (hst _ (by decide)) fun _ _ _ _ _ _ h => h⟩
  · exact ownsRow_setCell_below ((h.oT.alloc _).kept hg (own_types h.oT h.oS (by decide))) (by simp) _
  · exact fun z hz => ⟨(h.aT z hz).1, (h.aT z hz).2.stp (hst _ (by decide)) fun _ _ _ _ _ _ h => h⟩

set_option maxHeartbeats 1000000 in
theorem Lv.addF {w0 W : World} {vC vS vF vN vT : Value} {zS : List (List Value × Int)} {zF : List (List Value × (List FieldD))} {zN : List (List Value × (List ByteArray))} {zT : List (List Value × (List TargD))} (h : Lv w0 W vC vS vF vN vT zS zF zN zT) {u : Value} {x : List FieldD} (hu : SL 3 RF (MT w0.heap.size [53] W) W u x) {w1 : World} {v' : Value}
    (ho : w1.ownsRow (w0.heap.size + 1) 49 1 v' (zF.length + 1) (zF.flatMap (·.1) ++ [u])) (hg : (W.alloc (.cells #[u] 49)).grownBy w1 vF.ownBlock) :
    Lv w0 (w1.setCell ⟨w0.heap.size, 2, none⟩ v') vC vS v' vN vT zS (zF ++ [([u], x)]) zN zT := by
  have hlt := h.lt
  have hrb : ∀ q, vF.ownBlock = some q → w0.heap.size + 1 ≤ q ∧ q < W.heap.size := fun q e => h.oF.lt q e
  have hb1 : w1.heap[w0.heap.size]? = some (.cells #[vC, vS, vF, vN, vT] 37 (0, 0)) := by
    rw [hg.block w0.heap.size (by simp; omega) (fun e => by have := (hrb _ e.symm).1; omega), Below.heap_alloc _ _ _ hlt]
    exact h.blk
  have hst : ∀ t, t ∉ [49, 37] → Stp w0.heap.size [t] W (w1.setCell ⟨w0.heap.size, 2, none⟩ v') := fun t ht =>
    (((Stp.refl _ _ _).alloc _).trans (Stp.row hg (h.oF.alloc _) (fun e => ht (by simp at e; simp [e])))).trans (Stp.set hb1 (fun e => ht (by simp at e; simp [← e])) 2 v')
  have hB1 : Below w0.heap.size w0 w1 := (h.below.alloc h.below.size _).grown hg (by have := h.below.size; simp; omega) (fun q e => by have := (hrb q e).1; omega)
  refine ⟨hB1.setCell (by simp) _, heap_set hb1 v', ?_, ?_, ?_, ?_, ?_, ?_, ?_, ?_⟩
  · exact ownsRow_setCell_below ((h.oS.alloc _).kept hg (own_types h.oS h.oF (by decide))) (by simp) _
  · exact h.aS
  · rw [List.length_append, snoc_flat]
    exact ownsRow_setCell_below ho (by simp) _
  · intro z hz
    rcases List.mem_append.1 hz with hz | hz
    · exact ⟨(h.aF z hz).1, (h.aF z hz).2.stp (hst _ (by decide)) fun _ _ _ _ _ _ h => h⟩
    · rw [List.mem_singleton] at hz
      subst hz
      exact ⟨rfl, RSl.stp ⟨u, rfl, hu⟩ (hst _ (by decide)) fun _ _ _ _ _ _ h => h⟩
  · exact ownsRow_setCell_below ((h.oN.alloc _).kept hg (own_types h.oN h.oF (by decide))) (by simp) _
  · exact fun z hz => ⟨(h.aN z hz).1, (h.aN z hz).2.stp (hst _ (by decide)) fun _ _ _ _ _ _ h => h⟩
  · exact ownsRow_setCell_below ((h.oT.alloc _).kept hg (own_types h.oT h.oF (by decide))) (by simp) _
  · exact fun z hz => ⟨(h.aT z hz).1, (h.aT z hz).2.stp (hst _ (by decide)) fun _ _ _ _ _ _ h => h⟩

set_option maxHeartbeats 1000000 in
theorem Lv.addN {w0 W : World} {vC vS vF vN vT : Value} {zS : List (List Value × Int)} {zF : List (List Value × (List FieldD))} {zN : List (List Value × (List ByteArray))} {zT : List (List Value × (List TargD))} (h : Lv w0 W vC vS vF vN vT zS zF zN zT) {u : Value} {x : List ByteArray} (hu : SL 1 RS (MT w0.heap.size [9] W) W u x) {w1 : World} {v' : Value}
    (ho : w1.ownsRow (w0.heap.size + 1) 54 1 v' (zN.length + 1) (zN.flatMap (·.1) ++ [u])) (hg : (W.alloc (.cells #[u] 54)).grownBy w1 vN.ownBlock) :
    Lv w0 (w1.setCell ⟨w0.heap.size, 3, none⟩ v') vC vS vF v' vT zS zF (zN ++ [([u], x)]) zT := by
  have hlt := h.lt
  have hrb : ∀ q, vN.ownBlock = some q → w0.heap.size + 1 ≤ q ∧ q < W.heap.size := fun q e => h.oN.lt q e
  have hb1 : w1.heap[w0.heap.size]? = some (.cells #[vC, vS, vF, vN, vT] 37 (0, 0)) := by
    rw [hg.block w0.heap.size (by simp; omega) (fun e => by have := (hrb _ e.symm).1; omega), Below.heap_alloc _ _ _ hlt]
    exact h.blk
  have hst : ∀ t, t ∉ [54, 37] → Stp w0.heap.size [t] W (w1.setCell ⟨w0.heap.size, 3, none⟩ v') := fun t ht =>
    (((Stp.refl _ _ _).alloc _).trans (Stp.row hg (h.oN.alloc _) (fun e => ht (by simp at e; simp [e])))).trans (Stp.set hb1 (fun e => ht (by simp at e; simp [← e])) 3 v')
  have hB1 : Below w0.heap.size w0 w1 := (h.below.alloc h.below.size _).grown hg (by have := h.below.size; simp; omega) (fun q e => by have := (hrb q e).1; omega)
  refine ⟨hB1.setCell (by simp) _, heap_set hb1 v', ?_, ?_, ?_, ?_, ?_, ?_, ?_, ?_⟩
  · exact ownsRow_setCell_below ((h.oS.alloc _).kept hg (own_types h.oS h.oN (by decide))) (by simp) _
  · exact h.aS
  · exact ownsRow_setCell_below ((h.oF.alloc _).kept hg (own_types h.oF h.oN (by decide))) (by simp) _
  · exact fun z hz => ⟨(h.aF z hz).1, (h.aF z hz).2.stp (hst _ (by decide)) fun _ _ _ _ _ _ h => h⟩
  · rw [List.length_append, snoc_flat]
    exact ownsRow_setCell_below ho (by simp) _
  · intro z hz
    rcases List.mem_append.1 hz with hz | hz
    · exact ⟨(h.aN z hz).1, (h.aN z hz).2.stp (hst _ (by decide)) fun _ _ _ _ _ _ h => h⟩
    · rw [List.mem_singleton] at hz
      subst hz
      exact ⟨rfl, RSl.stp ⟨u, rfl, hu⟩ (hst _ (by decide)) fun _ _ _ _ _ _ h => h⟩
  · exact ownsRow_setCell_below ((h.oT.alloc _).kept hg (own_types h.oT h.oN (by decide))) (by simp) _
  · exact fun z hz => ⟨(h.aT z hz).1, (h.aT z hz).2.stp (hst _ (by decide)) fun _ _ _ _ _ _ h => h⟩

set_option maxHeartbeats 1000000 in
theorem Lv.addT {w0 W : World} {vC vS vF vN vT : Value} {zS : List (List Value × Int)} {zF : List (List Value × (List FieldD))} {zN : List (List Value × (List ByteArray))} {zT : List (List Value × (List TargD))} (h : Lv w0 W vC vS vF vN vT zS zF zN zT) {u : Value} {x : List TargD} (hu : SL 2 RT (MT w0.heap.size [110] W) W u x) {w1 : World} {v' : Value}
    (ho : w1.ownsRow (w0.heap.size + 1) 84 1 v' (zT.length + 1) (zT.flatMap (·.1) ++ [u])) (hg : (W.alloc (.cells #[u] 84)).grownBy w1 vT.ownBlock) :
    Lv w0 (w1.setCell ⟨w0.heap.size, 4, none⟩ v') vC vS vF vN v' zS zF zN (zT ++ [([u], x)]) := by
  have hlt := h.lt
  have hrb : ∀ q, vT.ownBlock = some q → w0.heap.size + 1 ≤ q ∧ q < W.heap.size := fun q e => h.oT.lt q e
  have hb1 : w1.heap[w0.heap.size]? = some (.cells #[vC, vS, vF, vN, vT] 37 (0, 0)) := by
    rw [hg.block w0.heap.size (by simp; omega) (fun e => by have := (hrb _ e.symm).1; omega), Below.heap_alloc _ _ _ hlt]
    exact h.blk
  have hst : ∀ t, t ∉ [84, 37] → Stp w0.heap.size [t] W (w1.setCell ⟨w0.heap.size, 4, none⟩ v') := fun t ht =>
    (((Stp.refl _ _ _).alloc _).trans (Stp.row hg (h.oT.alloc _) (fun e => ht (by simp at e; simp [e])))).trans (Stp.set hb1 (fun e => ht (by simp at e; simp [← e])) 4 v')
  have hB1 : Below w0.heap.size w0 w1 := (h.below.alloc h.below.size _).grown hg (by have := h.below.size; simp; omega) (fun q e => by have := (hrb q e).1; omega)
  refine ⟨hB1.setCell (by simp) _, heap_set hb1 v', ?_, ?_, ?_, ?_, ?_, ?_, ?_, ?_⟩
  · exact ownsRow_setCell_below ((h.oS.alloc _).kept hg (own_types h.oS h.oT (by decide))) (by simp) _
  · exact h.aS
  · exact ownsRow_setCell_below ((h.oF.alloc _).kept hg (own_types h.oF h.oT (by decide))) (by simp) _
  · exact fun z hz => ⟨(h.aF z hz).1, (h.aF z hz).2.stp (hst _ (by decide)) fun _ _ _ _ _ _ h => h⟩
  · exact ownsRow_setCell_below ((h.oN.alloc _).kept hg (own_types h.oN h.oT (by decide))) (by simp) _
  · exact fun z hz => ⟨(h.aN z hz).1, (h.aN z hz).2.stp (hst _ (by decide)) fun _ _ _ _ _ _ h => h⟩
  · rw [List.length_append, snoc_flat]
    exact ownsRow_setCell_below ho (by simp) _
  · intro z hz
    rcases List.mem_append.1 hz with hz | hz
    · exact ⟨(h.aT z hz).1, (h.aT z hz).2.stp (hst _ (by decide)) fun _ _ _ _ _ _ h => h⟩
    · rw [List.mem_singleton] at hz
      subst hz
      exact ⟨rfl, RSl.stp ⟨u, rfl, hu⟩ (hst _ (by decide)) fun _ _ _ _ _ _ h => h⟩

theorem Lv.stpS {w0 W : World} {vC vS vF vN vT : Value} {zS : List (List Value × Int)} {zF : List (List Value × (List FieldD))} {zN : List (List Value × (List ByteArray))} {zT : List (List Value × (List TargD))} (h : Lv w0 W vC vS vF vN vT zS zF zN zT) {u : Value} {w1 : World} {v' : Value} {n : Nat} {xs : List Value}
    (_ : w1.ownsRow (w0.heap.size + 1) 3 1 v' n xs) (hg : (W.alloc (.cells #[u] 3)).grownBy w1 vS.ownBlock) (t : Nat) (ht : t ∉ [3, 37]) :
    Stp w0.heap.size [t] W (w1.setCell ⟨w0.heap.size, 1, none⟩ v') := by
  have hlt := h.lt
  have hrb : ∀ q, vS.ownBlock = some q → w0.heap.size + 1 ≤ q ∧ q < W.heap.size := fun q e => h.oS.lt q e
  have hb1 : w1.heap[w0.heap.size]? = some (.cells #[vC, vS, vF, vN, vT] 37 (0, 0)) := by
    rw [hg.block w0.heap.size (by simp; omega) (fun e => by have := (hrb _ e.symm).1; omega), Below.heap_alloc _ _ _ hlt]
    exact h.blk
  exact (((Stp.refl _ _ _).alloc _).trans (Stp.row hg (h.oS.alloc _) (fun e => ht (by simp at e; simp [e])))).trans (Stp.set hb1 (fun e => ht (by simp at e; simp [← e])) 1 v')

theorem Lv.stpF {w0 W : World} {vC vS vF vN vT : Value} {zS : List (List Value × Int)} {zF : List (List Value × (List FieldD))} {zN : List (List Value × (List ByteArray))} {zT : List (List Value × (List TargD))} (h : Lv w0 W vC vS vF vN vT zS zF zN zT) {u : Value} {w1 : World} {v' : Value} {n : Nat} {xs : List Value}
    (_ : w1.ownsRow (w0.heap.size + 1) 49 1 v' n xs) (hg : (W.alloc (.cells #[u] 49)).grownBy w1 vF.ownBlock) (t : Nat) (ht : t ∉ [49, 37]) :
    Stp w0.heap.size [t] W (w1.setCell ⟨w0.heap.size, 2, none⟩ v') := by
  have hlt := h.lt
  have hrb : ∀ q, vF.ownBlock = some q → w0.heap.size + 1 ≤ q ∧ q < W.heap.size := fun q e => h.oF.lt q e
  have hb1 : w1.heap[w0.heap.size]? = some (.cells #[vC, vS, vF, vN, vT] 37 (0, 0)) := by
    rw [hg.block w0.heap.size (by simp; omega) (fun e => by have := (hrb _ e.symm).1; omega), Below.heap_alloc _ _ _ hlt]
    exact h.blk
  exact (((Stp.refl _ _ _).alloc _).trans (Stp.row hg (h.oF.alloc _) (fun e => ht (by simp at e; simp [e])))).trans (Stp.set hb1 (fun e => ht (by simp at e; simp [← e])) 2 v')

theorem Lv.stpN {w0 W : World} {vC vS vF vN vT : Value} {zS : List (List Value × Int)} {zF : List (List Value × (List FieldD))} {zN : List (List Value × (List ByteArray))} {zT : List (List Value × (List TargD))} (h : Lv w0 W vC vS vF vN vT zS zF zN zT) {u : Value} {w1 : World} {v' : Value} {n : Nat} {xs : List Value}
    (_ : w1.ownsRow (w0.heap.size + 1) 54 1 v' n xs) (hg : (W.alloc (.cells #[u] 54)).grownBy w1 vN.ownBlock) (t : Nat) (ht : t ∉ [54, 37]) :
    Stp w0.heap.size [t] W (w1.setCell ⟨w0.heap.size, 3, none⟩ v') := by
  have hlt := h.lt
  have hrb : ∀ q, vN.ownBlock = some q → w0.heap.size + 1 ≤ q ∧ q < W.heap.size := fun q e => h.oN.lt q e
  have hb1 : w1.heap[w0.heap.size]? = some (.cells #[vC, vS, vF, vN, vT] 37 (0, 0)) := by
    rw [hg.block w0.heap.size (by simp; omega) (fun e => by have := (hrb _ e.symm).1; omega), Below.heap_alloc _ _ _ hlt]
    exact h.blk
  exact (((Stp.refl _ _ _).alloc _).trans (Stp.row hg (h.oN.alloc _) (fun e => ht (by simp at e; simp [e])))).trans (Stp.set hb1 (fun e => ht (by simp at e; simp [← e])) 3 v')

theorem Lv.stpT {w0 W : World} {vC vS vF vN vT : Value} {zS : List (List Value × Int)} {zF : List (List Value × (List FieldD))} {zN : List (List Value × (List ByteArray))} {zT : List (List Value × (List TargD))} (h : Lv w0 W vC vS vF vN vT zS zF zN zT) {u : Value} {w1 : World} {v' : Value} {n : Nat} {xs : List Value}
    (_ : w1.ownsRow (w0.heap.size + 1) 84 1 v' n xs) (hg : (W.alloc (.cells #[u] 84)).grownBy w1 vT.ownBlock) (t : Nat) (ht : t ∉ [84, 37]) :
    Stp w0.heap.size [t] W (w1.setCell ⟨w0.heap.size, 4, none⟩ v') := by
  have hlt := h.lt
  have hrb : ∀ q, vT.ownBlock = some q → w0.heap.size + 1 ≤ q ∧ q < W.heap.size := fun q e => h.oT.lt q e
  have hb1 : w1.heap[w0.heap.size]? = some (.cells #[vC, vS, vF, vN, vT] 37 (0, 0)) := by
    rw [hg.block w0.heap.size (by simp; omega) (fun e => by have := (hrb _ e.symm).1; omega), Below.heap_alloc _ _ _ hlt]
    exact h.blk
  exact (((Stp.refl _ _ _).alloc _).trans (Stp.row hg (h.oT.alloc _) (fun e => ht (by simp at e; simp [e])))).trans (Stp.set hb1 (fun e => ht (by simp at e; simp [← e])) 4 v')

theorem Lv.rlk {w0 W : World} {vC vS vF vN vT : Value} {zS : List (List Value × Int)} {zF : List (List Value × (List FieldD))} {zN : List (List Value × (List ByteArray))} {zT : List (List Value × (List TargD))} {l : List ClassD} {B : Nat} (h : Lv w0 W vC vS vF vN vT zS zF zN zT) (hB : B ≤ w0.heap.size) (hC : SL 4 RC (· < B) W vC l) (h1 : zS.length ≤ 1000) (h2 : zF.length ≤ 1000) (h3 : zN.length ≤ 1000) (h4 : zT.length ≤ 1000) :
    RLk (fun k => (k < B ∨ w0.heap.size ≤ k) ∧ k < W.heap.size) W vC vS vF vN vT ⟨l, zS.map (·.2), zF.map (·.2), zN.map (·.2), zT.map (·.2)⟩ := by
  have hm : ∀ {T : List Nat} (k : Nat), MT w0.heap.size T W k → (k < B ∨ w0.heap.size ≤ k) ∧ k < W.heap.size := fun k hk => ⟨Or.inr hk.1, hk.lt⟩
  have sS := own_SL (n := 1) (R := RI) (T := [3]) (own_lower h.oS (B' := w0.heap.size) (by omega)) (fun z hz => ⟨by rw [h.aS z hz]; rfl, h.aS z hz⟩) (by simp) (by unfold maxLen; omega)
  have sF := own_SL (n := 1) (R := RSl 3 RF) (T := [53, 49]) (own_lower h.oF (B' := w0.heap.size) (by omega)) (fun z hz => ⟨(h.aF z hz).1, by
    obtain ⟨v, e, hs⟩ := (h.aF z hz).2
    exact ⟨v, e, hs.mono (fun _ hk => hk.more (Nat.le_refl _) (fun _ ht => by simp at ht; simp [ht])) fun _ _ h => h⟩⟩) (by simp) (by unfold maxLen; omega)
  have sN := own_SL (n := 1) (R := RSl 1 RS) (T := [9, 54]) (own_lower h.oN (B' := w0.heap.size) (by omega)) (fun z hz => ⟨(h.aN z hz).1, by
    obtain ⟨v, e, hs⟩ := (h.aN z hz).2
    exact ⟨v, e, hs.mono (fun _ hk => hk.more (Nat.le_refl _) (fun _ ht => by simp at ht; simp [ht])) fun _ _ h => h⟩⟩) (by simp) (by unfold maxLen; omega)
  have sT := own_SL (n := 1) (R := RSl 2 RT) (T := [110, 84]) (own_lower h.oT (B' := w0.heap.size) (by omega)) (fun z hz => ⟨(h.aT z hz).1, by
    obtain ⟨v, e, hs⟩ := (h.aT z hz).2
    exact ⟨v, e, hs.mono (fun _ hk => hk.more (Nat.le_refl _) (fun _ ht => by simp at ht; simp [ht])) fun _ _ h => h⟩⟩) (by simp) (by unfold maxLen; omega)
  exact ⟨hC.monoC (fun k (hk : k < B) => ⟨Or.inl hk, by have := h.below.size; omega⟩), sS.monoI hm, sF.monoSl hm (fun _ _ h => h), sN.monoSl hm (fun _ _ h => h), sT.monoSl hm (fun _ _ h => h)⟩
end Go.Proofs.YtaekpdcnnkmahaaGreatDoor
