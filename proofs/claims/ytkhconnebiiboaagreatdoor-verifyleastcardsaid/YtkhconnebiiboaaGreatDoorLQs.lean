/- The contract of Ask: questions in their order. -/
import Derived.Test.YtkhconnebiiboaaGreatDoorLMk
import Derived.Test.YtkhconnebiiboaaGreatDoorGrow
import Derived.Test.YtkhconnebiiboaaGreatDoorDies
namespace Go.Proofs.YtkhconnebiiboaaGreatDoor
open Go.RowKit Go.Maps

theorem wp_region_diesg_lit {P : Program} {id : Nat} {Q : Exit → Act → World → Prop} {a : Act} {w : World} {L l : List Oper} {z : Oper} (B : Nat) (W : World) (R : List PanicEntry → World → Prop) (hm : P.follows .mixedOrders = true) (hB : Region.lexB .any L.toArray = true)
    (hz : L.getLast? = some z) (hl : L.dropLast = l) (hw : Below B W w)
    (hR : ∀ chain a' w, a'.defers = a.defers → R chain w → Q (.panic chain) a' w)
    (h : wpQuiet P L.toArray (fun w' => ∃ g : Gr B W, w' = g.w) (fun a' => DiesIn P L.toArray (fun w' => ∃ g : Gr B W, w' = g.w) R z a') l a) : (Code.region id L.toArray true).wp P Q a w := by
  have e : L = l ++ [z] := by
    obtain ⟨ys, e⟩ := List.getLast?_eq_some_iff.1 hz
    rw [← hl, e, List.dropLast_concat]
  subst e
  simp only [Region.lexB, Bool.and_eq_true] at hB
  refine wp_region_any hm (wpAny_of_dies (R := R) (Q := fun _ => False) (C := fun w' => ∃ g : Gr B W, w' = g.w) hR (fun _ _ _ h => h.elim) _ _ _ _ rfl ⟨⟨_, hw.drew⟩, rfl⟩ ?_)
  have := wpAnyD_lex (Q := fun _ => False) (C := fun w' => ∃ g : Gr B W, w' = g.w) (R := R) (md := .any) (z := z) hB.1 l 0 (Array.replicate (l ++ [z]).toArray.size false) a (by simp) (by simpa using hB.2) h
  simpa using this

/-- A question: what answers it, what is told if the answer is no, the answer. -/
structure QD where
  g : Nat
  e : Int
  ans : Bool
def RQ (first : Array Value) (_ : Nat → Prop) (_ : World) (cs : List Value) (q : QD) : Prop := cs = [.func (.func q.g) first #[], .int .i64 q.e]
theorem SL.atQ {first : Array Value} {M : Nat → Prop} {w : World} {ao : Option Addr} {len cap : Nat} {l : List QD} (h : SL 2 (RQ first) M w (.slice ao len cap) l) (k : Nat) (hk : k < l.length) :
    ∃ b off, ao = some ⟨b, off, none⟩ ∧ b < w.heap.size ∧ w.cell? ⟨b, off + k * 2, none⟩ = some (.func (.func l[k].g) first #[]) ∧ w.cell? ⟨b, off + k * 2 + 1, none⟩ = some (.int .i64 l[k].e) := by
  obtain ⟨b, off, cs, e, _, hb, _, hc, rfl⟩ := h.at k hk
  exact ⟨b, off, e, hb, hc 0 (by decide), hc 1 (by decide)⟩
def askRes : List QD → Int
  | [] => 0
  | q :: l => if q.ans then askRes l else q.e
theorem askRes_drop (l : List QD) (k : Nat) (hk : k < l.length) : askRes (l.drop k) = if l[k].ans then askRes (l.drop (k + 1)) else l[k].e := by
  rw [List.drop_eq_getElem_cons hk, askRes]

set_option maxRecDepth 100000 in
set_option maxHeartbeats 2000000 in
theorem Ask_any (w : World) (B : Nat) (first : Array Value) (v : Value) (l : List QD) (hv : SL 2 (RQ first) (· < B) w v l) (hB : B ≤ w.heap.size) (hcf : ∀ q ∈ l, ∀ args w, (callFunc q.g args).run Tryz.prog w = .ok (.enter q.g args) w) (he : ∀ q ∈ l, q.e ≠ 0)
    (hc : ∀ (k : Nat) (hk : k < l.length), (∀ (j : Nat) (hj : j < l.length), j < k → l[j].ans = true) → ∀ w', Below w.heap.size w w' → Calls Tryz.prog l[k].g first w' fun r w'' => r = .returned (.bool l[k].ans) ∧ Below w'.heap.size w' w'') :
    Calls Tryz.prog 69 #[v] w fun r w' => ChkOut (askRes l) r ∧ Below w.heap.size w w' := by
  have hsf : ∀ (a : Addr) (w : World) (fn : Fn) (first cap : Array Value), (store a (.func fn first cap)).run Tryz.prog w = stored Tryz.prog w a (.func fn first cap) .plain := fun a w fn first cap => run_store _ w a _ _ rfl
  have HV := mkHid hv
  have HC := mkHid hc
  have HE := mkHid he
  have HF := mkHid hcf
  obtain ⟨ao, cl, rfl, -, hl, -⟩ := hv
  unfold maxLen at hl
  clear hc he hcf
  go_enter Tryz.func69, Tryz.ntmps69
  go_wp2_with fail
  go_loopw [6] (fun i wr => ∃ k : Nat, k ≤ l.length ∧ i = .int .i64 k ∧ Hid (askRes l = askRes (l.drop k) ∧ (∀ (j : Nat) (hj : j < l.length), j < k → l[j].ans = true) ∧ Below w.heap.size w wr)) (fun i _ => l.length - (intOf i).toNat)
  case atStart => exact ⟨0, Nat.zero_le _, rfl, rfl, (fun _ _ h => by omega), Below.refl _ _⟩
  case round =>
    obtain ⟨k, hk, rfl, HQ⟩ := hrel
    have hsr : w.heap.size ≤ wr.heap.size := HQ.out.2.2.size
    by_cases hlt : k < l.length
    · obtain ⟨b, off, rfl, hb, c0, c1⟩ := (HV.out.kept (Kp.below (HQ.out.2.2.mono hB)) fun _ _ h => h).atQ k hlt
      have hB1 := (Below.refl wr.heap.size wr).alloc (Nat.le_refl _) (.cells #[.func (.func l[k].g) first #[], .int .i64 l[k].e] 126)
      obtain ⟨W0, hW⟩ : ∃ W0, W0 = wr.alloc (.cells #[.func (.func l[k].g) first #[], .int .i64 l[k].e] 126) := ⟨_, rfl⟩
      have hz : wr.heap.size + 1 ≤ W0.heap.size := by rw [hW]; simp
      rw [← hW] at hB1
      have hne : Nonempty (Gr (wr.heap.size + 1) W0) := ⟨⟨W0, Below.refl _ _⟩⟩
      have ky0 : ∀ g : Gr (wr.heap.size + 1) W0, g.w.cell? ⟨wr.heap.size, 0, none⟩ = some (.func (.func l[k].g) first #[]) := fun g => (g.ok.cell (p := ⟨wr.heap.size, 0, none⟩) (by simp)).trans (by rw [hW]; simp [go_sem])
      have ky1 : ∀ g : Gr (wr.heap.size + 1) W0, g.w.cell? ⟨wr.heap.size, 1, none⟩ = some (.int .i64 l[k].e) := fun g => (g.ok.cell (p := ⟨wr.heap.size, 1, none⟩) (by simp)).trans (by rw [hW]; simp [go_sem])
      have HBG : Hid (∀ g : Gr (wr.heap.size + 1) W0, Below w.heap.size w g.w) := fun g => HQ.out.2.2.trans ((hB1.mono hsr).trans (g.ok.mono (by omega)))
      have HCX : Hid (∀ g : Gr (wr.heap.size + 1) W0, Calls Tryz.prog l[k].g first g.w fun e w'' => e = .returned (.bool l[k].ans) ∧ ∃ g' : Gr (wr.heap.size + 1) W0, w'' = g'.w) := fun g => Gr.calls g hz (HC.out k hlt HQ.out.2.1 g.w (HBG.out g))
      have HDY : Hid (∀ g : Gr (wr.heap.size + 1) W0, Calls Tryz.prog 24 #[.bool true, .int .i64 l[k].e] g.w fun e w'' => e = .returned (.tuple #[]) ∧ ∃ g' : Gr (wr.heap.size + 1) W0, w'' = g'.w) := fun g => (demand_any g.w true l[k].e).mono (by
        rintro e w' ⟨rfl, h | h⟩
        · exact absurd h.1 (by simp)
        · exact ⟨h.2, g, rfl⟩)
      have hcf := HF.out l[k] (List.getElem_mem hlt)
      have HEK := mkHid (HE.out l[k] (List.getElem_mem hlt))
      have HST := mkHid (askRes_drop l k hlt)
      have HAN : Hid (l[k].ans = true → ∀ (j : Nat) (hj : j < l.length), j < k + 1 → l[j].ans = true) := fun ha j hj hjk => by
        by_cases hjk' : j < k
        · exact HQ.out.2.1 j hj hjk'
        · have : j = k := by omega
          subst this
          exact ha
      have HB1 := mkHid hB1
      have h00 : (0 : Int) ≤ k := by omega
      have h01 : (k : Int) < l.length := by omega
      clear hB1
      generalize l[k] = q at *
      obtain ⟨qg, qe, qa⟩ := q
      dsimp only at *
      go_wp2_with fail
      rw [← hW]
      clear hW
      cases qa with
      | true =>
        refine wp_region_grow_lit (wr.heap.size + 1) W0 (by kernel_rfl) (by kernel_rfl) (Below.refl _ _) ?_
        repeat (go_big_quiet_step (first | (go_at_call 24; exact HDY.out _) | (exact HCX.out _)))
        refine wpQuiet_nil ?_
        intro _ hw'
        obtain ⟨g, rfl⟩ := hw'
        have HFIN : Hid (askRes l = askRes (l.drop (k + 1)) ∧ (∀ (j : Nat) (hj : j < l.length), j < k + 1 → l[j].ans = true) ∧ Below w.heap.size w g.w) := ⟨HQ.out.1.trans (HST.out.trans (if_pos rfl)), HAN.out rfl, HBG.out g⟩
        generalize g.w = w2 at *
        clear ky0 ky1 hne hcf
        go_wp2_with fail
        go_roundw
        case rel => exact ⟨k + 1, by omega, by go_num, HFIN.out⟩
        case measure => simp [intOf]; omega
      | false =>
        have HDN : Hid (∀ g : Gr (wr.heap.size + 1) W0, Calls Tryz.prog 24 #[.bool false, .int .i64 qe] g.w fun e w'' => e = .panicked [wrongV qe 0] ∧ Below w.heap.size w w'') := fun g => (demand_any g.w false qe).mono (by
          rintro e w' ⟨h0, h | h⟩
          · exact ⟨h.2, h0 ▸ HBG.out g⟩
          · exact absurd h.1 (by simp))
        have HFIN : Hid (askRes l = qe ∧ qe ≠ 0) := ⟨HQ.out.1.trans (HST.out.trans (if_neg (by simp))), HEK.out⟩
        refine wp_region_diesg_lit (wr.heap.size + 1) W0 (fun chain w' => chain = [wrongV qe 0] ∧ Below w.heap.size w w') (by kernel_rfl) (by kernel_rfl) rfl (by simp only [List.dropLast]; rfl) (Below.refl _ _) ?_ ?_
        · rintro chain a' w' hd ⟨rfl, hg⟩
          exact ⟨hd, Or.inl ⟨by rw [HFIN.out.1]; exact HFIN.out.2, by rw [HFIN.out.1]⟩, hg⟩
        · repeat (go_big_quiet_step (first | (exact HCX.out _)))
          refine wpQuiet_nil ?_
          refine ⟨rfl, ?_⟩
          intro _ hw'
          obtain ⟨g, rfl⟩ := hw'
          go_simp
          refine ⟨rfl, (HDN.out g).mono ?_⟩
          rintro e w' ⟨rfl, hg⟩
          exact ⟨_, rfl, rfl, hg⟩
    · have HR : Hid (askRes l = 0) := HQ.out.1.trans (by rw [List.drop_of_length_le (by omega)]; rfl)
      go_wp2_with fail
      go_end0
      exact ⟨Or.inr ⟨HR.out, rfl⟩, HQ.out.2.2⟩
end Go.Proofs.YtkhconnebiiboaaGreatDoor
