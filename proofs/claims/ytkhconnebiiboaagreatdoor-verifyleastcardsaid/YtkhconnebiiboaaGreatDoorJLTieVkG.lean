/- The contracts of askAll and of tie. -/
import Derived.Test.YtkhconnebiiboaaGreatDoorJLSaDLSa
import Derived.Test.YtkhconnebiiboaaGreatDoorLDif
import Derived.Test.YtkhconnebiiboaaGreatDoorJLWvLWea
import Derived.Test.YtkhconnebiiboaaGreatDoorJLMadeVnK
import Derived.Test.YtkhconnebiiboaaGreatDoorLCp
import Derived.Test.YtkhconnebiiboaaGreatDoorLMk
import Derived.Test.YtkhconnebiiboaaGreatDoorVkI
import Derived.Test.YtkhconnebiiboaaGreatDoorJVkNVkF
import Derived.Deep.RegionLaw
import Derived.Deep.DeepCutAuto
import Derived.Deep.RegionHeld3
namespace Go.Proofs.YtkhconnebiiboaaGreatDoor
open Go.RowKit Go.Maps

def qsOf (l : List ClassD) : List QD := [⟨70, 6, askNames l⟩, ⟨71, 5, askTop l⟩, ⟨72, 4, askUpper l⟩, ⟨73, 5, askSupers l⟩, ⟨74, 4, askNone l⟩, ⟨75, 4, askError l⟩, ⟨76, 5, askTold l⟩, ⟨77, 6, askParts l⟩, ⟨78, 4, askSame l⟩, ⟨79, 2, askFew l⟩]
/-- What is told of classes that pass image's Check. -/
def tieRes (l : List ClassD) : Int := if checkL l = 0 then askRes (qsOf l) else checkL l

theorem qs_SL (w : World) (b t : Nat) (l : List ClassD) : SL 2 (RQ #[.pointer (some ⟨b, 0, none⟩)]) (· < w.heap.size + 1) (w.alloc (.cells #[.func (.func 70) #[.pointer (some ⟨b, 0, none⟩)] #[], .int .i64 6, .func (.func 71) #[.pointer (some ⟨b, 0, none⟩)] #[], .int .i64 5, .func (.func 72) #[.pointer (some ⟨b, 0, none⟩)] #[], .int .i64 4, .func (.func 73) #[.pointer (some ⟨b, 0, none⟩)] #[], .int .i64 5, .func (.func 74) #[.pointer (some ⟨b, 0, none⟩)] #[], .int .i64 4, .func (.func 75) #[.pointer (some ⟨b, 0, none⟩)] #[], .int .i64 4, .func (.func 76) #[.pointer (some ⟨b, 0, none⟩)] #[], .int .i64 5, .func (.func 77) #[.pointer (some ⟨b, 0, none⟩)] #[], .int .i64 6, .func (.func 78) #[.pointer (some ⟨b, 0, none⟩)] #[], .int .i64 4, .func (.func 79) #[.pointer (some ⟨b, 0, none⟩)] #[], .int .i64 2] t)) (.slice (some ⟨w.heap.size, 0, none⟩) 10 10) (qsOf l) := by
  refine ⟨some ⟨w.heap.size, 0, none⟩, 10, rfl, by simp [qsOf], by unfold maxLen; simp [qsOf], fun k hk => ?_⟩
  have hk' : k < 10 := by simpa [qsOf] using hk
  refine ⟨w.heap.size, 0, [.func (.func (qsOf l)[k].g) #[.pointer (some ⟨b, 0, none⟩)] #[], .int .i64 (qsOf l)[k].e], rfl, by simp, by simp, rfl, ?_, rfl⟩
  have hc : ∀ j v, (#[.func (.func 70) #[.pointer (some ⟨b, 0, none⟩)] #[], .int .i64 6, .func (.func 71) #[.pointer (some ⟨b, 0, none⟩)] #[], .int .i64 5, .func (.func 72) #[.pointer (some ⟨b, 0, none⟩)] #[], .int .i64 4, .func (.func 73) #[.pointer (some ⟨b, 0, none⟩)] #[], .int .i64 5, .func (.func 74) #[.pointer (some ⟨b, 0, none⟩)] #[], .int .i64 4, .func (.func 75) #[.pointer (some ⟨b, 0, none⟩)] #[], .int .i64 4, .func (.func 76) #[.pointer (some ⟨b, 0, none⟩)] #[], .int .i64 5, .func (.func 77) #[.pointer (some ⟨b, 0, none⟩)] #[], .int .i64 6, .func (.func 78) #[.pointer (some ⟨b, 0, none⟩)] #[], .int .i64 4, .func (.func 79) #[.pointer (some ⟨b, 0, none⟩)] #[], .int .i64 2] : Array Value)[j]? = some v → (w.alloc (.cells #[.func (.func 70) #[.pointer (some ⟨b, 0, none⟩)] #[], .int .i64 6, .func (.func 71) #[.pointer (some ⟨b, 0, none⟩)] #[], .int .i64 5, .func (.func 72) #[.pointer (some ⟨b, 0, none⟩)] #[], .int .i64 4, .func (.func 73) #[.pointer (some ⟨b, 0, none⟩)] #[], .int .i64 5, .func (.func 74) #[.pointer (some ⟨b, 0, none⟩)] #[], .int .i64 4, .func (.func 75) #[.pointer (some ⟨b, 0, none⟩)] #[], .int .i64 4, .func (.func 76) #[.pointer (some ⟨b, 0, none⟩)] #[], .int .i64 5, .func (.func 77) #[.pointer (some ⟨b, 0, none⟩)] #[], .int .i64 6, .func (.func 78) #[.pointer (some ⟨b, 0, none⟩)] #[], .int .i64 4, .func (.func 79) #[.pointer (some ⟨b, 0, none⟩)] #[], .int .i64 2] t)).cell? ⟨w.heap.size, j, none⟩ = some v := fun j v h => cell_of (heap_alloc_new w _) j h
  match k, hk' with
  | 0, _ =>
    intro j hj
    rcases (by omega : j = 0 ∨ j = 1) with rfl | rfl
    · exact hc 0 _ rfl
    · exact hc 1 _ rfl
  | 1, _ =>
    intro j hj
    rcases (by omega : j = 0 ∨ j = 1) with rfl | rfl
    · exact hc 2 _ rfl
    · exact hc 3 _ rfl
  | 2, _ =>
    intro j hj
    rcases (by omega : j = 0 ∨ j = 1) with rfl | rfl
    · exact hc 4 _ rfl
    · exact hc 5 _ rfl
  | 3, _ =>
    intro j hj
    rcases (by omega : j = 0 ∨ j = 1) with rfl | rfl
    · exact hc 6 _ rfl
    · exact hc 7 _ rfl
  | 4, _ =>
    intro j hj
    rcases (by omega : j = 0 ∨ j = 1) with rfl | rfl
    · exact hc 8 _ rfl
    · exact hc 9 _ rfl
  | 5, _ =>
    intro j hj
    rcases (by omega : j = 0 ∨ j = 1) with rfl | rfl
    · exact hc 10 _ rfl
    · exact hc 11 _ rfl
  | 6, _ =>
    intro j hj
    rcases (by omega : j = 0 ∨ j = 1) with rfl | rfl
    · exact hc 12 _ rfl
    · exact hc 13 _ rfl
  | 7, _ =>
    intro j hj
    rcases (by omega : j = 0 ∨ j = 1) with rfl | rfl
    · exact hc 14 _ rfl
    · exact hc 15 _ rfl
  | 8, _ =>
    intro j hj
    rcases (by omega : j = 0 ∨ j = 1) with rfl | rfl
    · exact hc 16 _ rfl
    · exact hc 17 _ rfl
  | 9, _ =>
    intro j hj
    rcases (by omega : j = 0 ∨ j = 1) with rfl | rfl
    · exact hc 18 _ rfl
    · exact hc 19 _ rfl
  | k + 10, h => exact absurd h (by omega)

theorem qs_call (l : List ClassD) : ∀ q ∈ qsOf l, ∀ args w, (callFunc q.g args).run Tryz.prog w = .ok (.enter q.g args) w := by
  intro q hq
  simp only [qsOf, List.mem_cons, List.not_mem_nil, or_false] at hq
  rcases hq with rfl | rfl | rfl | rfl | rfl | rfl | rfl | rfl | rfl | rfl <;> intro args w <;> kernel_rfl
theorem qs_err (l : List ClassD) : ∀ q ∈ qsOf l, q.e ≠ 0 := by
  intro q hq
  simp only [qsOf, List.mem_cons, List.not_mem_nil, or_false] at hq
  rcases hq with rfl | rfl | rfl | rfl | rfl | rfl | rfl | rfl | rfl | rfl <;> simp
theorem qs_ans (w : World) (B b : Nat) (l : List ClassD) (vC vS vF vN vT vL : Value) (Bm : Nat) (hw1 : Web B w b l vC vS vF vN vT vL Bm) (k : Nat) (hk : k < (qsOf l).length) (hall : ∀ (j : Nat) (hj : j < (qsOf l).length), j < k → (qsOf l)[j].ans = true) :
    Calls Tryz.prog (qsOf l)[k].g #[.pointer (some ⟨b, 0, none⟩)] w fun r w' => r = .returned (.bool (qsOf l)[k].ans) ∧ Below w.heap.size w w' := by
    match k, hk, hall with
    | 0, hk, hall => exact namesDiffer_any _ B b l _ _ _ _ _ _ _ hw1
    | 1, hk, hall => exact hasTopAndError_any _ B b l _ _ _ _ _ _ _ hw1
    | 2, hk, hall => exact topAlone_any _ B b l _ _ _ _ _ _ _ hw1
    | 3, hk, hall => exact supersAreKnown_any _ B b l _ _ _ _ _ _ _ hw1
    | 4, hk, hall => exact noneIsAboveItself_any _ B b l _ _ _ _ _ _ _ hw1
    | 5, hk, hall => exact errorIsRight_any _ B b l _ _ _ _ _ _ _ hw1 (by have h := hall 1 (by simp [qsOf]) (by omega); have h2 : askTop l = true := h; rw [askTop, Bool.and_eq_true] at h2; simpa [hasC] using h2.2)
    | 6, hk, hall => exact allToldIsKnown_any _ B b l _ _ _ _ _ _ _ hw1
    | 7, hk, hall => exact partsDiffer_any _ B b l _ _ _ _ _ _ _ hw1
    | 8, hk, hall => exact namesStand_any _ B b l _ _ _ _ _ _ _ hw1 (hall 3 (by simp [qsOf]) (by omega))
    | 9, hk, hall => exact areFew_any _ B b l _ _ _ _ _ _ _ hw1
    | k + 10, hk, _ => exact absurd hk (by simp [qsOf])

set_option maxRecDepth 100000 in
set_option maxHeartbeats 2000000 in
theorem askAll_any (w : World) (B b : Nat) (l : List ClassD) (vC vS vF vN vT vL : Value) (Bm : Nat) (hw : Web B w b l vC vS vF vN vT vL Bm) :
    Calls Tryz.prog 36 #[.pointer (some ⟨b, 0, none⟩)] w fun r w' => ChkOut (askRes (qsOf l)) r ∧ Below w.heap.size w w' := by
  have hmf : ∀ (fn : Fn) (first cap : Array Value) (w : World), (Instr.makeFunc fn first cap).run Tryz.prog w = .ok (.func fn first cap) w := fun _ _ _ _ => rfl
  have HW := mkHid hw
  have HB0 := mkHid (fun o => (Below.refl w.heap.size w).alloc (Nat.le_refl _) o)
  have HQ := mkHid (fun t => qs_SL w b t l)
  clear hw
  go_enter Tryz.func36, Tryz.ntmps36
  go_wp2_with fail
  refine (Ask_any _ (w.heap.size + 1) #[.pointer (some ⟨b, 0, none⟩)] _ (qsOf l) (HQ.out _) (by simp) (qs_call l) (qs_err l) ?_).mono ?_
  · intro k hk hall w' hb
    exact qs_ans w' B b l _ _ _ _ _ _ _ (HW.out.below (((HB0.out _).mono HW.out.le).trans (hb.mono (Nat.le_trans HW.out.le (HB0.out _).size)))) k hk hall
  rintro r w1 ⟨⟨hc, rfl⟩ | ⟨hc, rfl⟩, hb⟩
  · exact ⟨rfl, Or.inl ⟨hc, rfl⟩, (HB0.out _).trans (hb.mono (HB0.out _).size)⟩
  · have HC := mkHid hc
    have HB := mkHid ((HB0.out _).trans (hb.mono (HB0.out _).size))
    clear hc hb
    go_wp2_with fail
    go_end0
    exact ⟨Or.inr ⟨HC.out, rfl⟩, HB.out⟩

/-- A web in memory, beside what was there. -/
def TiedW (B : Nat) (w : World) (l : List ClassD) (v : Value) (p : Value) (w' : World) : Prop := ∃ b vS vF vN vT vL Bm, p = .pointer (some ⟨b, 0, none⟩) ∧ w.heap.size ≤ b ∧ WebM (fun k => (k < B ∨ w.heap.size ≤ k) ∧ k < w'.heap.size) w' b l v vS vF vN vT vL Bm

set_option maxHeartbeats 2000000 in
theorem tie1_any (w : World) (B P : Nat) (l : List ClassD) (v : Value) (hv : SL 4 RC (· < B) w v l) (hB : B ≤ w.heap.size) (hchk : checkL l = 0) (hP : w.cell? ⟨P, 0, none⟩ = some v) :
    Calls Tryz.prog 34 #[.pointer (some ⟨P, 0, none⟩)] w fun r w' => Below w.heap.size w w' ∧
      ((∃ p, r = .returned p ∧ (∃ q, p = .pointer q) ∧ askRes (qsOf l) = 0 ∧ TiedW B w l v p w') ∨ ∃ e p, r = .panicked [wrongV e p] ∧ askRes (qsOf l) = e ∧ e ≠ 0) := by
  have HV := mkHid hv
  obtain ⟨ao, cl, rfl, -⟩ := hv
  go_enter Tryz.func34, Tryz.ntmps34
  go_wp2_with fail
  refine (weave_any w B l _ HV.out hB hchk).mono ?_
  rintro r w1 ⟨rfl, hb1, vS, vF, vN, vT, vL, hweb⟩
  have HW := mkHid hweb
  have HB1 := mkHid hb1
  clear hweb hb1
  go_wp2_with fail
  refine (askAll_any w1 w1.heap.size (w.heap.size + 1) l _ _ _ _ _ _ _ HW.out.web).mono ?_
  rintro r w2 ⟨⟨hc, rfl⟩ | ⟨hc, rfl⟩, hb⟩
  · exact ⟨rfl, HB1.out.trans (hb.mono HB1.out.size), Or.inr ⟨_, _, rfl, rfl, hc⟩⟩
  · have HC := mkHid hc
    have HB := mkHid (HB1.out.trans (hb.mono HB1.out.size))
    have HW2 : Hid (TiedW B w l (.slice ao l.length cl) (.pointer (some ⟨w.heap.size + 1, 0, none⟩)) w2) := ⟨_, _, _, _, _, _, _, rfl, by omega, ((HW.out.kept ⟨hb.size, fun k hk _ => hb.block k hk.2⟩).mono (fun k hk => ⟨hk.1, Nat.lt_of_lt_of_le hk.2 hb.size⟩) (fun k hk => hk.2))⟩
    clear hc hb HW
    go_wp2_with fail
    go_ret
    exact ⟨HB.out, Or.inl ⟨_, rfl, ⟨_, rfl⟩, HC.out, HW2.out⟩⟩

theorem callTie1 (args : Array Value) (w : World) : (callFunc 34 args).run Tryz.prog w = .ok (.enter 34 args) w := by kernel_rfl

set_option maxHeartbeats 2000000 in
theorem tie_any (w : World) (B : Nat) (l : List ClassD) (v : Value) (hv : SL 4 RC (· < B) w v l) (hB : B ≤ w.heap.size) :
    Calls Tryz.prog 13 #[v] w fun r w' => Below w.heap.size w w' ∧
      ((tieRes l = 0 ∧ ∃ p, r = .returned (.tuple #[p, .int .i64 0]) ∧ TiedW B w l v p w') ∨ (tieRes l ≠ 0 ∧ r = .returned (.tuple #[.pointer none, .int .i64 (tieRes l)]))) := by
  have hmf : ∀ (fn : Fn) (first cap : Array Value) (w : World), (Instr.makeFunc fn first cap).run Tryz.prog w = .ok (.func fn first cap) w := fun _ _ _ _ => rfl
  have HV := mkHid hv
  obtain ⟨ao, cl, rfl, -⟩ := hv
  have HB0 := mkHid (fun o => (Below.refl w.heap.size w).alloc (Nat.le_refl _) o)
  go_enter Tryz.func13, Tryz.ntmps13
  go_wp2_with fail
  refine (Check_any _ B l _ (HV.out.keptC (Kp.below ((HB0.out _).mono hB))) (Nat.le_trans hB (HB0.out _).size)).mono ?_
  rintro r w1 ⟨rfl, hb1⟩
  have hB1 := (HB0.out (.cells #[.slice ao l.length cl] 22)).trans (hb1.mono (HB0.out _).size)
  have hP1 : w1.cell? ⟨w.heap.size, 0, none⟩ = some (.slice ao l.length cl) := (hb1.cell (p := ⟨w.heap.size, 0, none⟩) (by simp)).trans (by simp [go_sem])
  have hz1 : w.heap.size + 1 ≤ w1.heap.size := by have := hb1.size; simpa using this
  have HB1 := mkHid hB1
  clear hb1 hB1
  by_cases hchk : checkL l = 0
  · have HT : Hid (tieRes l = askRes (qsOf l)) := by show tieRes l = _; rw [tieRes, if_pos hchk]
    have HCK := mkHid hchk
    rw [hchk]
    clear hchk
    go_wp2_with fail
    refine (madeW_any w1 34 _ (fun p w' => askRes (qsOf l) = 0 ∧ ∃ b vS vF vN vT vL Bm, p = .pointer (some ⟨b, 0, none⟩) ∧ w.heap.size ≤ b ∧ WebM (fun k => (k < B ∨ w1.heap.size + 4 ≤ k) ∧ k < w'.heap.size) w' b l (.slice ao l.length cl) vS vF vN vT vL Bm) (fun e p => askRes (qsOf l) = e ∧ e ≠ 0) callTie1 ?hc ?hst).mono ?_
    case hc =>
      intro W hW hWs
      refine (tie1_any W B w.heap.size l _ (HV.out.keptC (Kp.below ((HB1.out.trans (hW.mono HB1.out.size)).mono hB))) (Nat.le_trans hB (HB1.out.trans (hW.mono HB1.out.size)).size) HCK.out ((hW.cell (p := ⟨w.heap.size, 0, none⟩) (by simp; omega)).trans hP1)).mono ?_
      rintro r w2 ⟨hb2, ⟨p, rfl, hp, h0, b, vS, vF, vN, vT, vL, Bm, e, hle, hwb⟩ | ⟨e, p, rfl, h1, h2⟩⟩
      · refine ⟨hb2, Or.inl ⟨p, rfl, hp, h0, b, vS, vF, vN, vT, vL, Bm, e, by omega, ?_⟩⟩
        rw [hWs] at hwb
        exact hwb
      · exact ⟨hb2, Or.inr ⟨e, p, rfl, h1, h2⟩⟩
    case hst =>
      rintro p W W' hz hf ⟨h0, b, vS, vF, vN, vT, vL, Bm, e, hle, hwb⟩
      refine ⟨h0, b, vS, vF, vN, vT, vL, Bm, e, hle, (hwb.kept ⟨hf.size, fun k hk _ => hf.block k hk.2 (by rcases hk.1 with h | h; (have := HB1.out.size; omega); omega)⟩).mono (fun k hk => ⟨hk.1, Nat.lt_of_lt_of_le hk.2 hf.size⟩) (fun k hk => hk.2)⟩
    rintro r w2 ⟨hb2, hz2, ⟨p, rfl, -, h0, b, vS, vF, vN, vT, vL, Bm, rfl, hle, hwb⟩ | ⟨e, p, rfl, h1, h2⟩⟩
    · have HBF := mkHid (fun o => (HB1.out.trans (hb2.mono HB1.out.size)).alloc (Nat.le_trans HB1.out.size hb2.size) o)
      have HR : Hid (∀ o n, tieRes l = 0 ∧ TiedW B w l (.slice ao l.length cl) (.pointer (some ⟨b, 0, none⟩)) ((w2.alloc o).drewN n)) := fun o n => ⟨HT.out.trans h0, b, vS, vF, vN, vT, vL, Bm, rfl, hle, (hwb.kept (w' := (w2.alloc o).drewN n) ⟨by show _ ≤ (w2.alloc o).heap.size; simp, fun k hk _ => Below.heap_alloc _ _ _ hk.2⟩).mono (fun k hk => ⟨hk.1.imp id (fun h => by omega), by show _ < (w2.alloc o).heap.size; have := hk.2; simp; omega⟩) (fun k hk => hk.2)⟩
      clear hwb h0 hb2
      go_wp2_with fail
      go_quiet (fail)
      go_wp2_with fail
      exact bodyPost_ret (v := .tuple #[_, _]) (by simp [results, Tryz.results13, go_sem]) rfl ⟨below_dn (HBF.out _) _, Or.inl ⟨(HR.out (.map #[] 0) 0).1, _, rfl, (HR.out _ _).2⟩⟩
    · have HBF := mkHid (fun o => (HB1.out.trans (hb2.mono HB1.out.size)).alloc (Nat.le_trans HB1.out.size hb2.size) o)
      have HR : Hid (tieRes l = e ∧ e ≠ 0) := ⟨HT.out.trans h1, h2⟩
      clear hb2 h1 h2
      go_wp2_with fail
      go_quiet (fail)
      go_wp2_with fail
      exact bodyPost_ret (v := .tuple #[_, _]) (by simp [results, Tryz.results13, go_sem]; exact ⟨rfl, rfl⟩) rfl ⟨below_dn (HBF.out _) _, Or.inr ⟨by rw [HR.out.1]; exact HR.out.2, by rw [HR.out.1]⟩⟩
  · have HT : Hid (tieRes l = checkL l) := by show tieRes l = _; rw [tieRes, if_neg hchk]
    have hne : (checkL l == 0) = false := beq_eq_false_iff_ne.2 hchk
    have HN := mkHid hchk
    clear hchk
    generalize checkL l = ce at *
    go_wp2_with fail
    exact bodyPost_ret (v := .tuple #[_, _]) (by simp [results, Tryz.results13, go_sem]; exact ⟨rfl, rfl⟩) rfl ⟨HB1.out, Or.inr ⟨by rw [HT.out]; exact HN.out, by rw [HT.out]⟩⟩
end Go.Proofs.YtkhconnebiiboaaGreatDoor
/- The contract of Link. -/
namespace Go.Proofs.YtkhconnebiiboaaGreatDoor
open Go.RowKit Go.Maps

def linkD (l : List ClassD) : LinkD := ⟨l, (List.range l.length).map (supAt l), (List.range l.length).map (fieldsOf l), (List.range l.length).map (namesOf l), (List.range l.length).map (targetsOf l)⟩
def noLink : LinkD := ⟨[], [], [], [], []⟩
def nilLk : Value := .agg #[.slice none 0 0, .slice none 0 0, .slice none 0 0, .slice none 0 0, .slice none 0 0]
theorem RLk.mono {M M' : Nat → Prop} {w : World} {kC kS kF kN kT : Value} {d : LinkD} (h : RLk M w kC kS kF kN kT d) (hM : ∀ k, M k → M' k) : RLk M' w kC kS kF kN kT d :=
  ⟨h.C.monoC hM, h.S.monoI hM, h.F.monoSl hM fun _ _ h => h, h.N.monoSl hM fun _ _ h => h, h.T.monoSl hM fun _ _ h => h⟩
theorem tie_chk {l : List ClassD} (h : tieRes l = 0) : checkL l = 0 := by
  unfold tieRes at h
  by_cases hc : checkL l = 0
  · exact hc
  · rw [if_neg hc] at h; exact h
theorem fine_copy {l : List ClassD} (h : checkL l = 0) : l.length ≤ 100000 ∧ ∀ x ∈ l, x.fields.length ≤ 100000 ∧ x.meths.length ≤ 100000 ∧ ∀ m ∈ x.meths, m.args.length ≤ 100000 ∧ m.hands.length ≤ 100000 := by
  obtain ⟨h1, h2⟩ := list_fine h
  refine ⟨by omega, fun x hx => ?_⟩
  obtain ⟨-, -, h3, -, h4, h5⟩ := h2 x hx
  refine ⟨by omega, by omega, fun m hm => ?_⟩
  obtain ⟨-, h6, -, -, -, -, -, h7, -⟩ := h5 m hm
  exact ⟨by omega, by omega⟩
theorem SL.stpCL {B : Nat} {T : List Nat} {w w' : World} {v : Value} {l : List ClassD} (h : SL 4 RC (MT B T w) w v l) (hs : Stp B T w w') : SL 4 RC (MT B T w') w' v l := (h.keptC hs.kp).monoC fun _ hk => hk.step hs
theorem set5 (W : World) (R t : Nat) (a0 a1 a2 a3 a4 x0 x1 x2 x3 x4 : Value) (h : W.heap[R]? = some (.cells #[a0, a1, a2, a3, a4] t (0, 0))) :
    (((((W.setCell ⟨R, 0, none⟩ x0).setCell ⟨R, 1, none⟩ x1).setCell ⟨R, 2, none⟩ x2).setCell ⟨R, 3, none⟩ x3).setCell ⟨R, 4, none⟩ x4).heap[R]? = some (.cells #[x0, x1, x2, x3, x4] t (0, 0)) ∧
    W.grownBy (((((W.setCell ⟨R, 0, none⟩ x0).setCell ⟨R, 1, none⟩ x1).setCell ⟨R, 2, none⟩ x2).setCell ⟨R, 3, none⟩ x3).setCell ⟨R, 4, none⟩ x4) (some R) :=
  ⟨by
    have h0 : (W.setCell ⟨R, 0, none⟩ x0).heap[R]? = some (.cells #[x0, a1, a2, a3, a4] t (0, 0)) := (heap_set (j := 0) h x0).trans rfl
    have h1 : ((W.setCell ⟨R, 0, none⟩ x0).setCell ⟨R, 1, none⟩ x1).heap[R]? = some (.cells #[x0, x1, a2, a3, a4] t (0, 0)) := (heap_set (j := 1) h0 x1).trans rfl
    have h2 : (((W.setCell ⟨R, 0, none⟩ x0).setCell ⟨R, 1, none⟩ x1).setCell ⟨R, 2, none⟩ x2).heap[R]? = some (.cells #[x0, x1, x2, a3, a4] t (0, 0)) := (heap_set (j := 2) h1 x2).trans rfl
    have h3 : ((((W.setCell ⟨R, 0, none⟩ x0).setCell ⟨R, 1, none⟩ x1).setCell ⟨R, 2, none⟩ x2).setCell ⟨R, 3, none⟩ x3).heap[R]? = some (.cells #[x0, x1, x2, x3, a4] t (0, 0)) := (heap_set (j := 3) h2 x3).trans rfl
    exact (heap_set (j := 4) h3 x4).trans rfl, by
    have g0 : W.grownBy (W.setCell ⟨R, 0, none⟩ x0) (some R) := grown_set (World.grownBy.refl W (some R)) ⟨R, 0, none⟩ x0 (Or.inl rfl)
    have g1 := grown_set g0 ⟨R, 1, none⟩ x1 (Or.inl rfl)
    have g2 := grown_set g1 ⟨R, 2, none⟩ x2 (Or.inl rfl)
    have g3 := grown_set g2 ⟨R, 3, none⟩ x3 (Or.inl rfl)
    exact grown_set g3 ⟨R, 4, none⟩ x4 (Or.inl rfl)⟩
/-- All that linked classes hold is new, and may be written to. -/
def NewL (B : Nat) (w : World) (kC kS kF kN : Value) : Prop := ∃ lC lS lF lN, SL 4 RC (NF B w) w kC lC ∧ SL 1 RI (NF B w) w kS lS ∧ SL 1 (RSl 3 RF) (NF B w) w kF lF ∧ SL 1 (RSl 1 RS) (NF B w) w kN lN
theorem NewL.kept {B : Nat} {w w' : World} {kC kS kF kN : Value} (h : NewL B w kC kS kF kN) (hs : w.heap.size ≤ w'.heap.size) (hb : ∀ k, NF B w k → w'.heap[k]? = w.heap[k]?) : NewL B w' kC kS kF kN := by
  obtain ⟨lC, lS, lF, lN, h1, h2, h3, h4⟩ := h
  have hk : Kp (NF B w) w w' := ⟨hs, fun k h _ => hb k h⟩
  have hm : ∀ k, NF B w k → NF B w' k := fun k h => h.kept (hb k h)
  exact ⟨lC, lS, lF, lN, (h1.keptC hk).monoC hm, (h2.keptI hk).monoI hm, (h3.keptSl hk fun _ _ h => h).monoSl hm fun _ _ h => h, (h4.keptSl hk fun _ _ h => h).monoSl hm fun _ _ h => h⟩
set_option maxRecDepth 100000 in
set_option maxHeartbeats 4000000 in
theorem LinkN_any (w : World) (B : Nat) (l : List ClassD) (v : Value) (hv : SL 4 RC (· < B) w v l) (hB : B ≤ w.heap.size) :
    Calls Tryz.prog 6 #[v] w fun r w' => Below w.heap.size w w' ∧
      ((tieRes l = 0 ∧ ∃ kC kS kF kN kT, r = .returned (.tuple #[.agg #[kC, kS, kF, kN, kT], .int .i64 0]) ∧ RLk (fun k => (k < B ∨ w.heap.size ≤ k) ∧ k < w'.heap.size) w' kC kS kF kN kT (linkD l) ∧ NewL (w.heap.size + 1) w' kC kS kF kN) ∨ (tieRes l ≠ 0 ∧ r = .returned (.tuple #[nilLk, .int .i64 (tieRes l)]))) := by
  have HV := mkHid hv
  obtain ⟨ao, cl, rfl, -⟩ := hv
  have HB0 := mkHid (fun o => (Below.refl w.heap.size w).alloc (Nat.le_refl _) o)
  go_enter Tryz.func6, Tryz.ntmps6
  go_wp2_with fail
  refine (tie_any _ B l _ (HV.out.keptC (Kp.below ((HB0.out _).mono hB))) (Nat.le_trans hB (HB0.out _).size)).mono ?_
  rintro r w1 ⟨hb1, ⟨h0, p, rfl, b, vS, vF, vN, vT, vL, Bm, rfl, hle, hweb⟩ | ⟨h0, rfl⟩⟩
  · have hR1 : w1.heap[w.heap.size]? = some (.cells #[.slice none 0 0, .slice none 0 0, .slice none 0 0, .slice none 0 0, .slice none 0 0] 31 (0, 0)) := (hb1.block w.heap.size (by simp)).trans (heap_alloc_new w _)
    have hle' : w.heap.size + 1 ≤ b := by simpa using hle
    have hB1 : Below w.heap.size w w1 := (HB0.out _).trans (hb1.mono (HB0.out _).size)
    have HB1 := mkHid hB1
    have HW := mkHid hweb
    have HT := mkHid h0
    have HR1 := mkHid hR1
    have HCP := mkHid (copyClasses_any w1 B _ l (HV.out.keptC (Kp.below (hB1.mono hB))) (Nat.le_trans hB hB1.size) (fine_copy (tie_chk h0)).1 (fine_copy (tie_chk h0)).2)
    have hz1 : w.heap.size < w1.heap.size := lt_of hR1
    clear hb1 hweb h0 hB1 hR1
    go_wp2_with fail
    refine HCP.out.mono ?_
    rintro r w2 ⟨hb2, vC, rfl, sC⟩
    have HSC := mkHid sC
    obtain ⟨aC, cC, rfl, -⟩ := sC
    have hblk := HW.out.blk
    have hb1l := lt_of hblk
    have hblk2 := (hb2.block b hb1l).trans hblk
    have hbne : b ≠ w.heap.size := by omega
    have hbl := lt_of hblk2
    have hB3 : Below w.heap.size w (w2.setCell ⟨b, 0, none⟩ (.slice aC l.length cC)) := (HB1.out.trans (hb2.mono HB1.out.size)).setCell (by simp; omega) _
    have hblk3 := heap_set (j := 0) hblk2 (.slice aC l.length cC)
    have c0 := cell_of hblk2 0 (x := .slice ao l.length cl) rfl
    have z0 := frz_of hblk2 0
    have hR3 : (w2.setCell ⟨b, 0, none⟩ (.slice aC l.length cC)).heap[w.heap.size]? = some (.cells #[.slice none 0 0, .slice none 0 0, .slice none 0 0, .slice none 0 0, .slice none 0 0] 31 (0, 0)) := (Below.heap_setCell _ _ _ _ (by simp; omega)).trans ((hb2.block w.heap.size hz1).trans HR1.out)
    have HRL : Hid (RLk (fun k => ((k < B ∨ w.heap.size + 1 ≤ k) ∧ k < w2.heap.size)) (w2.setCell ⟨b, 0, none⟩ (.slice aC l.length cC)) (.slice aC l.length cC) vS vF vN vT (linkD l)) := by
      have hkp : Kp (fun k => ((k < B ∨ (w.alloc (.cells #[.slice none 0 0, .slice none 0 0, .slice none 0 0, .slice none 0 0, .slice none 0 0] 31)).heap.size ≤ k) ∧ k < w1.heap.size) ∧ k ≠ b) w1 (w2.setCell ⟨b, 0, none⟩ (.slice aC l.length cC)) := ⟨Nat.le_trans hb2.size (by simp [World.setCell]), fun k hk hl => (Below.heap_setCell _ _ _ _ (by simpa using hk.2)).trans (hb2.block k hl)⟩
      have hmm : ∀ k, (((k < B ∨ (w.alloc (.cells #[.slice none 0 0, .slice none 0 0, .slice none 0 0, .slice none 0 0, .slice none 0 0] 31)).heap.size ≤ k) ∧ k < w1.heap.size) ∧ k ≠ b) → ((k < B ∨ w.heap.size + 1 ≤ k) ∧ k < w2.heap.size) := fun k hk => ⟨hk.1.1.imp id (fun h => by simpa using h), Nat.lt_of_lt_of_le hk.1.2 hb2.size⟩
      exact ⟨(HSC.out.stpCL (Stp.set hblk2 (by decide) 0 (.slice aC l.length cC))).monoC (fun k hk => ⟨Or.inr (by have := hk.1; omega), by have := hk.lt; simpa [World.setCell] using this⟩), (HW.out.sS.keptI hkp).monoI hmm, (HW.out.sF.keptSl hkp fun _ _ h => h).monoSl hmm fun _ _ h => h, (HW.out.sN.keptSl hkp fun _ _ h => h).monoSl hmm fun _ _ h => h, (HW.out.sT.keptSl hkp fun _ _ h => h).monoSl hmm fun _ _ h => h⟩
    have HNW : Hid (NewL (w.heap.size + 1) (w2.setCell ⟨b, 0, none⟩ (.slice aC l.length cC)) (.slice aC l.length cC) vS vF vN) := by
      have hkp : Kp (fun k => (((k < B ∨ (w.alloc (.cells #[.slice none 0 0, .slice none 0 0, .slice none 0 0, .slice none 0 0, .slice none 0 0] 31)).heap.size ≤ k) ∧ k < w1.heap.size) ∧ k ≠ b) ∧ NF (b + 1) w1 k) w1 (w2.setCell ⟨b, 0, none⟩ (.slice aC l.length cC)) := ⟨Nat.le_trans hb2.size (by simp [World.setCell]), fun k hk hl => (Below.heap_setCell _ _ _ _ (by simpa using hk.1.2)).trans (hb2.block k hl)⟩
      have hmm : ∀ k, ((((k < B ∨ (w.alloc (.cells #[.slice none 0 0, .slice none 0 0, .slice none 0 0, .slice none 0 0, .slice none 0 0] 31)).heap.size ≤ k) ∧ k < w1.heap.size) ∧ k ≠ b) ∧ NF (b + 1) w1 k) → NF (w.heap.size + 1) (w2.setCell ⟨b, 0, none⟩ (.slice aC l.length cC)) k := fun k hk => (hk.2.kept (hkp.block k hk hk.2.lt)).more (by omega)
      exact ⟨_, _, _, _, (HSC.out.stpCL (Stp.set hblk2 (by decide) 0 (.slice aC l.length cC))).monoC (fun k hk => hk.nf.more (by omega)), (HW.out.nS.keptI hkp).monoI hmm, (HW.out.nF.keptSl hkp fun _ _ h => h).monoSl hmm fun _ _ h => h, (HW.out.nN.keptSl hkp fun _ _ h => h).monoSl hmm fun _ _ h => h⟩
    have hlS : ((List.range l.length).map (supAt l)).length = l.length := by simp
    have hlF : ((List.range l.length).map (fieldsOf l)).length = l.length := by simp
    have hlN : ((List.range l.length).map (namesOf l)).length = l.length := by simp
    have hlT : ((List.range l.length).map (targetsOf l)).length = l.length := by simp
    obtain ⟨aS, cS, e1, -⟩ := HW.out.sS
    obtain ⟨aF, cF, e2, -⟩ := HW.out.sF
    obtain ⟨aN, cN, e3, -⟩ := HW.out.sN
    obtain ⟨aT, cT, e4, -⟩ := HW.out.sT
    rw [hlS] at e1
    rw [hlF] at e2
    rw [hlN] at e3
    rw [hlT] at e4
    subst e1 e2 e3 e4
    have d0 := cell_of hblk3 0 (x := .slice aC l.length cC) rfl
    have d1 := cell_of hblk3 1 (x := .slice aS l.length cS) rfl
    have d2 := cell_of hblk3 2 (x := .slice aF l.length cF) rfl
    have d3 := cell_of hblk3 3 (x := .slice aN l.length cN) rfl
    have d4 := cell_of hblk3 4 (x := .slice aT l.length cT) rfl
    have r0 := cell_of hR3 0 (x := .slice none 0 0) rfl
    have r1 := cell_of hR3 1 (x := .slice none 0 0) rfl
    have r2 := cell_of hR3 2 (x := .slice none 0 0) rfl
    have r3 := cell_of hR3 3 (x := .slice none 0 0) rfl
    have r4 := cell_of hR3 4 (x := .slice none 0 0) rfl
    have f0 : ∀ j, (w2.setCell ⟨b, 0, none⟩ (.slice aC l.length cC)).frozen? ⟨w.heap.size, j, none⟩ = false := fun j => frz_of hR3 j
    have lR := lt_of hR3
    have lb3 := lt_of hblk3
    have HB3 := mkHid hB3
    obtain ⟨hR5, hG5⟩ := set5 _ w.heap.size _ _ _ _ _ _ (.slice aC l.length cC) (.slice aS l.length cS) (.slice aF l.length cF) (.slice aN l.length cN) (.slice aT l.length cT) hR3
    have HR5 := mkHid hR5
    have HG5 := mkHid hG5
    clear hR5 hG5
    clear HW HSC HCP hlS hlF hlN hlT hblk hb2 hB3 hb1l
    go_wp2_with fail
    generalize ((((((w2.setCell ⟨b, 0, none⟩ (.slice aC l.length cC)).setCell ⟨w.heap.size, 0, none⟩ (.slice aC l.length cC)).setCell ⟨w.heap.size, 1, none⟩ (.slice aS l.length cS)).setCell ⟨w.heap.size, 2, none⟩ (.slice aF l.length cF)).setCell ⟨w.heap.size, 3, none⟩ (.slice aN l.length cN)).setCell ⟨w.heap.size, 4, none⟩ (.slice aT l.length cT)) = W9 at *
    have s0 := cell_of HR5.out 0 (x := .slice aC l.length cC) rfl
    have s1 := cell_of HR5.out 1 (x := .slice aS l.length cS) rfl
    have s2 := cell_of HR5.out 2 (x := .slice aF l.length cF) rfl
    have s3 := cell_of HR5.out 3 (x := .slice aN l.length cN) rfl
    have s4 := cell_of HR5.out 4 (x := .slice aT l.length cT) rfl
    refine bodyPost_ret (v := .tuple #[.agg #[.slice aC l.length cC, .slice aS l.length cS, .slice aF l.length cF, .slice aN l.length cN, .slice aT l.length cT], .int .i64 0]) (by simp [results, Tryz.results6, go_sem, s0, s1, s2, s3, s4]) rfl ⟨below_of_grown HB3.out HG5.out (Nat.le_refl _), Or.inl ⟨HT.out, _, _, _, _, _, rfl, ?_, HNW.out.kept HG5.out.size (fun k hk => HG5.out.block k hk.lt (by intro e; injection e with e; have := hk.1; omega))⟩⟩
    refine ((HRL.out.kept (w' := W9) ⟨HG5.out.size, fun k hk hl => HG5.out.block k hl (by intro e; injection e with e; rcases hk.1 with h | h <;> omega)⟩).mono fun k hk => ⟨hk.1.imp id (fun h => by omega), ?_⟩)
    have := HG5.out.size
    have h2 := hk.2
    simp [World.setCell] at this
    omega
  · have HB1 := mkHid ((HB0.out _).trans (hb1.mono (HB0.out _).size))
    have hne : (tieRes l == 0) = false := beq_eq_false_iff_ne.2 h0
    have hR1 : w1.heap[w.heap.size]? = some (.cells #[.slice none 0 0, .slice none 0 0, .slice none 0 0, .slice none 0 0, .slice none 0 0] 31 (0, 0)) := (hb1.block w.heap.size (by simp)).trans (heap_alloc_new w _)
    have lR := lt_of hR1
    have r0 := cell_of hR1 0 (x := .slice none 0 0) rfl
    have r1 := cell_of hR1 1 (x := .slice none 0 0) rfl
    have r2 := cell_of hR1 2 (x := .slice none 0 0) rfl
    have r3 := cell_of hR1 3 (x := .slice none 0 0) rfl
    have r4 := cell_of hR1 4 (x := .slice none 0 0) rfl
    have f0 : ∀ j, w1.frozen? ⟨w.heap.size, j, none⟩ = false := fun j => frz_of hR1 j
    have HN := mkHid h0
    obtain ⟨hR5, hG5⟩ := set5 _ w.heap.size _ _ _ _ _ _ (.slice none 0 0) (.slice none 0 0) (.slice none 0 0) (.slice none 0 0) (.slice none 0 0) hR1
    have HR5 := mkHid hR5
    have HG5 := mkHid hG5
    clear hb1 h0 hR1 hR5 hG5
    generalize hte : tieRes l = te at *
    have HTE := mkHid hte
    clear hte
    go_wp2_with fail
    generalize (((((w1.setCell ⟨w.heap.size, 0, none⟩ (.slice none 0 0)).setCell ⟨w.heap.size, 1, none⟩ (.slice none 0 0)).setCell ⟨w.heap.size, 2, none⟩ (.slice none 0 0)).setCell ⟨w.heap.size, 3, none⟩ (.slice none 0 0)).setCell ⟨w.heap.size, 4, none⟩ (.slice none 0 0)) = W9 at *
    have s0 := cell_of HR5.out 0 (x := .slice none 0 0) rfl
    have s1 := cell_of HR5.out 1 (x := .slice none 0 0) rfl
    have s2 := cell_of HR5.out 2 (x := .slice none 0 0) rfl
    have s3 := cell_of HR5.out 3 (x := .slice none 0 0) rfl
    have s4 := cell_of HR5.out 4 (x := .slice none 0 0) rfl
    exact bodyPost_ret (v := .tuple #[nilLk, .int .i64 te]) (by simp [results, Tryz.results6, go_sem, s0, s1, s2, s3, s4, nilLk]) rfl ⟨below_of_grown HB1.out HG5.out (Nat.le_refl _), Or.inr ⟨by rw [HTE.out]; exact HN.out, by rw [HTE.out]⟩⟩
theorem Link_any (w : World) (B : Nat) (l : List ClassD) (v : Value) (hv : SL 4 RC (· < B) w v l) (hB : B ≤ w.heap.size) :
    Calls Tryz.prog 6 #[v] w fun r w' => Below w.heap.size w w' ∧
      ((tieRes l = 0 ∧ ∃ kC kS kF kN kT, r = .returned (.tuple #[.agg #[kC, kS, kF, kN, kT], .int .i64 0]) ∧ RLk (fun k => (k < B ∨ w.heap.size ≤ k) ∧ k < w'.heap.size) w' kC kS kF kN kT (linkD l)) ∨ (tieRes l ≠ 0 ∧ r = .returned (.tuple #[nilLk, .int .i64 (tieRes l)]))) :=
  (LinkN_any w B l v hv hB).mono fun _ _ ⟨hb, h⟩ => ⟨hb, h.imp (fun ⟨h0, kC, kS, kF, kN, kT, h1, h2, _⟩ => ⟨h0, kC, kS, kF, kN, kT, h1, h2⟩) id⟩
end Go.Proofs.YtkhconnebiiboaaGreatDoor
/- The contract of checked. -/
namespace Go.Proofs.YtkhconnebiiboaaGreatDoor
open Go.RowKit Go.Maps

def okLk (d : LinkD) : Bool := decide (tieRes d.classes = 0) && makesB d.classes d
def inB (d : LinkD) (n : Int) : Bool := decide (0 ≤ n) && decide (n < d.classes.length)
def chkRes (d : LinkD) (ns : List Int) : Int := if okLk d = true then (if ns.all (inB d) = true then 0 else 3) else 4
theorem Web.web' {B : Nat} {w : World} {b : Nat} {l : List ClassD} {vC vS vF vN vT vL : Value} {Bm : Nat} (h : Web B w b l vC vS vF vN vT vL Bm) : Web w.heap.size w b l vC vS vF vN vT vL Bm :=
  have hl : ∀ k, k < B → k < w.heap.size := fun _ hk => Nat.lt_of_lt_of_le hk h.le
  ⟨hl _ h.bB, hl _ h.mB, Nat.le_refl _, h.blk, h.sC.monoC hl, h.sS.monoI hl, h.sF.monoSl hl fun _ _ h => h, h.sN.monoSl hl fun _ _ h => h, h.sT.monoSl hl fun _ _ h => h, h.sL.monoSl hl fun _ _ h => h, h.nm⟩
theorem RLk.agg {M : Nat → Prop} {w : World} {kC kS kF kN kT : Value} {d : LinkD} (h : RLk M w kC kS kF kN kT d) : ∃ aC cC aS cS aF cF aN cN aT cT, kC = .slice aC d.classes.length cC ∧ kS = .slice aS d.supers.length cS ∧ kF = .slice aF d.fields.length cF ∧ kN = .slice aN d.names.length cN ∧ kT = .slice aT d.targets.length cT := by
  obtain ⟨⟨aC, cC, e1, -⟩, ⟨aS, cS, e2, -⟩, ⟨aF, cF, e3, -⟩, ⟨aN, cN, e4, -⟩, ⟨aT, cT, e5, -⟩⟩ := h
  exact ⟨_, _, _, _, _, _, _, _, _, _, e1, e2, e3, e4, e5⟩

set_option maxRecDepth 100000 in
set_option maxHeartbeats 4000000 in
theorem checked_any (w : World) (B : Nat) (kC kS kF kN kT : Value) (d : LinkD) (hk : RLk (· < B) w kC kS kF kN kT d) (hB : B ≤ w.heap.size) (M : Nat → Prop) (vn : Value) (ns : List Int) (hn : SL 1 RI M w vn ns) :
    Calls Tryz.prog 28 #[.agg #[kC, kS, kF, kN, kT], vn] w fun r w' => Below w.heap.size w w' ∧
      ((chkRes d ns = 0 ∧ okLk d = true ∧ ∃ b vS vF vN vT vL Bm, r = .returned (.pointer (some ⟨b, 0, none⟩)) ∧ Web w'.heap.size w' b d.classes kC vS vF vN vT vL Bm) ∨ (chkRes d ns ≠ 0 ∧ r = .panicked [wrongV (chkRes d ns) 0])) := by
  have HK := mkHid hk
  have HNS := mkHid hn
  obtain ⟨aC, cC, aS, cS, aF, cF, aN, cN, aT, cT, rfl, rfl, rfl, rfl, rfl⟩ := hk.agg
  obtain ⟨an, cn, rfl, -, hll, -⟩ := hn
  unfold maxLen at hll
  have HB0 := mkHid (fun o => (Below.refl w.heap.size w).alloc (Nat.le_refl _) o)
  have hll2 : d.classes.length ≤ 9223372036854775807 := by obtain ⟨a, c, -, -, h, -⟩ := hk.C; unfold maxLen at h; omega
  clear hk
  go_enter Tryz.func28, Tryz.ntmps28
  go_wp2_with fail
  refine (tie_any _ B d.classes _ (HK.out.C.keptC (Kp.below ((HB0.out _).mono hB))) (Nat.le_trans hB (HB0.out _).size)).mono ?_
  rintro r w1 ⟨hb1, ⟨h0, p, rfl, b, vS, vF, vN, vT, vL, Bm, rfl, hle, hweb⟩ | ⟨h0, rfl⟩⟩
  · have hR1 : w1.heap[w.heap.size]? = some (.cells #[.slice aC d.classes.length cC, .slice aS d.supers.length cS, .slice aF d.fields.length cF, .slice aN d.names.length cN, .slice aT d.targets.length cT] 31 (0, 0)) := (hb1.block w.heap.size (by simp)).trans (heap_alloc_new w _)
    have hB1 : Below w.heap.size w w1 := (HB0.out _).trans (hb1.mono (HB0.out _).size)
    have HB1 := mkHid hB1
    have HW := mkHid hweb.web
    have hz1 := lt_of hR1
    have r0 := cell_of hR1 0 (x := .slice aC d.classes.length cC) rfl
    have r1 := cell_of hR1 1 (x := .slice aS d.supers.length cS) rfl
    have r2 := cell_of hR1 2 (x := .slice aF d.fields.length cF) rfl
    have r3 := cell_of hR1 3 (x := .slice aN d.names.length cN) rfl
    have r4 := cell_of hR1 4 (x := .slice aT d.targets.length cT) rfl
    have HR1 := mkHid hR1
    have HMK := mkHid (makes_any w1 w1.heap.size b d.classes _ _ _ _ _ _ Bm hweb.web _ _ _ _ _ d ((HK.out.kept (Kp.below (hB1.mono hB))).mono fun k hk => Nat.lt_of_lt_of_le hk (Nat.le_trans hB hB1.size)))
    have HOK : Hid (okLk d = makesB d.classes d) := by show okLk d = _; simp [okLk, h0]
    clear hb1 hweb h0 hB1 hR1
    generalize makesB d.classes d = mk at *
    cases mk with
    | false =>
      have HR : Hid (chkRes d ns = 4) := by show chkRes d ns = 4; rw [chkRes, HOK.out]; rfl
      go_wp2_with (go_at_call 60; refine HMK.out.mono ?_; rintro r w2 ⟨rfl, hb2⟩)
      refine (demand_any _ _ _).mono ?_
      rintro r w3 ⟨rfl, ⟨hb, rfl⟩ | ⟨hb, rfl⟩⟩
      · exact ⟨rfl, HB1.out.trans (hb2.mono HB1.out.size), Or.inr ⟨by rw [HR.out]; decide, by rw [HR.out]⟩⟩
      · exact absurd hb (by simp)
    | true =>
      go_wp2_with (go_at_call 60; refine HMK.out.mono ?_; rintro r w2 ⟨rfl, hb2⟩)
      refine (demand_any _ _ _).mono ?_
      rintro r w3 ⟨rfl, ⟨hb, rfl⟩ | ⟨hb, rfl⟩⟩
      · exact absurd hb (by simp)
      clear hb
      have HW2 := mkHid (((HW.out.below hb2).web'))
      have HB2 := mkHid (HB1.out.trans (hb2.mono HB1.out.size))
      have k0 := (hb2.cell (p := ⟨w.heap.size, 0, none⟩) hz1).trans r0
      have lz2 : w.heap.size < w3.heap.size := Nat.lt_of_lt_of_le hz1 hb2.size
      have HRS : Hid (chkRes d ns = if ns.all (inB d) = true then 0 else 3) := by show chkRes d ns = _; rw [chkRes, if_pos HOK.out]
      clear r0 r1 r2 r3 r4 hb2 HMK HR1 HW hz1
      go_wp2_with fail
      go_loopw [25] (fun i wr => ∃ k : Nat, k ≤ ns.length ∧ i = .int .i64 k ∧ wr = w3 ∧ Hid (ns.all (inB d) = (ns.drop k).all (inB d))) (fun i _ => ns.length - (intOf i).toNat)
      case atStart => exact ⟨0, Nat.zero_le _, rfl, rfl, rfl⟩
      case round =>
        obtain ⟨k, hk, rfl, rfl, HQ⟩ := hrel
        by_cases hlt : k < ns.length
        · obtain ⟨bn, on, rfl, hbn, en⟩ := (HNS.out.keptI ⟨HB2.out.size, fun q _ hq => HB2.out.block q hq⟩).atI k hlt
          have HST : Hid ((ns.drop k).all (inB d) = (inB d ns[k] && (ns.drop (k + 1)).all (inB d))) := by show _ = _; rw [List.drop_eq_getElem_cons hlt, List.all_cons]
          generalize ns[k] = n at *
          have h00 : (0 : Int) ≤ k := by omega
          have h01 : (k : Int) < ns.length := by omega
          by_cases hn0 : 0 ≤ n
          · by_cases hn1 : n < d.classes.length
            · have HR : Hid (ns.all (inB d) = (ns.drop (k + 1)).all (inB d)) := HQ.out.trans (HST.out.trans (by simp [inB, hn0, hn1]))
              go_wp2_with fail
              refine (demand_any _ _ _).mono ?_
              rintro r w4 ⟨rfl, ⟨hb, rfl⟩ | ⟨hb, rfl⟩⟩
              · exact absurd hb (by simp <;> omega)
              clear hb
              go_wp2_with fail
              go_roundw
              case rel => exact ⟨k + 1, by omega, by go_num, (by first | rfl | trivial), HR.out⟩
              case measure => simp [intOf]; omega
            · have HR : Hid (chkRes d ns = 3) := HRS.out.trans (by rw [HQ.out, HST.out]; simp [inB, hn1])
              go_wp2_with fail
              refine (demand_any _ _ _).mono ?_
              rintro r w4 ⟨rfl, ⟨hb, rfl⟩ | ⟨hb, rfl⟩⟩
              · exact ⟨rfl, HB2.out, Or.inr ⟨by rw [HR.out]; decide, by rw [HR.out]⟩⟩
              · exact absurd hb (by simp <;> omega)
          · have HR : Hid (chkRes d ns = 3) := HRS.out.trans (by rw [HQ.out, HST.out]; simp [inB, hn0])
            go_wp2_with fail
            refine (demand_any _ _ _).mono ?_
            rintro r w4 ⟨rfl, ⟨hb, rfl⟩ | ⟨hb, rfl⟩⟩
            · exact ⟨rfl, HB2.out, Or.inr ⟨by rw [HR.out]; decide, by rw [HR.out]⟩⟩
            · exact absurd hb (by simp <;> omega)
        · have HR : Hid (chkRes d ns = 0) := HRS.out.trans (by rw [HQ.out, List.drop_of_length_le (by omega)]; rfl)
          go_wp2_with fail
          go_ret
          exact ⟨HB2.out, Or.inl ⟨HR.out, HOK.out, _, _, _, _, _, _, _, rfl, HW2.out⟩⟩
  · have hB1 := mkHid ((HB0.out (.cells #[.slice aC d.classes.length cC, .slice aS d.supers.length cS, .slice aF d.fields.length cF, .slice aN d.names.length cN, .slice aT d.targets.length cT] 31)).trans (hb1.mono (HB0.out _).size))
    have HR : Hid (chkRes d ns = 4) := by
      show chkRes d ns = 4
      have : okLk d = false := by simp [okLk, h0]
      rw [chkRes, this]
      rfl
    have hne : (tieRes d.classes == 0) = false := beq_eq_false_iff_ne.2 h0
    clear hb1 h0
    generalize tieRes d.classes = te at *
    go_wp2_with fail
    refine (demand_any _ _ _).mono ?_
    rintro r w3 ⟨rfl, ⟨hb, rfl⟩ | ⟨hb, rfl⟩⟩
    · exact ⟨rfl, hB1.out, Or.inr ⟨by rw [HR.out]; decide, by rw [HR.out]⟩⟩
    · exact absurd hb (by simp)
end Go.Proofs.YtkhconnebiiboaaGreatDoor
/- The contract of link's Check. -/
namespace Go.Proofs.YtkhconnebiiboaaGreatDoor
open Go.RowKit Go.Maps

theorem nilSL0 (M : Nat → Prop) (w : World) : SL 1 RI M w (.slice none 0 0) [] := ⟨none, 0, rfl, Nat.le_refl _, by unfold maxLen; simp, fun k hk => by cases hk⟩
set_option maxHeartbeats 1000000 in
theorem lcheck1_any (w : World) (B P : Nat) (kC kS kF kN kT : Value) (d : LinkD) (hk : RLk (· < B) w kC kS kF kN kT d) (hB : B ≤ w.heap.size) (hP : w.heap[P]? = some (.cells #[kC, kS, kF, kN, kT] 31 (0, 0))) :
    Calls Tryz.prog 84 #[.pointer (some ⟨P, 0, none⟩)] w fun r w' => ChkOut (chkRes d []) r ∧ Below w.heap.size w w' := by
  have HCK := mkHid (checked_any w B kC kS kF kN kT d hk hB (fun _ => True) _ [] (nilSL0 _ _))
  have hPl := lt_of hP
  have c0 := cell_of hP 0 (x := kC) rfl
  have c1 := cell_of hP 1 (x := kS) rfl
  have c2 := cell_of hP 2 (x := kF) rfl
  have c3 := cell_of hP 3 (x := kN) rfl
  have c4 := cell_of hP 4 (x := kT) rfl
  obtain ⟨aC, cC, aS, cS, aF, cF, aN, cN, aT, cT, rfl, rfl, rfl, rfl, rfl⟩ := hk.agg
  clear hk hP
  go_enter Tryz.func84, Tryz.ntmps84
  go_wp2_with fail
  refine HCK.out.mono ?_
  rintro r w1 ⟨hb, ⟨h0, -, b, vS, vF, vN, vT, vL, Bm, rfl, -⟩ | ⟨h0, rfl⟩⟩
  · have HC := mkHid h0
    have HB := mkHid hb
    clear h0 hb c0 c1 c2 c3 c4
    go_wp2_with fail
    go_end0
    exact ⟨Or.inr ⟨HC.out, rfl⟩, HB.out⟩
  · exact ⟨rfl, Or.inl ⟨h0, rfl⟩, hb⟩
theorem callLCheck1 (args : Array Value) (w : World) : (callFunc 84 args).run Tryz.prog w = .ok (.enter 84 args) w := by kernel_rfl

set_option maxHeartbeats 1000000 in
theorem LCheck_any (w : World) (B : Nat) (kC kS kF kN kT : Value) (d : LinkD) (hk : RLk (· < B) w kC kS kF kN kT d) (hB' : B ≤ w.heap.size) :
    Calls Tryz.prog 42 #[.agg #[kC, kS, kF, kN, kT]] w fun r w' => r = .returned (.int .i64 (chkRes d [])) ∧ Below w.heap.size w w' := by
  have hmf : ∀ (fn : Fn) (first cap : Array Value) (w : World), (Instr.makeFunc fn first cap).run Tryz.prog w = .ok (.func fn first cap) w := fun _ _ _ _ => rfl
  have HK := mkHid hk
  obtain ⟨aC, cC, aS, cS, aF, cF, aN, cN, aT, cT, rfl, rfl, rfl, rfl, rfl⟩ := hk.agg
  clear hk
  have hB0 := (Below.refl w.heap.size w).alloc (Nat.le_refl _) (.cells #[.slice aC d.classes.length cC, .slice aS d.supers.length cS, .slice aF d.fields.length cF, .slice aN d.names.length cN, .slice aT d.targets.length cT] 31)
  have hB1 := hB0.alloc hB0.size (.cells #[.int .i64 0, .int .i64 0] 43)
  go_enter Tryz.func42, Tryz.ntmps42
  go_wp2_with fail
  refine (caught_any 84 _ _ (fun w1 => chkRes d [] = 0 ∧ Below w.heap.size w w1) (fun e p w1 => chkRes d [] = e ∧ Below w.heap.size w w1) (callLCheck1 _) ?hc).mono ?_
  case hc =>
    refine (lcheck1_any _ B w.heap.size _ _ _ _ _ d (HK.out.kept (Kp.below (hB1.mono hB'))) (Nat.le_trans hB' hB1.size) ((Below.heap_alloc _ _ _ (by simp)).trans (heap_alloc_new w _))).mono ?_
    rintro r w1 ⟨hr, hb⟩
    have hb' := hB1.trans (hb.mono hB1.size)
    refine ⟨?_, ?_⟩
    · rw [hb.block (w.alloc (.cells #[.slice aC d.classes.length cC, .slice aS d.supers.length cS, .slice aF d.fields.length cF, .slice aN d.names.length cN, .slice aT d.targets.length cT] 31)).heap.size (by simp)]
      exact heap_alloc_new _ _
    · rcases hr with ⟨hc, rfl⟩ | ⟨hc, rfl⟩
      · exact Or.inr ⟨_, _, rfl, rfl, hb'⟩
      · exact Or.inl ⟨rfl, hc, hb'⟩
  rintro r w2 ⟨w1, hg, hr⟩
  have hz : (w.alloc (.cells #[.slice aC d.classes.length cC, .slice aS d.supers.length cS, .slice aF d.fields.length cF, .slice aN d.names.length cN, .slice aT d.targets.length cT] 31)).heap.size = w.heap.size + 1 := by simp
  rw [hz] at hg
  clear hB0 hB1 hz
  rcases hr with ⟨rfl, hc, hB⟩ | ⟨e, p, rfl, hc, hB⟩
  · have HC := mkHid hc
    have HB := mkHid (below_of_grown hB hg (by omega))
    clear hc hg hB hmf hB' HK
    have hfd := fieldErr
    go_wp2
    go_ret
    exact ⟨by rw [HC.out]; rfl, HB.out⟩
  · have HC := mkHid hc
    have HB := mkHid (below_of_grown hB hg (by omega))
    clear hc hg hB hmf hB' HK
    have hfd := fieldErr
    go_wp2
    go_ret
    exact ⟨by rw [HC.out]; rfl, HB.out⟩
end Go.Proofs.YtkhconnebiiboaaGreatDoor
/- Package verify's kinds: what is asked about. -/
namespace Go.Proofs.YtkhconnebiiboaaGreatDoor
open Go.RowKit Go.Maps

theorem aup {a b c : World} (h : Below a.heap.size a b) (k : Below b.heap.size b c) : Below a.heap.size a c := h.trans (k.mono h.size)
/-- A kind that may be asked of. -/
def okK (d : LinkD) (x : KindD) : Bool := kindB x && (decide (x.cls.toList = []) || decide (0 ≤ num d.classes x.cls))
theorem six (wz : World) (P : Nat) (v0 v1 v2 v3 v4 v5 : Value) : ∃ W9, W9 = ((((((wz.setCell ⟨P, 0, none⟩ v0).setCell ⟨P, 1, none⟩ v1).setCell ⟨P, 2, none⟩ v2).setCell ⟨P, 3, none⟩ v3).setCell ⟨P, 4, none⟩ v4).setCell ⟨P, 5, none⟩ v5) ∧ W9.heap.size = wz.heap.size ∧ (∀ k, k ≠ P → W9.heap[k]? = wz.heap[k]?) ∧ ∀ {B : Nat} {a : World}, Below B a wz → B ≤ P → Below B a W9 :=
  ⟨_, rfl, by simp [World.setCell], fun k hk => by rw [Below.heap_setCell _ _ _ _ hk, Below.heap_setCell _ _ _ _ hk, Below.heap_setCell _ _ _ _ hk, Below.heap_setCell _ _ _ _ hk, Below.heap_setCell _ _ _ _ hk, Below.heap_setCell _ _ _ _ hk], fun h hP => (((((h.setCell hP _).setCell hP _).setCell hP _).setCell hP _).setCell hP _).setCell hP _⟩
set_option maxRecDepth 100000 in
set_option maxHeartbeats 8000000 in
theorem about_any (w : World) (B : Nat) (kC kS kF kN kT : Value) (d : LinkD) (hk : RLk (· < B) w kC kS kF kN kT d) (hB : B ≤ w.heap.size) (hg : GlK w) (h0 : chkRes d [] = 0) (hN : d.classes.length ≤ 10) (vA : Value) (as' : List KindD) (hA : SL 2 RK (· < B) w vA as') :
    Calls Tryz.prog 17 #[.agg #[kC, kS, kF, kN, kT], vA] w fun r w' => Below w.heap.size w w' ∧
      ((as'.all (okK d) = true ∧ ∃ Bm, r = .returned (kdV kC kS kF kN kT Bm) ∧ Kd w'.heap.size w' kC kS kF kN kT Bm d) ∨ (as'.all (okK d) = false ∧ ∃ e, e ≠ 0 ∧ r = .panicked [wrongV e 0])) := by
  have hmm := @run_makeMap Tryz.prog
  have HK := mkHid hk
  have HA := mkHid hA
  have HG := mkHid hg
  have hlC : d.classes.length ≤ maxLen := by obtain ⟨_, _, _, _, h, _⟩ := hk.C; exact h
  obtain ⟨aC, cC, aS, cS, aF, cF, aN, cN, aT, cT, rfl, rfl, rfl, rfl, rfl⟩ := hk.agg
  obtain ⟨aA, cA, rfl, _, hlA, -⟩ := hA
  unfold maxLen at hlA
  obtain ⟨W0, hW0, hB0, hs0, k0, k1⟩ := (⟨_, rfl, ((Below.refl w.heap.size w).alloc (Nat.le_refl _) _).alloc (by simp) _, by simp, (Below.heap_alloc _ _ _ (by simp)).trans (heap_alloc_new w _), (by have := heap_alloc_new (w.alloc (.cells #[.slice aC d.classes.length cC, .slice aS d.supers.length cS, .slice aF d.fields.length cF, .slice aN d.names.length cN, .slice aT d.targets.length cT] 31)) (.cells #[.slice none 0 0, .slice none 0 0, .slice none 0 0, .slice none 0 0, .slice none 0 0, .map none] 63); simpa using this)⟩ : ∃ W0, W0 = ((w.alloc (.cells #[.slice aC d.classes.length cC, .slice aS d.supers.length cS, .slice aF d.fields.length cF, .slice aN d.names.length cN, .slice aT d.targets.length cT] 31)).alloc (.cells #[.slice none 0 0, .slice none 0 0, .slice none 0 0, .slice none 0 0, .slice none 0 0, .map none] 63)) ∧ Below w.heap.size w W0 ∧ W0.heap.size = w.heap.size + 1 + 1 ∧ W0.heap[w.heap.size]? = some (.cells #[.slice aC d.classes.length cC, .slice aS d.supers.length cS, .slice aF d.fields.length cF, .slice aN d.names.length cN, .slice aT d.targets.length cT] 31 (0, 0)) ∧ W0.heap[w.heap.size + 1]? = some (.cells #[.slice none 0 0, .slice none 0 0, .slice none 0 0, .slice none 0 0, .slice none 0 0, .map none] 63 (0, 0)))
  have HB0 := mkHid hB0
  have HLC := mkHid (LCheck_any W0 B _ _ _ _ _ d (HK.out.kept (Kp.below (hB0.mono hB))) (Nat.le_trans hB hB0.size))
  rw [h0] at HLC
  have HK0 := mkHid k0
  have HK1 := mkHid k1
  clear hk hg h0 k0 k1 hB0
  go_enter Tryz.func17, Tryz.ntmps17
  go_wp2_with fail
  rw [← hW0]
  refine HLC.out.mono ?_
  rintro r w1 ⟨rfl, hb1⟩
  have HB1 := mkHid hb1
  have hq0 := (hb1.block _ (lt_of HK0.out)).trans HK0.out
  have x0 := cell_of hq0 0 (x := .slice aC d.classes.length cC) rfl
  have x1 := cell_of hq0 1 (x := .slice aS d.supers.length cS) rfl
  have x2 := cell_of hq0 2 (x := .slice aF d.fields.length cF) rfl
  have x3 := cell_of hq0 3 (x := .slice aN d.names.length cN) rfl
  have x4 := cell_of hq0 4 (x := .slice aT d.targets.length cT) rfl
  clear hb1 hq0 hW0 HLC
  go_wp2_with fail
  refine (demand_any _ _ _).mono ?_
  rintro r w2 ⟨hw2, ⟨hb, rfl⟩ | ⟨hb, rfl⟩⟩
  · exact absurd hb (by decide)
  rw [hw2]
  clear hb hw2
  have hS0 : Below w1.heap.size w1 ((w1.alloc (.map #[] 0)).alloc (.cells #[.slice aC d.classes.length cC, .slice aS d.supers.length cS, .slice aF d.fields.length cF, .slice aN d.names.length cN, .slice aT d.targets.length cT, .map (some w1.heap.size)] 63)) ∧ ((w1.alloc (.map #[] 0)).alloc (.cells #[.slice aC d.classes.length cC, .slice aS d.supers.length cS, .slice aF d.fields.length cF, .slice aN d.names.length cN, .slice aT d.targets.length cT, .map (some w1.heap.size)] 63)).heap[w1.heap.size + 1]? = some (.cells #[.slice aC d.classes.length cC, .slice aS d.supers.length cS, .slice aF d.fields.length cF, .slice aN d.names.length cN, .slice aT d.targets.length cT, .map (some w1.heap.size)] 63 (0, 0)) ∧ NumMap ((w1.alloc (.map #[] 0)).alloc (.cells #[.slice aC d.classes.length cC, .slice aS d.supers.length cS, .slice aF d.fields.length cF, .slice aN d.names.length cN, .slice aT d.targets.length cT, .map (some w1.heap.size)] 63)) w1.heap.size (d.classes.take 0) :=
    ⟨((Below.refl _ _).alloc (Nat.le_refl _) _).alloc (by simp) _, (by have := heap_alloc_new (w1.alloc (.map #[] 0)) (.cells #[.slice aC d.classes.length cC, .slice aS d.supers.length cS, .slice aF d.fields.length cF, .slice aN d.names.length cN, .slice aT d.targets.length cT, .map (some w1.heap.size)] 63); simpa using this), ⟨_, (World.ownsMap_made w1 _ _ _).alloc _, numD_nil⟩⟩
  have HS0 := mkHid hS0
  have y0 := (hS0.1.cell (p := ⟨w.heap.size, 0, none⟩) (World.block_lt_of_cell? _ _ x0)).trans x0
  clear hS0
  go_wp2_with fail
  clear x0 x1 x2 x3 x4 y0
  go_loopw [20] (fun i wr => ∃ k : Nat, k ≤ d.classes.length ∧ i = .int .i64 k ∧ Hid (Below w1.heap.size w1 wr ∧ wr.heap[w1.heap.size + 1]? = some (.cells #[.slice aC d.classes.length cC, .slice aS d.supers.length cS, .slice aF d.fields.length cF, .slice aN d.names.length cN, .slice aT d.targets.length cT, .map (some w1.heap.size)] 63 (0, 0)) ∧ NumMap wr w1.heap.size (d.classes.take k))) (fun i _ => d.classes.length - (intOf i).toNat)
  case atStart => exact ⟨0, Nat.zero_le _, rfl, HS0.out⟩
  case round =>
    clear HS0
    rename World => wr
    obtain ⟨k, hk, rfl, HST⟩ := hrel
    obtain ⟨hBr, hblk, hnm⟩ := HST.out
    have HBW := mkHid (aup HB0.out (aup HB1.out hBr))
    have hXr : w1.heap.size + 1 < wr.heap.size := lt_of hblk
    by_cases hlt : k < d.classes.length
    · obtain ⟨b, off, vf, vm, e9, hb, e0, e1, e2, e3, ef, em, es1, es2⟩ := (HK.out.C.keptC (Kp.below (HBW.out.mono hB))).atC k hlt
      subst e9
      obtain ⟨fo, cf, rfl, -⟩ := ef
      obtain ⟨mo, cm, rfl, -⟩ := em
      have m5 := cell_of hblk 5 (x := .map (some w1.heap.size)) rfl
      obtain ⟨D, hown, hD⟩ := hnm
      have hlk : (d.classes.take k).length = k := by simp; omega
      have hkey : keyOf Tryz.prog 9 (.string d.classes[k].name) = some (key d.classes[k].name) := Go.WideMaps.keyOf_string_mk Tryz.underlying9 es1
      obtain ⟨w2, hrun, hown2, hg2⟩ := World.ownsMap.update (w := wr.alloc (.cells #[.string d.classes[k].name, .string d.classes[k].super, .slice fo d.classes[k].fields.length cf, .slice mo d.classes[k].meths.length cm] 76)) (hown.alloc _) law9 Tryz.underlying56 (by rw [hlk]; unfold maxLen; omega) hkey (plainElem_int (H := Unit) Tryz.underlying3 (a := (k : Int)) (WalkArith.wf_i64 (by omega)))
      have hD2 := numD_put hD (hown.tidy law9) d.classes[k]
      have HFN : Hid (Below w1.heap.size w1 w2 ∧ w2.heap[w1.heap.size + 1]? = some (.cells #[.slice (some ⟨b, off, none⟩) d.classes.length cC, .slice aS d.supers.length cS, .slice aF d.fields.length cF, .slice aN d.names.length cN, .slice aT d.targets.length cT, .map (some w1.heap.size)] 63 (0, 0)) ∧ NumMap w2 w1.heap.size (d.classes.take (k + 1))) := by
        refine ⟨(hBr.alloc hBr.size (.cells #[.string d.classes[k].name, .string d.classes[k].super, .slice fo d.classes[k].fields.length cf, .slice mo d.classes[k].meths.length cm] 76)).grown hg2 (by simp; omega) (fun q e => by cases e; exact Nat.le_refl _), ?_, ?_⟩
        · rw [hg2.block (w1.heap.size + 1) (by simp; omega) (by simp)]
          exact (Below.heap_alloc _ _ _ hXr).trans hblk
        · rw [List.take_succ_eq_append_getElem hlt]
          rw [hlk] at hD2 hown2
          refine ⟨_, ?_, hD2⟩
          rw [List.length_append, hlk]
          exact hown2
      clear hown hown2 hg2 hD hD2 hkey hblk hlk es1 es2
      have h00 : (0 : Int) ≤ k := by omega
      have h01 : (k : Int) < d.classes.length := by omega
      go_wp2_with fail
      go_roundw
      case rel => exact ⟨k + 1, by omega, by go_num, HFN.out⟩
      case measure => simp [intOf]; omega
    have hnm2 : NumMap wr w1.heap.size d.classes := by
      have := hnm
      rwa [List.take_of_length_le (by omega)] at this
    have hkd : Kd wr.heap.size wr (.slice aC d.classes.length cC) (.slice aS d.supers.length cS) (.slice aF d.fields.length cF) (.slice aN d.names.length cN) (.slice aT d.targets.length cT) w1.heap.size d := ⟨(HK.out.kept (Kp.below (HBW.out.mono hB))).mono fun _ h => Nat.lt_of_lt_of_le h (Nat.le_trans hB HBW.out.size), hnm2, by omega⟩
    have hr1 := ((aup HB1.out hBr).block _ (lt_of HK1.out)).trans HK1.out
    have HVV : Hid (∀ V, Below wr.heap.size wr V → V.heap[w1.heap.size + 1]? = some (.cells #[.slice aC d.classes.length cC, .slice aS d.supers.length cS, .slice aF d.fields.length cF, .slice aN d.names.length cN, .slice aT d.targets.length cT, .map (some w1.heap.size)] 63 (0, 0)) ∧ V.heap[w.heap.size + 1]? = some (.cells #[.slice none 0 0, .slice none 0 0, .slice none 0 0, .slice none 0 0, .slice none 0 0, .map none] 63 (0, 0)) ∧ Kd wr.heap.size V (.slice aC d.classes.length cC) (.slice aS d.supers.length cS) (.slice aF d.fields.length cF) (.slice aN d.names.length cN) (.slice aT d.targets.length cT) w1.heap.size d ∧ GlK V ∧ SL 2 RK (· < B) V (.slice aA as'.length cA) as' ∧ Below w.heap.size w V) := fun V hV => ⟨(hV.block _ (lt_of hblk)).trans hblk, (hV.block _ (lt_of hr1)).trans hr1, hkd.below hV, HG.out.below (aup HBW.out hV), HA.out.keptK (Kp.below ((aup HBW.out hV).mono hB)), aup HBW.out hV⟩
    clear hnm hnm2 hblk hr1 hkd hBr HST
    go_wp2_with fail
    go_loopw [33] (fun i wz => ∃ k : Nat, k ≤ as'.length ∧ i = .int .i64 k ∧ Hid (Below wr.heap.size wr wz ∧ (as'.take k).all (okK d) = true)) (fun i _ => as'.length - (intOf i).toNat)
    case atStart => exact ⟨0, Nat.zero_le _, rfl, Below.refl _ _, rfl⟩
    case round =>
      rename World => wz
      obtain ⟨m, hm, rfl, HST⟩ := hrel
      by_cases hmt : m < as'.length
      · obtain ⟨q, -, hkz, hgz, haz, -⟩ := HVV.out wz HST.out.1
        obtain ⟨b, off, e9, hbl, d0, d1, dsz⟩ := haz.atK m hmt
        subst e9
        have HTK : Hid ((as'.take (m + 1)).all (okK d) = okK d as'[m]) := by show _ = _; rw [List.take_succ_eq_append_getElem hmt, List.all_append, HST.out.2]; simp
        have HNO : Hid (okK d as'[m] = false → as'.all (okK d) = false) := fun h => by
          rw [List.all_eq_false]
          exact ⟨as'[m], List.getElem_mem hmt, by rw [h]; decide⟩
        have HMT := mkHid (And.intro hmt (Nat.succ_le_of_lt hmt))
        generalize as'[m] = x at *
        have HBA := mkHid (HST.out.1.alloc HST.out.1.size (.cells #[.int .i64 x.kind, .string x.cls] 24))
        have HKA := mkHid (heap_alloc_new wz (.cells #[.int .i64 x.kind, .string x.cls] 24))
        have HIK := mkHid (isKind_any _ x dsz (HVV.out _ HBA.out).2.2.2.1)
        clear q hkz hgz haz
        go_wp2_with fail
        refine HIK.out.mono ?_
        rintro r w4 ⟨rfl, hb4⟩
        have HB4 := mkHid (HBA.out.trans (hb4.mono HBA.out.size))
        have q9 := (hb4.block _ (lt_of HKA.out)).trans HKA.out
        have g0 := cell_of q9 0 (x := .int .i64 x.kind) rfl
        have g1 := cell_of q9 1 (x := .string x.cls) rfl
        clear q9 hb4 HIK HKA HBA d0 d1
        go_wp2_with fail
        refine (demand_any _ _ _).mono ?_
        rintro r w5 ⟨hw5, ⟨hb, rfl⟩ | ⟨hb, rfl⟩⟩
        · exact ⟨rfl, by rw [hw5]; exact (HVV.out _ HB4.out).2.2.2.2.2, Or.inr ⟨HNO.out (by rw [okK, hb]; rfl), 7, by decide, rfl⟩⟩
        rw [hw5]
        clear hw5
        obtain ⟨q, -, hkz, -, -, -⟩ := HVV.out _ HB4.out
        have x0 := cell_of q 0 (x := .slice aC d.classes.length cC) rfl
        have x1 := cell_of q 1 (x := .slice aS d.supers.length cS) rfl
        have x2 := cell_of q 2 (x := .slice aF d.fields.length cF) rfl
        have x3 := cell_of q 3 (x := .slice aN d.names.length cN) rfl
        have x4 := cell_of q 4 (x := .slice aT d.targets.length cT) rfl
        have x5 := cell_of q 5 (x := .map (some w1.heap.size)) rfl
        have HHS := mkHid (kHas_any _ wr.heap.size _ _ _ _ _ _ d hkz HB4.out.size x.cls dsz)
        clear q hkz
        have HOK : Hid (okK d x = (decide (x.cls.toList = []) || decide (0 ≤ num d.classes x.cls))) := by show _ = _; rw [okK, hb, Bool.true_and]
        clear hb
        by_cases hcl : x.cls.toList = []
        · rw [decide_eq_true hcl, Bool.true_or] at HOK
          go_wp2_with fail
          refine (demand_any _ _ _).mono ?_
          rintro r w7 ⟨hw7, ⟨hb, rfl⟩ | ⟨hb, rfl⟩⟩
          · exact absurd hb (by decide)
          rw [hw7]
          clear hb hw7
          go_wp2_with fail
          go_roundw
          case rel => exact ⟨m + 1, HMT.out.2, by go_num, HB4.out, HTK.out.trans HOK.out⟩
          case measure => have hmt9 := HMT.out.1; simp [intOf]; omega
        · rw [decide_eq_false hcl, Bool.false_or] at HOK
          cases hhs : decide (0 ≤ num d.classes x.cls) with
          | true =>
            rw [hhs] at HOK HHS
            go_wp2_with fail
            refine HHS.out.mono ?_
            rintro r w6 ⟨rfl, hb6⟩
            have HB6 := mkHid (HB4.out.trans (hb6.mono HB4.out.size))
            clear hb6
            go_wp2_with fail
            refine (demand_any _ _ _).mono ?_
            rintro r w7 ⟨hw7, ⟨hb, rfl⟩ | ⟨hb, rfl⟩⟩
            · exact absurd hb (by decide)
            rw [hw7]
            clear hb hw7
            go_wp2_with fail
            go_roundw
            case rel => exact ⟨m + 1, HMT.out.2, by go_num, HB6.out, HTK.out.trans HOK.out⟩
            case measure => have hmt9 := HMT.out.1; simp [intOf]; omega
          | false =>
            rw [hhs] at HOK HHS
            go_wp2_with fail
            refine HHS.out.mono ?_
            rintro r w6 ⟨rfl, hb6⟩
            have HB6 := mkHid (HB4.out.trans (hb6.mono HB4.out.size))
            clear hb6
            go_wp2_with fail
            refine (demand_any _ _ _).mono ?_
            rintro r w7 ⟨hw7, ⟨hb, rfl⟩ | ⟨hb, rfl⟩⟩
            · exact ⟨rfl, by rw [hw7]; exact (HVV.out _ HB6.out).2.2.2.2.2, Or.inr ⟨HNO.out HOK.out, 5, by decide, rfl⟩⟩
            · exact absurd hb (by simpa using hcl)
      · obtain ⟨q, q1, hkz, -, -, hbz⟩ := HVV.out wz HST.out.1
        have x0 := cell_of q 0 (x := .slice aC d.classes.length cC) rfl; have x1 := cell_of q 1 (x := .slice aS d.supers.length cS) rfl; have x2 := cell_of q 2 (x := .slice aF d.fields.length cF) rfl; have x3 := cell_of q 3 (x := .slice aN d.names.length cN) rfl; have x4 := cell_of q 4 (x := .slice aT d.targets.length cT) rfl; have x5 := cell_of q 5 (x := .map (some w1.heap.size)) rfl
        have r0 := cell_of q1 0 (x := .slice none 0 0) rfl
        have r1 := cell_of q1 1 (x := .slice none 0 0) rfl
        have r2 := cell_of q1 2 (x := .slice none 0 0) rfl
        have r3 := cell_of q1 3 (x := .slice none 0 0) rfl
        have r4 := cell_of q1 4 (x := .slice none 0 0) rfl
        have r5 := cell_of q1 5 (x := .map none) rfl
        have rf := frz_of q1
        have HAL : Hid (as'.all (okK d) = true) := by have := HST.out.2; rwa [List.take_of_length_le (by omega)] at this
        have HKZ := mkHid hkz
        have HBZ := mkHid hbz
        have HWZ := mkHid HST.out.1
        clear q q1 hkz hbz
        obtain ⟨W9, hW9, hsz, hbl, hbe⟩ := six wz (w.heap.size + 1) (.slice aC d.classes.length cC) (.slice aS d.supers.length cS) (.slice aF d.fields.length cF) (.slice aN d.names.length cN) (.slice aT d.targets.length cT) (.map (some w1.heap.size))
        have HW9 := mkHid hW9
        have HB9 := mkHid (hbe HBZ.out (by omega))
        have hlt1 : w.heap.size + 1 < w1.heap.size := by have := HB1.out.size; omega
        have HN9 : Hid (NumMap W9 w1.heap.size d.classes) := by
          obtain ⟨D, ⟨es, clock, e, h'⟩, hd⟩ := HKZ.out.nm
          exact ⟨D, ⟨es, clock, (hbl _ (by omega)).trans e, h'⟩, hd⟩
        have HL9 : Hid (w1.heap.size < W9.heap.size) := by show _ < _; rw [hsz]; have := HKZ.out.bm; have := HWZ.out.size; omega
        clear hW9 hsz hbl hbe
        go_wp2_with fail
        refine bodyPost_ret (v := kdV (.slice aC d.classes.length cC) (.slice aS d.supers.length cS) (.slice aF d.fields.length cF) (.slice aN d.names.length cN) (.slice aT d.targets.length cT) w1.heap.size) (by simp [results, Tryz.results17, go_sem, r0, r1, r2, r3, r4, r5]) rfl ?_
        rw [← HW9.out]
        exact ⟨HB9.out, Or.inl ⟨HAL.out, _, rfl, (HK.out.kept (Kp.below (HB9.out.mono hB))).mono fun _ h => Nat.lt_of_lt_of_le h (Nat.le_trans hB HB9.out.size), HN9.out, HL9.out⟩⟩
end Go.Proofs.YtkhconnebiiboaaGreatDoor
/- verify.Fits, within: where what is asked of may be asked of. -/
namespace Go.Proofs.YtkhconnebiiboaaGreatDoor
open Go.RowKit Go.Maps

theorem two_SL {W : World} {X : Nat} {a b : KindD} {t : Nat} (h : W.heap[X]? = some (.cells #[.int .i64 a.kind, .string a.cls, .int .i64 b.kind, .string b.cls] t (0, 0))) (ha : a.cls.size ≤ maxLen) (hb : b.cls.size ≤ maxLen) : SL 2 RK (· < X + 1) W (.slice (some ⟨X, 0, none⟩) 2 2) [a, b] := by
  refine ⟨some ⟨X, 0, none⟩, 2, rfl, Nat.le_refl _, by unfold maxLen; simp, fun k hk => ?_⟩
  have hk' : k < 2 := hk
  match k, hk' with
  | 0, _ => exact ⟨X, 0, [.int .i64 a.kind, .string a.cls], rfl, by omega, lt_of h, rfl, fun j hj => (by match j, hj with | 0, _ => exact cell_of h 0 rfl | 1, _ => exact cell_of h 1 rfl), rfl, ha⟩
  | 1, _ => exact ⟨X, 0, [.int .i64 b.kind, .string b.cls], rfl, by omega, lt_of h, rfl, fun j hj => (by match j, hj with | 0, _ => exact cell_of h 2 rfl | 1, _ => exact cell_of h 3 rfl), rfl, hb⟩
set_option maxRecDepth 100000 in
set_option maxHeartbeats 8000000 in
theorem fits1_any (w : World) (B : Nat) (aC aS aF aN aT : Option Addr) (cC cS cF cN cT : Nat) (d : LinkD) (hk : RLk (· < B) w (.slice aC d.classes.length cC) (.slice aS d.supers.length cS) (.slice aF d.fields.length cF) (.slice aN d.names.length cN) (.slice aT d.targets.length cT) d) (hB : B ≤ w.heap.size) (hg : GlK w) (h0 : chkRes d [] = 0) (hN : d.classes.length ≤ 10) {L : ByteArray → List ByteArray} (hc : Cls d L) (P0 P1 P2 : Nat)
    (k0 : w.heap[P0]? = some (.cells #[.slice aC d.classes.length cC, .slice aS d.supers.length cS, .slice aF d.fields.length cF, .slice aN d.names.length cN, .slice aT d.targets.length cT] 31 (0, 0))) (a b : KindD) (k1 : w.heap[P1]? = some (.cells #[.int .i64 a.kind, .string a.cls] 24 (0, 0))) (k2 : w.heap[P2]? = some (.cells #[.int .i64 b.kind, .string b.cls] 24 (0, 0)))
    (hsa : a.cls.size ≤ maxLen) (hsb : b.cls.size ≤ maxLen) (hoa : okK d a = true) (hob : okK d b = true) (hga : GdK (fun s => 0 ≤ num d.classes s) a) :
    Calls Tryz.prog 20 #[.pointer (some ⟨P0, 0, none⟩), .pointer (some ⟨P1, 0, none⟩), .pointer (some ⟨P2, 0, none⟩)] w fun r w' => r = .returned (.bool (fitB topName L a b)) ∧ Below w.heap.size w w' := by
  have HAB : Hid (∀ W t, Below w.heap.size w W → W.heap[w.heap.size]? = some (.cells #[.int .i64 a.kind, .string a.cls, .int .i64 b.kind, .string b.cls] t (0, 0)) → Calls Tryz.prog 17 #[.agg #[.slice aC d.classes.length cC, .slice aS d.supers.length cS, .slice aF d.fields.length cF, .slice aN d.names.length cN, .slice aT d.targets.length cT], .slice (some ⟨w.heap.size, 0, none⟩) 2 2] W fun r w' => ∃ Bm, r = .returned (kdV (.slice aC d.classes.length cC) (.slice aS d.supers.length cS) (.slice aF d.fields.length cF) (.slice aN d.names.length cN) (.slice aT d.targets.length cT) Bm) ∧ Below w.heap.size w w' ∧ Calls Tryz.prog 21 #[kdV (.slice aC d.classes.length cC) (.slice aS d.supers.length cS) (.slice aF d.fields.length cF) (.slice aN d.names.length cN) (.slice aT d.targets.length cT) Bm, kv a, kv b] w' fun r w2 => r = .returned (.bool (fitB topName L a b)) ∧ Below w.heap.size w w2) := fun W t hW hh => by
    refine (about_any W (w.heap.size + 1) _ _ _ _ _ d ((hk.kept (Kp.below (hW.mono hB))).mono fun _ h => by omega) (by have := lt_of hh; omega) (hg.below hW) h0 hN _ [a, b] (two_SL hh hsa hsb)).mono fun r w' ⟨hb, h⟩ => ?_
    rcases h with ⟨-, Bm, h1, h2⟩ | ⟨h, -⟩
    · have hb' := hW.trans (hb.mono hW.size)
      exact ⟨Bm, h1, hb', (kFits_any w' w'.heap.size _ _ _ _ _ _ d h2 (Nat.le_refl _) (hg.below hb') hc a b hga hsa).mono fun r w2 ⟨e, h⟩ => ⟨e, hb'.trans (h.mono hb'.size)⟩⟩
    · simp [hoa, hob] at h
  have HNW := mkHid (heap_alloc_new w (.cells #[.int .i64 a.kind, .string a.cls, .int .i64 b.kind, .string b.cls] 24))
  have x0 := cell_of k0 0 (x := .slice aC d.classes.length cC) rfl
  have x1 := cell_of k0 1 (x := .slice aS d.supers.length cS) rfl
  have x2 := cell_of k0 2 (x := .slice aF d.fields.length cF) rfl
  have x3 := cell_of k0 3 (x := .slice aN d.names.length cN) rfl
  have x4 := cell_of k0 4 (x := .slice aT d.targets.length cT) rfl
  have y0 := cell_of k1 0 (x := .int .i64 a.kind) rfl
  have y1 := cell_of k1 1 (x := .string a.cls) rfl
  have z0 := cell_of k2 0 (x := .int .i64 b.kind) rfl
  have z1 := cell_of k2 1 (x := .string b.cls) rfl
  have l0 := lt_of k0
  have l1 := lt_of k1
  have l2 := lt_of k2
  clear hk hg h0 hoa hob hga k0 k1 k2 hsa hsb hc
  go_enter Tryz.func20, Tryz.ntmps20
  go_wp2_with fail
  go_region_held3 (fun W' => ∀ p : Addr, p.block < w.heap.size → W'.cell? p = w.cell? p) (exact fun p hp => Below.cell (B := w.heap.size) (w := w) (by repeat (first | assumption | exact Below.refl _ _ | refine Below.drew ?_ | refine Below.alloc ?_ (by simp <;> omega) _)) hp) (first
    | (go_at_call 17; refine (HAB.out _ 24 ?_ ?_).mono ?_; (first | exact (((Below.refl _ _).alloc (Nat.le_refl _) _).drew) | exact (((Below.refl _ _).drew).alloc (Nat.le_refl _) _)); (exact HNW.out); rintro r w2 ⟨Bm, rfl, hb2, hn2⟩; have HN2 := mkHid hn2; clear hn2)
    | (go_at_call 21; refine HN2.out.mono ?_; rintro r w4 ⟨rfl, hb4⟩))
  all_goals
    go_wp2_with fail
    go_ret
    exact ⟨rfl, hb4⟩
end Go.Proofs.YtkhconnebiiboaaGreatDoor
