/- Lines of classes that hang together, plain: who is under whom, and the lowest one above two. -/
import Derived.Test.YtkpklkhkhhlifabGreatJLPu5LLaw
import Derived.Test.YtkpklkhkhhlifabGreatLRf5
import Derived.Test.YtkpklkhkhhlifabGreatJLLkLBeg
import Derived.Test.YtkpklkhkhhlifabGreatJLKcLLawC
namespace Go.Proofs.YtkpklkhkhhlifabGreat
open Go.RowKit

/-- Classes that hang together. -/
structure Hang (l : List ClassD) : Prop where
  names : askNames l = true
  top : askTop l = true
  upper : askUpper l = true
  supers : askSupers l = true
  none : askNone l = true
  nil : num l ⟨#[]⟩ < 0
theorem Hang.of {l : List ClassD} (h : tieRes l = 0) : Hang l := by
  obtain ⟨h1, h2, h3, h4, h5, -⟩ := tie_asks h
  exact ⟨h1, h2, h3, h4, h5, no_nil (tie_chk h)⟩
theorem Hang.lk {d : LinkD} (h : okLk d = true) : Hang d.classes := by
  rw [okLk, Bool.and_eq_true, decide_eq_true_iff] at h
  exact Hang.of h.1
theorem num_own {l : List ClassD} (hn : askNames l = true) {i : Nat} (hi : i < l.length) : num l (clsAt l i).name = i := by
  have h1 := hn
  rw [names_q1, allI, List.all_eq_true] at h1
  have h2 := h1 i (List.mem_range.2 hi)
  rw [q1, decide_eq_true_iff] at h2
  rw [num_firstAt l _ hn, h2]
theorem Hang.sup {l : List ClassD} (h : Hang l) {i : Nat} (hi : i < l.length) : (supAt l i < 0 ∧ (i : Int) = num l topName) ∨ ∃ n : Nat, supAt l i = n ∧ n < l.length := by
  by_cases hs : (clsAt l i).super = ⟨#[]⟩
  · refine Or.inl ⟨by rw [supAt, hs]; exact h.nil, ?_⟩
    have h1 := List.all_eq_true.1 h.upper l[i] (List.getElem_mem hi)
    rw [clsAt_eq hi] at hs
    simp [hs] at h1
    rw [← h1, ← clsAt_eq hi, num_own h.names hi]
  · refine Or.inr ?_
    have h1 := List.all_eq_true.1 h.supers l[i] (List.getElem_mem hi)
    rw [clsAt_eq hi] at hs
    have h2 : hasC l l[i].super = true := by simpa [hs] using h1
    have h3 : 0 ≤ supAt l i := by rw [supAt, clsAt_eq hi]; simpa [hasC] using h2
    have h4 : supAt l i < l.length := (num_le l (clsAt l i).super).2
    exact ⟨(supAt l i).toNat, by omega, by omega⟩
theorem Hang.ind {l : List ClassD} (h : Hang l) {P : Nat → Prop} (h0 : ∀ i, i < l.length → lineOf l i = [i] → (i : Int) = num l topName → P i)
    (h1 : ∀ i n : Nat, i < l.length → n < l.length → supAt l i = n → lineOf l i = lineOf l n ++ [i] → P n → P i) : ∀ i, i < l.length → P i := by
  have key : ∀ d i, i < l.length → (lineOf l i).length ≤ d → P i := by
    intro d
    induction d with
    | zero => intro i _ hl; exact absurd (List.eq_nil_of_length_eq_zero (by omega)) (line_ne l i)
    | succ d ih =>
      intro i hi hl
      rcases h.sup hi with ⟨h2, h3⟩ | ⟨n, hs, hn⟩
      · exact h0 i hi (line_top h2) h3
      · obtain ⟨e, hnl⟩ := line_step h.none hi hs
        exact h1 i n hi hnl hs e (ih n hnl (by rw [e] at hl; simp at hl; omega))
  exact fun i hi => key _ i hi (Nat.le_refl _)
theorem Hang.root {l : List ClassD} (h : Hang l) : ∀ i, i < l.length → (num l topName).toNat ∈ lineOf l i :=
  h.ind (fun _ _ e ht => by rw [e, ← ht]; simp) (fun _ _ _ _ _ e ih => by rw [e]; exact List.mem_append_left _ ih)
theorem Hang.last {l : List ClassD} (h : Hang l) : ∀ i, i < l.length → ∃ X, lineOf l i = X ++ [i] :=
  h.ind (fun _ _ e _ => ⟨[], e⟩) (fun _ _ _ _ _ e _ => ⟨_, e⟩)
theorem Hang.self {l : List ClassD} (h : Hang l) {i : Nat} (hi : i < l.length) : i ∈ lineOf l i := by
  obtain ⟨X, e⟩ := h.last i hi
  rw [e]
  simp
theorem Hang.pre {l : List ClassD} (h : Hang l) : ∀ i, i < l.length → ∀ u ∈ lineOf l i, u < l.length ∧ ∃ R, lineOf l i = lineOf l u ++ R :=
  h.ind (fun i hi e _ u hu => by
    rw [e] at hu
    obtain rfl := List.mem_singleton.1 hu
    exact ⟨hi, [], by simp⟩) (fun i n hi _ _ e ih u hu => by
    rw [e] at hu
    rcases List.mem_append.1 hu with h1 | h1
    · obtain ⟨h2, R, h3⟩ := ih u h1
      exact ⟨h2, R ++ [i], by rw [e, h3, List.append_assoc]⟩
    · obtain rfl := List.mem_singleton.1 h1
      exact ⟨hi, [], by simp⟩)
theorem Hang.trans {l : List ClassD} (h : Hang l) {a b c : Nat} (ha : a < l.length) (hab : b ∈ lineOf l a) (hbc : c ∈ lineOf l b) : c ∈ lineOf l a := by
  obtain ⟨_, R, e⟩ := h.pre a ha b hab
  rw [e]
  exact List.mem_append_left _ hbc
theorem Hang.anti {l : List ClassD} (h : Hang l) {a b : Nat} (ha : a < l.length) (hab : b ∈ lineOf l a) (hba : a ∈ lineOf l b) : a = b := by
  obtain ⟨hb, R, e⟩ := h.pre a ha b hab
  obtain ⟨_, R', e'⟩ := h.pre b hb a hba
  have hl : (lineOf l a).length = (lineOf l b).length := by
    have h1 := congrArg List.length e
    have h2 := congrArg List.length e'
    rw [List.length_append] at h1 h2
    omega
  have hR : R = [] := by
    have h1 := congrArg List.length e
    rw [List.length_append] at h1
    exact List.eq_nil_of_length_eq_zero (by omega)
  rw [hR, List.append_nil] at e
  obtain ⟨X, e1⟩ := h.last a ha
  obtain ⟨Y, e2⟩ := h.last b hb
  have : X ++ [a] = Y ++ [b] := by rw [← e1, ← e2, e]
  have := (List.append_inj' this rfl).2
  simpa using this
theorem Hang.up {l : List ClassD} (h : Hang l) {i : Nat} (hi : i < l.length) : upOf l i = lineOf l i := up_line h.names h.none hi
theorem isUnd_mem {l : List ClassD} (h : Hang l) {x z : Nat} (hx : x < l.length) : isUnd l x (z : Int) = true ↔ z ∈ lineOf l x := by
  rw [isUnd, h.up hx, List.any_eq_true]
  constructor
  · rintro ⟨y, hy, e⟩
    have : y = z := by have := beq_iff_eq.1 e; omega
    exact this ▸ hy
  · exact fun hz => ⟨z, hz, by simp⟩
/-- Of two classes, the lowest one that is above both. -/
structure Abv (l : List ClassD) (x y n : Nat) : Prop where
  lt : n < l.length
  ex : ∃ R, lineOf l x = lineOf l n ++ R ∧ ∀ u ∈ R, u ∉ lineOf l y
  mem : n ∈ lineOf l y
theorem Abv.exists {l : List ClassD} (h : Hang l) {y : Nat} (hy : y < l.length) : ∀ x, x < l.length → ∃ n, Abv l x y n :=
  h.ind (fun i hi e ht => ⟨i, hi, ⟨[], by simp, fun u hu => by cases hu⟩, by have := h.root y hy; rwa [← ht] at this⟩) (fun i n hi hn _ e ⟨m, hm, ⟨R, e1, h1⟩, h2⟩ => by
    by_cases hiy : i ∈ lineOf l y
    · exact ⟨i, hi, ⟨[], by simp, fun u hu => by cases hu⟩, hiy⟩
    · exact ⟨m, hm, ⟨R ++ [i], by rw [e, e1, List.append_assoc], fun u hu => by
        rcases List.mem_append.1 hu with h3 | h3
        · exact h1 u h3
        · rw [List.mem_singleton.1 h3]; exact hiy⟩, h2⟩)
theorem fold_miss {l : List ClassD} {y : Nat} : ∀ (R : List Nat) (o : Nat), (∀ u ∈ R, isUnd l y (u : Int) = false) → R.foldl (stepU l y) o = o
  | [], _, _ => rfl
  | u :: R, o, h => by
    rw [List.foldl_cons, stepU, h u (by simp), fold_miss R _ fun v hv => h v (by simp [hv])]
    rfl
theorem Abv.eq {l : List ClassD} (h : Hang l) {x y n : Nat} (hx : x < l.length) (hy : y < l.length) (ha : Abv l x y n) : aboveF l x y = n := by
  obtain ⟨hn, ⟨R, e, hR⟩, hm⟩ := ha
  obtain ⟨X, eX⟩ := h.last n hn
  rw [aboveF, h.up hx, e, List.foldl_append, fold_miss R _ fun u hu => Bool.eq_false_iff.2 fun hc => hR u hu ((isUnd_mem h hy).1 hc), eX, List.foldl_append]
  show stepU l y _ n = n
  rw [stepU, (isUnd_mem h hy).2 hm]
  rfl
theorem Abv.of {l : List ClassD} (h : Hang l) {x y : Nat} (hx : x < l.length) (hy : y < l.length) : Abv l x y (aboveF l x y) := by
  obtain ⟨n, hn⟩ := Abv.exists h hy x hx
  rw [hn.eq h hx hy]
  exact hn
theorem Abv.left {l : List ClassD} {x y n : Nat} (h : Hang l) (ha : Abv l x y n) : n ∈ lineOf l x := by
  obtain ⟨hn, ⟨R, e, _⟩, _⟩ := ha
  rw [e]
  exact List.mem_append_left _ (h.self hn)
theorem Abv.low {l : List ClassD} {x y n c : Nat} (ha : Abv l x y n) (hx : c ∈ lineOf l x) (hy : c ∈ lineOf l y) : c ∈ lineOf l n := by
  obtain ⟨hn, ⟨R, e, hR⟩, _⟩ := ha
  rw [e] at hx
  rcases List.mem_append.1 hx with h1 | h1
  · exact h1
  · exact absurd hy (hR c h1)
theorem aboveF_comm {l : List ClassD} (h : Hang l) {x y : Nat} (hx : x < l.length) (hy : y < l.length) : aboveF l x y = aboveF l y x := by
  have h1 := Abv.of h hx hy
  have h2 := Abv.of h hy hx
  exact h.anti h1.lt (h1.low (h2.mem) (h2.left h)) (h2.low (h1.mem) (h1.left h))
end Go.Proofs.YtkpklkhkhhlifabGreat

/- The contract of Above. -/
namespace Go.Proofs.YtkpklkhkhhlifabGreat
open Go.RowKit Go.Maps

theorem underB_mem {l : List ClassD} {x z : Nat} : underB l (x : Int) (z : Int) = true ↔ z ∈ lineOf l x := by
  rw [underB, List.any_eq_true]
  constructor
  · rintro ⟨y, hy, e⟩
    have e' : y = z := by have := of_decide_eq_true e; omega
    subst e'
    exact hy
  · exact fun hz => ⟨z, hz, by simp⟩
theorem chkRes_ok {d : LinkD} {ns : List Int} (h : chkRes d ns = 0) : okLk d = true := by
  unfold chkRes at h
  split at h
  · assumption
  · cases h

set_option maxHeartbeats 1000000 in
theorem above_any (w : World) (B b : Nat) (l : List ClassD) (vC vS vF vN vT vL : Value) (Bm : Nat) (hw : Web B w b l vC vS vF vN vT vL Bm) (hh : Hang l) (x y : Int) (hx : 0 ≤ x) (hx' : x < l.length) (hy : 0 ≤ y) (hy' : y < l.length) :
    Calls Tryz.prog 44 #[.pointer (some ⟨b, 0, none⟩), .int .i64 x, .int .i64 y] w fun r w' => r = .returned (.int .i64 (aboveF l x.toNat y.toNat)) ∧ w' = w := by
  obtain ⟨x, rfl⟩ := Int.eq_ofNat_of_zero_le hx
  obtain ⟨y, rfl⟩ := Int.eq_ofNat_of_zero_le hy
  have hx2 : x < l.length := by omega
  have hy2 : y < l.length := by omega
  have HIS : Hid (∀ n : Nat, Calls Tryz.prog 42 #[.pointer (some ⟨b, 0, none⟩), .int .i64 (y : Int), .int .i64 (n : Int)] w fun r w' => r = .returned (.bool (underB l y n)) ∧ w' = w) := fun n => is_any w B b l _ _ _ _ _ _ Bm hw y n hy hy'
  have hlS : ((List.range l.length).map (supAt l)).length = l.length := by simp
  have HGS : Hid (∀ (k : Nat) (hk : k < ((List.range l.length).map (supAt l)).length), ((List.range l.length).map (supAt l))[k] = supAt l k) := fun k hk => by simp
  have c1 := cell_of hw.blk 1 (x := vS) rfl
  have HSS := mkHid hw.sS
  obtain ⟨aS, cS, hvS, -⟩ := hw.sS
  rw [hlS] at hvS
  subst hvS
  generalize (List.range l.length).map (supAt l) = lS at *
  have HH := mkHid hh
  have HX := mkHid (And.intro hx2 hy2)
  have HLS := mkHid hlS
  have HAF : Hid (∀ n : Nat, Abv l x y n → aboveF l x y = n) := fun n hn => hn.eq hh hx2 hy2
  have hll : l.length ≤ 9223372036854775807 := by obtain ⟨a, c, -, -, h, -⟩ := hw.sC; unfold maxLen at h; omega
  clear hw hh hx hx' hy hy' hx2 hy2 hlS
  go_enter Tryz.func44, Tryz.ntmps44
  go_wp2_with fail
  go_loopw [7] (fun v wx => ∃ n : Nat, v = .int .i64 n ∧ n < l.length ∧ wx = w ∧ Hid (∃ R, lineOf l x = lineOf l n ++ R ∧ ∀ u ∈ R, u ∉ lineOf l y)) (fun v _ => (lineOf l (intOf v).toNat).length)
  case atStart => exact ⟨x, rfl, HX.out.1, rfl, ⟨[], by simp, fun u hu => by cases hu⟩⟩
  case round =>
    obtain ⟨n, rfl, hn, rfl, HR⟩ := hrel
    by_cases hu : underB l y n = true
    · have HE : Hid (aboveF l x y = n) := HAF.out n ⟨hn, HR.out, underB_mem.1 hu⟩
      have HT := mkHid ((HIS.out n).mono (R' := fun r w' => r = .returned (.bool true) ∧ w' = wr) fun r w' ⟨h1, h2⟩ => ⟨by rw [h1, hu], h2⟩)
      clear hu HIS
      go_wp2_with (go_at_call 42; refine HT.out.mono ?_; rintro r w1 ⟨rfl, rfl⟩)
      go_ret
      exact ⟨by have h := HE.out; show _ = Ending.returned (.int .i64 ((aboveF l x y : Nat) : Int)); rw [h]; rfl, rfl⟩
    · have hu' : underB l y n = false := Bool.eq_false_iff.2 hu
      have hne : n ∉ lineOf l y := fun h => hu (underB_mem.2 h)
      obtain ⟨m, hs, hm⟩ : ∃ m : Nat, supAt l n = m ∧ m < l.length := by
        rcases HH.out.sup hn with ⟨_, h⟩ | h
        · have := HH.out.root y HX.out.2
          rw [← h] at this
          exact absurd this hne
        · exact h
      have hst := (line_step HH.out.none hn hs).1
      have HR2 : Hid (∃ R, lineOf l x = lineOf l m ++ R ∧ ∀ u ∈ R, u ∉ lineOf l y) := by
        obtain ⟨R, e, hR⟩ := HR.out
        exact ⟨n :: R, by rw [e, hst, List.append_assoc]; rfl, fun u hu => by
          rcases List.mem_cons.1 hu with rfl | h
          · exact hne
          · exact hR u h⟩
      have HM : Hid ((lineOf l m).length < (lineOf l n).length) := by show _ < _; rw [hst]; simp
      have HT := mkHid ((HIS.out n).mono (R' := fun r w' => r = .returned (.bool false) ∧ w' = wr) fun r w' ⟨h1, h2⟩ => ⟨by rw [h1, hu'], h2⟩)
      obtain ⟨bn, on, rfl, hbn, en⟩ := HSS.out.atI n (by have := HLS.out; omega)
      rw [HGS.out n (by have := HLS.out; omega), hs] at en
      have hn0 : (0 : Int) ≤ n := by omega
      have hn1 : (n : Int) < l.length := by omega
      clear hu hu' hne hst HIS hs
      go_wp2_with (go_at_call 42; refine HT.out.mono ?_; rintro r w1 ⟨rfl, rfl⟩)
      go_roundw
      case rel => exact ⟨m, rfl, hm, (by first | rfl | trivial), HR2.out⟩
      case measure => simp [intOf]; exact HM.out

set_option maxRecDepth 100000 in
set_option maxHeartbeats 2000000 in
theorem above1_any (w : World) (B P Q R : Nat) (kC kS kF kN kT : Value) (d : LinkD) (x y : Int) (hk : RLk (· < B) w kC kS kF kN kT d) (hB : B ≤ w.heap.size)
    (hP : w.heap[P]? = some (.cells #[kC, kS, kF, kN, kT] 28 (0, 0))) (hQ : w.cell? ⟨Q, 0, none⟩ = some (.int .i64 x)) (hR : w.cell? ⟨R, 0, none⟩ = some (.int .i64 y)) :
    Calls Tryz.prog 43 #[.pointer (some ⟨P, 0, none⟩), .pointer (some ⟨Q, 0, none⟩), .pointer (some ⟨R, 0, none⟩)] w fun r w' => Below w.heap.size w w' ∧
      ((∃ v, r = .returned v ∧ (∃ n, v = .int .i64 n) ∧ (chkRes d [x, y] = 0 ∧ v = .int .i64 (aboveF d.classes x.toNat y.toNat))) ∨ ∃ e p, r = .panicked [wrongV e p] ∧ (chkRes d [x, y] = e ∧ e ≠ 0)) := by
  have hPl := lt_of hP
  have hQl := World.block_lt_of_cell? w _ hQ
  have hRl := World.block_lt_of_cell? w _ hR
  have c0 := cell_of hP 0 (x := kC) rfl
  have c1 := cell_of hP 1 (x := kS) rfl
  have c2 := cell_of hP 2 (x := kF) rfl
  have c3 := cell_of hP 3 (x := kN) rfl
  have c4 := cell_of hP 4 (x := kT) rfl
  have HCK : Hid (∀ W t, Below w.heap.size w W → W.heap[w.heap.size]? = some (.cells #[.int .i64 x, .int .i64 y] t (0, 0)) → Calls Tryz.prog 33 #[.agg #[kC, kS, kF, kN, kT], .slice (some ⟨w.heap.size, 0, none⟩) 2 2] W fun r w' => Below w.heap.size w w' ∧
      ((chkRes d [x, y] = 0 ∧ ∃ b vS vF vN vT vL Bm, r = .returned (.pointer (some ⟨b, 0, none⟩)) ∧ Web w'.heap.size w' b d.classes kC vS vF vN vT vL Bm) ∨ (chkRes d [x, y] ≠ 0 ∧ r = .panicked [wrongV (chkRes d [x, y]) 0]))) := fun W t hW hh =>
    (checked_any W B kC kS kF kN kT d (hk.kept (Kp.below (hW.mono hB))) (Nat.le_trans hB hW.size) (fun _ => True) _ [x, y] (two_I hh)).mono fun r w' ⟨hb, h⟩ => ⟨hW.trans (hb.mono hW.size), h.imp (fun ⟨h1, _, h3⟩ => ⟨h1, h3⟩) id⟩
  obtain ⟨aC, cC, aS, cS, aF, cF, aN, cN, aT, cT, rfl, rfl, rfl, rfl, rfl⟩ := hk.agg
  have HNW : Hid (∀ t, (w.alloc (.cells #[.int .i64 x, .int .i64 y] t)).heap[w.heap.size]? = some (.cells #[.int .i64 x, .int .i64 y] t (0, 0))) := fun t => heap_alloc_new w _
  clear hk hP
  by_cases hc : chkRes d [x, y] = 0
  · have hin : inB d x = true ∧ inB d y = true := by
      unfold chkRes at hc
      split at hc
      · split at hc
        · rename_i h; simpa using h
        · cases hc
      · cases hc
    have hx0 : (0 ≤ x ∧ x < d.classes.length) ∧ (0 ≤ y ∧ y < d.classes.length) := ⟨by have := hin.1; simpa [inB] using this, by have := hin.2; simpa [inB] using this⟩
    have HH := mkHid (Hang.lk (chkRes_ok hc))
    have HX := mkHid hx0
    have HCK2 : Hid (∀ W t, Below w.heap.size w W → W.heap[w.heap.size]? = some (.cells #[.int .i64 x, .int .i64 y] t (0, 0)) → Calls Tryz.prog 33 #[.agg #[.slice aC d.classes.length cC, .slice aS d.supers.length cS, .slice aF d.fields.length cF, .slice aN d.names.length cN, .slice aT d.targets.length cT], .slice (some ⟨w.heap.size, 0, none⟩) 2 2] W fun r w' => ∃ b, r = .returned (.pointer (some ⟨b, 0, none⟩)) ∧ Below w.heap.size w w' ∧ Calls Tryz.prog 44 #[.pointer (some ⟨b, 0, none⟩), .int .i64 x, .int .i64 y] w' fun r w'' => r = .returned (.int .i64 (aboveF d.classes x.toNat y.toNat)) ∧ w'' = w') := fun W t hW hh => (HCK.out W t hW hh).mono fun r w' ⟨hb, h⟩ => by
      rcases h with ⟨_, b, _, _, _, _, _, _, h1, h2⟩ | ⟨h, _⟩
      · exact ⟨b, h1, hb, above_any w' _ b _ _ _ _ _ _ _ _ h2 HH.out x y HX.out.1.1 HX.out.1.2 HX.out.2.1 HX.out.2.2⟩
      · exact absurd hc h
    have HR := mkHid hc
    clear HCK hc hin hx0
    go_enter Tryz.func43, Tryz.ntmps43
    go_wp2_with fail
    go_region_held3 (fun W' => ∀ p : Addr, p.block < w.heap.size → W'.cell? p = w.cell? p) (exact fun p hp => Below.cell (B := w.heap.size) (w := w) (by repeat (first | assumption | exact Below.refl _ _ | refine Below.drew ?_ | refine Below.alloc ?_ (by simp <;> omega) _)) hp) (first
      | (go_at_call 33; refine (HCK2.out _ 3 ?_ ?_).mono ?_; (first | exact (((Below.refl _ _).alloc (Nat.le_refl _) _).drew) | exact (((Below.refl _ _).drew).alloc (Nat.le_refl _) _)); (exact HNW.out _); rintro r w2 ⟨b2, rfl, hb2, hn2⟩; have HN2 := mkHid hn2; clear hn2)
      | (go_at_call 44; refine HN2.out.mono ?_; rintro r w4 ⟨rfl, rfl⟩))
    all_goals
      rename_i hS1
      clear hS1
      go_wp2_with fail
      go_ret
      exact ⟨hb2, Or.inl ⟨_, rfl, ⟨_, rfl⟩, HR.out, rfl⟩⟩
  · have HCK2 : Hid (∀ W t, Below w.heap.size w W → W.heap[w.heap.size]? = some (.cells #[.int .i64 x, .int .i64 y] t (0, 0)) → Calls Tryz.prog 33 #[.agg #[.slice aC d.classes.length cC, .slice aS d.supers.length cS, .slice aF d.fields.length cF, .slice aN d.names.length cN, .slice aT d.targets.length cT], .slice (some ⟨w.heap.size, 0, none⟩) 2 2] W fun r w' => r = .panicked [wrongV (chkRes d [x, y]) 0] ∧ Below w.heap.size w w') := fun W t hW hh => (HCK.out W t hW hh).mono fun r w' ⟨hb, h⟩ => by
      rcases h with ⟨h, _⟩ | ⟨_, h⟩
      · exact absurd h hc
      · exact ⟨h, hb⟩
    have HNZ := mkHid hc
    clear HCK hc
    go_enter Tryz.func43, Tryz.ntmps43
    go_wp2_with fail
    refine wp_region_held_drew (S := fun W' => ∀ p : Addr, p.block < w.heap.size → W'.cell? p = w.cell? p) (by kernel_rfl) (fun p hp => rfl) fun hH => ?_
    refine wpAnyH_take (i := 0) (v := .agg #[.slice aC d.classes.length cC, .slice aS d.supers.length cS, .slice aF d.fields.length cF, .slice aN d.names.length cN, .slice aT d.targets.length cT]) rfl (by kernel_rfl) (by kernel_rfl) (by kernel_rfl) (fun _ _ _ h => h) (Or.inl ⟨by rfl, ?_⟩) hH ?_
    · intro w hSw
      go_simp
    refine wpAnyH_take (i := 1) (v := .int .i64 x) rfl (by kernel_rfl) (by kernel_rfl) (by kernel_rfl) (fun _ _ _ h => h) (Or.inl ⟨by rfl, ?_⟩) hH ?_
    · intro w hSw
      go_simp
    refine wpAnyH_take (i := 2) (v := .int .i64 y) rfl (by kernel_rfl) (by kernel_rfl) (by kernel_rfl) (fun _ _ _ h => h) (Or.inl ⟨by rfl, ?_⟩) hH ?_
    · intro w hSw
      go_simp
    refine wpAnyH_take (i := 5) (v := .int .i64 x) rfl (by kernel_rfl) (by kernel_rfl) (by kernel_rfl) (fun _ _ _ h => h) (Or.inl ⟨by rfl, ?_⟩) hH ?_
    · intro w hSw
      go_simp
    refine wpAnyH_take (i := 6) (v := .int .i64 y) rfl (by kernel_rfl) (by kernel_rfl) (by kernel_rfl) (fun _ _ _ h => h) (Or.inl ⟨by rfl, ?_⟩) hH ?_
    · intro w hSw
      go_simp
    refine wpAnyH_ready (rs := [3]) (by kernel_rfl) (by simp) ?_
    refine AllReadyH.cons rfl (fun K hK => ?_) AllReadyH.nil
    go_simp
    refine hK.out _ _ (fun p hp => Below.cell (B := w.heap.size) (w := w) (((Below.refl _ _).drew).alloc (Nat.le_refl _) _) hp) fun _ => ?_
    refine wpAnyH_ready (rs := [4]) (by kernel_rfl) (by simp) ?_
    refine AllReadyH.cons rfl (fun K' hK' => ?_) AllReadyH.nil
    go_simp
    refine (HCK2.out _ 3 (((Below.refl _ _).drew).alloc (Nat.le_refl _) _) (HNW.out _)).mono ?_
    rintro r w2 ⟨rfl, hb2⟩
    exact ⟨rfl, hb2, Or.inr ⟨_, _, rfl, rfl, HNZ.out⟩⟩

theorem callAbove1 (args : Array Value) (w : World) : (callFunc 43 args).run Tryz.prog w = .ok (.enter 43 args) w := by kernel_rfl
def aboveVal (d : LinkD) (x y : Int) : Int := if chkRes d [x, y] = 0 then aboveF d.classes x.toNat y.toNat else 0
set_option maxHeartbeats 2000000 in
theorem Above_any (w : World) (B : Nat) (kC kS kF kN kT : Value) (d : LinkD) (x y : Int) (hk : RLk (· < B) w kC kS kF kN kT d) (hB : B ≤ w.heap.size) :
    Calls Tryz.prog 19 #[.agg #[kC, kS, kF, kN, kT], .int .i64 x, .int .i64 y] w fun r w' => r = .returned (.tuple #[.int .i64 (aboveVal d x y), .int .i64 (chkRes d [x, y])]) ∧ Below w.heap.size w w' := by
  have hmf : ∀ (fn : Fn) (first cap : Array Value) (w : World), (Instr.makeFunc fn first cap).run Tryz.prog w = .ok (.func fn first cap) w := fun _ _ _ _ => rfl
  have HK := mkHid hk
  obtain ⟨aC, cC, aS, cS, aF, cF, aN, cN, aT, cT, rfl, rfl, rfl, rfl, rfl⟩ := hk.agg
  clear hk
  go_enter Tryz.func19, Tryz.ntmps19
  go_wp2_with fail
  generalize hW : ((w.alloc (.cells #[.slice aC d.classes.length cC, .slice aS d.supers.length cS, .slice aF d.fields.length cF, .slice aN d.names.length cN, .slice aT d.targets.length cT] 28)).alloc (.cells #[.int .i64 x] 3)).alloc (.cells #[.int .i64 y] 3) = W0
  have hB0 : Below w.heap.size w W0 := hW ▸ ((((Below.refl _ _).alloc (Nat.le_refl _) _).alloc (by simp) _).alloc (by simp; omega) _)
  have hP : W0.heap[w.heap.size]? = some (.cells #[.slice aC d.classes.length cC, .slice aS d.supers.length cS, .slice aF d.fields.length cF, .slice aN d.names.length cN, .slice aT d.targets.length cT] 28 (0, 0)) := by rw [← hW]; exact (Below.heap_alloc _ _ _ (by simp; omega)).trans ((Below.heap_alloc _ _ _ (by simp)).trans (heap_alloc_new w _))
  have hQ : W0.cell? ⟨w.heap.size + 1, 0, none⟩ = some (.int .i64 x) := by rw [← hW]; simp [go_sem]
  have hR : W0.cell? ⟨w.heap.size + 1 + 1, 0, none⟩ = some (.int .i64 y) := by rw [← hW]; simp [go_sem]
  have HB0 := mkHid hB0
  refine (madeI_any W0 43 _ (fun v _ => chkRes d [x, y] = 0 ∧ v = .int .i64 (aboveF d.classes x.toNat y.toNat)) (fun e _ => chkRes d [x, y] = e ∧ e ≠ 0) callAbove1 ?hc ?hst).mono ?_
  case hc =>
    intro W hWb _
    have hb := HB0.out.trans (hWb.mono HB0.out.size)
    exact above1_any W B w.heap.size (w.heap.size + 1) (w.heap.size + 1 + 1) _ _ _ _ _ d x y (HK.out.kept (Kp.below (hb.mono hB))) (Nat.le_trans hB hb.size) ((hWb.block _ (lt_of hP)).trans hP) ((hWb.cell (p := ⟨w.heap.size + 1, 0, none⟩) (World.block_lt_of_cell? _ _ hQ)).trans hQ) ((hWb.cell (p := ⟨w.heap.size + 1 + 1, 0, none⟩) (World.block_lt_of_cell? _ _ hR)).trans hR)
  case hst => exact fun _ _ _ _ _ h => h
  rintro r w2 ⟨hb2, hz2, ⟨v, rfl, -, h0, rfl⟩ | ⟨e, p, rfl, h1, h2⟩⟩
  · have HBF := mkHid (fun o => (HB0.out.trans (hb2.mono HB0.out.size)).alloc (Nat.le_trans HB0.out.size hb2.size) o)
    have HR : Hid (aboveVal d x y = aboveF d.classes x.toNat y.toNat ∧ chkRes d [x, y] = 0) := ⟨if_pos h0, h0⟩
    clear hb2 h0 hP hQ hR hW hB0 HK HB0
    go_wp2_with fail
    go_quiet (fail)
    go_wp2_with fail
    exact bodyPost_ret (v := .tuple #[.int .i64 (aboveF d.classes x.toNat y.toNat), .int .i64 0]) (by simp [results, Tryz.results19, go_sem]) rfl ⟨by rw [HR.out.1, HR.out.2], below_dn (HBF.out _) _⟩
  · have HBF := mkHid (fun o => (HB0.out.trans (hb2.mono HB0.out.size)).alloc (Nat.le_trans HB0.out.size hb2.size) o)
    have HR : Hid (aboveVal d x y = 0 ∧ chkRes d [x, y] = e) := ⟨if_neg (by rw [h1]; exact h2), h1⟩
    clear hb2 h1 h2 hP hQ hR hW hB0 HK HB0
    go_wp2_with fail
    go_quiet (fail)
    go_wp2_with fail
    exact bodyPost_ret (v := .tuple #[.int .i64 0, .int .i64 e]) (by simp [results, Tryz.results19, go_sem]) rfl ⟨by rw [HR.out.1, HR.out.2], below_dn (HBF.out _) _⟩
end Go.Proofs.YtkpklkhkhhlifabGreat

/- The law LinkIs, walked. -/
namespace Go.Proofs.YtkpklkhkhhlifabGreat
open Go.RowKit Go.Maps

theorem chk_none {d : LinkD} (h : chkRes d [] ≠ 0) (ns : List Int) : chkRes d ns = 4 ∧ chkRes d [] = 4 := by
  have hn : ¬ okLk d = true := fun hk => h (by rw [chkRes, if_pos hk]; rfl)
  exact ⟨by rw [chkRes, if_neg hn], by rw [chkRes, if_neg hn]⟩
theorem chk_some {d : LinkD} (h : chkRes d [] = 0) (ns : List Int) : chkRes d ns = if ns.all (inB d) = true then 0 else 3 := by
  rw [chkRes, if_pos (chkRes_ok h)]
theorem ok_few {d : LinkD} (h : chkRes d [] = 0) : d.classes.length ≤ 10 := by
  have h1 := chkRes_ok h
  rw [okLk, Bool.and_eq_true, decide_eq_true_iff] at h1
  exact (list_fine (tie_chk h1.1)).1
theorem under_isUnd {l : List ClassD} (h : Hang l) {x : Nat} (hx : x < l.length) (y : Int) : underB l (x : Int) y = isUnd l x y := by
  show (lineOf l x).any _ = _
  rw [isUnd, h.up hx]
  congr 1

set_option maxRecDepth 100000 in
set_option maxHeartbeats 4000000 in
theorem linkIs_any (w : World) (kC kS kF kN kT : Value) (d : LinkD) (a b : Int) (hk : RLk (· < w.heap.size) w kC kS kF kN kT d) :
    Calls Tryz.prog 6 #[.agg #[kC, kS, kF, kN, kT], .int .i64 a, .int .i64 b] w fun r w' => r = .returned (.bool true) ∧ Below w.heap.size w w' := by
  have HK := mkHid hk
  have hrl := linkedErr_chk d
  have hll : d.classes.length ≤ 9223372036854775807 := by obtain ⟨_, _, -, -, h, -⟩ := hk.C; unfold maxLen at h; omega
  obtain ⟨aC, cC, aS, cS, aF, cF, aN, cN, aT, cT, rfl, rfl, rfl, rfl, rfl⟩ := hk.agg
  clear hk
  obtain ⟨W0, hW⟩ : ∃ W0, W0 = w.alloc (.cells #[.slice aC d.classes.length cC, .slice aS d.supers.length cS, .slice aF d.fields.length cF, .slice aN d.names.length cN, .slice aT d.targets.length cT] 28) := ⟨_, rfl⟩
  have hB1 : Below w.heap.size w W0 := hW ▸ (Below.refl w.heap.size w).alloc (Nat.le_refl _) _
  have hX : W0.heap[w.heap.size]? = some (.cells #[.slice aC d.classes.length cC, .slice aS d.supers.length cS, .slice aF d.fields.length cF, .slice aN d.names.length cN, .slice aT d.targets.length cT] 28 (0, 0)) := hW ▸ heap_alloc_new w _
  obtain ⟨g0, hg0⟩ : ∃ g0 : Gr W0.heap.size W0, W0 = g0.w := ⟨⟨W0, Below.refl _ _⟩, rfl⟩
  have HWE : Hid (w.alloc (.cells #[.slice aC d.classes.length cC, .slice aS d.supers.length cS, .slice aF d.fields.length cF, .slice aN d.names.length cN, .slice aT d.targets.length cT] 28) = g0.w) := hW ▸ hg0
  clear hW hg0
  have hne : Nonempty (Gr W0.heap.size W0) := ⟨g0⟩
  have HBG : Hid (∀ g : Gr W0.heap.size W0, Below w.heap.size w g.w) := fun g => hB1.trans (g.ok.mono hB1.size)
  have k0 : ∀ g : Gr W0.heap.size W0, g.w.cell? ⟨w.heap.size, 0, none⟩ = some (.slice aC d.classes.length cC) := fun g => (g.ok.cell (p := ⟨w.heap.size, 0, none⟩) (lt_of hX)).trans (cell_of hX 0 rfl)
  have k1 : ∀ g : Gr W0.heap.size W0, g.w.cell? ⟨w.heap.size, 1, none⟩ = some (.slice aS d.supers.length cS) := fun g => (g.ok.cell (p := ⟨w.heap.size, 1, none⟩) (lt_of hX)).trans (cell_of hX 1 rfl)
  have k2 : ∀ g : Gr W0.heap.size W0, g.w.cell? ⟨w.heap.size, 2, none⟩ = some (.slice aF d.fields.length cF) := fun g => (g.ok.cell (p := ⟨w.heap.size, 2, none⟩) (lt_of hX)).trans (cell_of hX 2 rfl)
  have k3 : ∀ g : Gr W0.heap.size W0, g.w.cell? ⟨w.heap.size, 3, none⟩ = some (.slice aN d.names.length cN) := fun g => (g.ok.cell (p := ⟨w.heap.size, 3, none⟩) (lt_of hX)).trans (cell_of hX 3 rfl)
  have k4 : ∀ g : Gr W0.heap.size W0, g.w.cell? ⟨w.heap.size, 4, none⟩ = some (.slice aT d.targets.length cT) := fun g => (g.ok.cell (p := ⟨w.heap.size, 4, none⟩) (lt_of hX)).trans (cell_of hX 4 rfl)
  have lg : ∀ g : Gr W0.heap.size W0, w.heap.size < g.w.heap.size := fun g => Nat.lt_of_lt_of_le (lt_of hX) g.ok.size
  have HC0 : Hid (∀ g : Gr W0.heap.size W0, Calls Tryz.prog 10 #[] g.w fun e w'' => e = .returned (.bool true) ∧ ∃ g' : Gr W0.heap.size W0, w'' = g'.w) := fun g => Gr.calls g (Nat.le_refl _) (linkBegun_any g.w)
  have HC1 : Hid (∀ g : Gr W0.heap.size W0, Calls Tryz.prog 18 #[.agg #[.slice aC d.classes.length cC, .slice aS d.supers.length cS, .slice aF d.fields.length cF, .slice aN d.names.length cN, .slice aT d.targets.length cT], .int .i64 a, .int .i64 b] g.w fun e w'' => e = .returned (.tuple #[.bool (isVal d a b), .int .i64 (chkRes d [a, b])]) ∧ ∃ g' : Gr W0.heap.size W0, w'' = g'.w) := fun g => Gr.calls g (Nat.le_refl _) (Is_any g.w w.heap.size _ _ _ _ _ d a b (HK.out.kept (Kp.below (HBG.out g))) (HBG.out g).size)
  have HC2 : Hid (∀ g : Gr W0.heap.size W0, Calls Tryz.prog 19 #[.agg #[.slice aC d.classes.length cC, .slice aS d.supers.length cS, .slice aF d.fields.length cF, .slice aN d.names.length cN, .slice aT d.targets.length cT], .int .i64 a, .int .i64 b] g.w fun e w'' => e = .returned (.tuple #[.int .i64 (aboveVal d a b), .int .i64 (chkRes d [a, b])]) ∧ ∃ g' : Gr W0.heap.size W0, w'' = g'.w) := fun g => Gr.calls g (Nat.le_refl _) (Above_any g.w w.heap.size _ _ _ _ _ d a b (HK.out.kept (Kp.below (HBG.out g))) (HBG.out g).size)
  have HC3 : Hid (∀ g : Gr W0.heap.size W0, Calls Tryz.prog 13 #[.agg #[.slice aC d.classes.length cC, .slice aS d.supers.length cS, .slice aF d.fields.length cF, .slice aN d.names.length cN, .slice aT d.targets.length cT]] g.w fun e w'' => e = .returned (.int .i64 (chkRes d [])) ∧ ∃ g' : Gr W0.heap.size W0, w'' = g'.w) := fun g => Gr.calls g (Nat.le_refl _) (hrl ▸ CheckLinked_any g.w w.heap.size _ _ _ _ _ d (HK.out.kept (Kp.below (HBG.out g))) (HBG.out g).size)
  clear hX hB1 hrl
  by_cases h0 : chkRes d [] = 0
  · have h1 := chk_some h0 [a, b]
    by_cases hin : (0 ≤ a ∧ a < d.classes.length) ∧ (0 ≤ b ∧ b < d.classes.length)
    · have h2 : chkRes d [a, b] = 0 := by rw [h1]; simp [inB, hin.1.1, hin.1.2, hin.2.1, hin.2.2]
      obtain ⟨⟨ha, ha'⟩, hb, hb'⟩ := hin
      obtain ⟨x, rfl⟩ := Int.eq_ofNat_of_zero_le ha
      obtain ⟨y, rfl⟩ := Int.eq_ofNat_of_zero_le hb
      have hx : x < d.classes.length := by omega
      have hy : y < d.classes.length := by omega
      have hH := Hang.lk (chkRes_ok h0)
      have hfew := ok_few h0
      have hv1 : isVal d x y = isUnd d.classes x y := by rw [isVal, if_pos h2]; exact under_isUnd hH hx y
      have hv2 : aboveVal d x y = aboveF d.classes x y := by rw [aboveVal, if_pos h2]; rfl
      have HC4 : Hid (∀ g : Gr W0.heap.size W0, Calls Tryz.prog 20 #[.agg #[.slice aC d.classes.length cC, .slice aS d.supers.length cS, .slice aF d.fields.length cF, .slice aN d.names.length cN, .slice aT d.targets.length cT], .int .i64 (x : Int), .int .i64 (y : Int)] g.w fun e w'' => e = .returned (.bool (isUnd d.classes x y)) ∧ ∃ g' : Gr W0.heap.size W0, w'' = g'.w) := fun g => Gr.calls g (Nat.le_refl _) (IsUnder_any g.w w.heap.size _ _ _ _ _ d.classes x y hx (HK.out.kept (Kp.below (HBG.out g))).C (HBG.out g).size hfew)
      have HC5 : Hid (∀ g : Gr W0.heap.size W0, Calls Tryz.prog 21 #[.agg #[.slice aC d.classes.length cC, .slice aS d.supers.length cS, .slice aF d.fields.length cF, .slice aN d.names.length cN, .slice aT d.targets.length cT], .int .i64 (x : Int), .int .i64 (y : Int)] g.w fun e w'' => e = .returned (.int .i64 (aboveF d.classes x y)) ∧ ∃ g' : Gr W0.heap.size W0, w'' = g'.w) := fun g => Gr.calls g (Nat.le_refl _) (AboveOf_any g.w w.heap.size _ _ _ _ _ d.classes x y hx hy (HK.out.kept (Kp.below (HBG.out g))).C (HBG.out g).size hfew (by rw [hH.up hx]; exact line_ne _ _))
      rw [hv1, h2] at HC1
      rw [hv2, h2] at HC2
      rw [h0] at HC3
      have p1 : ¬ (x : Int) < 0 := by omega
      have p2 : ¬ (d.classes.length : Int) ≤ (x : Int) := by omega
      have p3 : ¬ (y : Int) < 0 := by omega
      have p4 : ¬ (d.classes.length : Int) ≤ (y : Int) := by omega
      generalize isUnd d.classes x y = iu at *
      generalize (aboveF d.classes x y : Int) = av at *
      clear h0 h1 h2 hv1 hv2 hH hfew hx hy ha ha' hb hb' HK
      go_enter Tryz.func6, Tryz.ntmps6
      go_wp2_with fail
      rw [HWE.out]
      go_wp2_with (first | (go_at_call 18; refine (HC1.out _).mono ?_; rintro r _ ⟨rfl, g1, rfl⟩) | (go_at_call 19; refine (HC2.out _).mono ?_; rintro r _ ⟨rfl, g2, rfl⟩) | (go_at_call 13; refine (HC3.out _).mono ?_; rintro r _ ⟨rfl, g3, rfl⟩) | (go_at_call 10; refine (HC0.out _).mono ?_; rintro r _ ⟨rfl, g9, rfl⟩))
      refine wp_region_grow_lit W0.heap.size W0 (by kernel_rfl) (by kernel_rfl) g3.ok ?_
      repeat (go_big_quiet_step (first | (go_at_call 20; exact HC4.out _) | (go_at_call 21; exact HC5.out _)))
      refine wpQuiet_nil ?_
      intro _ hw'
      obtain ⟨g5, rfl⟩ := hw'
      go_wp2_with (first | (go_at_call 18; refine (HC1.out _).mono ?_; rintro r _ ⟨rfl, g1, rfl⟩) | (go_at_call 19; refine (HC2.out _).mono ?_; rintro r _ ⟨rfl, g2, rfl⟩) | (go_at_call 13; refine (HC3.out _).mono ?_; rintro r _ ⟨rfl, g3, rfl⟩) | (go_at_call 10; refine (HC0.out _).mono ?_; rintro r _ ⟨rfl, g9, rfl⟩))
      have HFIN := mkHid (HBG.out g9)
      clear k0 k1 k2 k3 k4
      go_ret
      exact ⟨by simp, HFIN.out⟩
    · have h2 : chkRes d [a, b] = 3 := by
        rw [h1, if_neg]
        intro h
        simp [inB] at h
        exact hin ⟨h.1, h.2⟩
      have hv1 : isVal d a b = false := by rw [isVal, if_neg (by rw [h2]; decide)]
      have hv2 : aboveVal d a b = 0 := by rw [aboveVal, if_neg (by rw [h2]; decide)]
      rw [hv1, h2] at HC1
      rw [hv2, h2] at HC2
      rw [h0] at HC3
      clear h0 h1 h2 hv1 hv2 HK
      by_cases p1 : a < 0
      · clear hin
        go_enter Tryz.func6, Tryz.ntmps6
        go_wp2_with fail
        rw [HWE.out]
        go_wp2_with (first | (go_at_call 18; refine (HC1.out _).mono ?_; rintro r _ ⟨rfl, g1, rfl⟩) | (go_at_call 19; refine (HC2.out _).mono ?_; rintro r _ ⟨rfl, g2, rfl⟩) | (go_at_call 13; refine (HC3.out _).mono ?_; rintro r _ ⟨rfl, g3, rfl⟩) | (go_at_call 10; refine (HC0.out _).mono ?_; rintro r _ ⟨rfl, g9, rfl⟩))
        have HFIN := mkHid (HBG.out g9)
        clear k0 k1 k2 k3 k4
        go_ret
        exact ⟨by simp, HFIN.out⟩
      by_cases p2 : (d.classes.length : Int) ≤ a
      · clear hin
        go_enter Tryz.func6, Tryz.ntmps6
        go_wp2_with fail
        rw [HWE.out]
        go_wp2_with (first | (go_at_call 18; refine (HC1.out _).mono ?_; rintro r _ ⟨rfl, g1, rfl⟩) | (go_at_call 19; refine (HC2.out _).mono ?_; rintro r _ ⟨rfl, g2, rfl⟩) | (go_at_call 13; refine (HC3.out _).mono ?_; rintro r _ ⟨rfl, g3, rfl⟩) | (go_at_call 10; refine (HC0.out _).mono ?_; rintro r _ ⟨rfl, g9, rfl⟩))
        have HFIN := mkHid (HBG.out g9)
        clear k0 k1 k2 k3 k4
        go_ret
        exact ⟨by simp, HFIN.out⟩
      by_cases p3 : b < 0
      · clear hin
        go_enter Tryz.func6, Tryz.ntmps6
        go_wp2_with fail
        rw [HWE.out]
        go_wp2_with (first | (go_at_call 18; refine (HC1.out _).mono ?_; rintro r _ ⟨rfl, g1, rfl⟩) | (go_at_call 19; refine (HC2.out _).mono ?_; rintro r _ ⟨rfl, g2, rfl⟩) | (go_at_call 13; refine (HC3.out _).mono ?_; rintro r _ ⟨rfl, g3, rfl⟩) | (go_at_call 10; refine (HC0.out _).mono ?_; rintro r _ ⟨rfl, g9, rfl⟩))
        have HFIN := mkHid (HBG.out g9)
        clear k0 k1 k2 k3 k4
        go_ret
        exact ⟨by simp, HFIN.out⟩
      have p4 : (d.classes.length : Int) ≤ b := by omega
      clear hin
      go_enter Tryz.func6, Tryz.ntmps6
      go_wp2_with fail
      rw [HWE.out]
      go_wp2_with (first | (go_at_call 18; refine (HC1.out _).mono ?_; rintro r _ ⟨rfl, g1, rfl⟩) | (go_at_call 19; refine (HC2.out _).mono ?_; rintro r _ ⟨rfl, g2, rfl⟩) | (go_at_call 13; refine (HC3.out _).mono ?_; rintro r _ ⟨rfl, g3, rfl⟩) | (go_at_call 10; refine (HC0.out _).mono ?_; rintro r _ ⟨rfl, g9, rfl⟩))
      have HFIN := mkHid (HBG.out g9)
      clear k0 k1 k2 k3 k4
      go_ret
      exact ⟨by simp, HFIN.out⟩
  · obtain ⟨h2, h3⟩ := chk_none h0 [a, b]
    have hv1 : isVal d a b = false := by rw [isVal, if_neg (by rw [h2]; decide)]
    have hv2 : aboveVal d a b = 0 := by rw [aboveVal, if_neg (by rw [h2]; decide)]
    rw [hv1, h2] at HC1
    rw [hv2, h2] at HC2
    rw [h3] at HC3
    clear h0 h2 h3 hv1 hv2 HK
    go_enter Tryz.func6, Tryz.ntmps6
    go_wp2_with fail
    rw [HWE.out]
    go_wp2_with (first | (go_at_call 18; refine (HC1.out _).mono ?_; rintro r _ ⟨rfl, g1, rfl⟩) | (go_at_call 19; refine (HC2.out _).mono ?_; rintro r _ ⟨rfl, g2, rfl⟩) | (go_at_call 13; refine (HC3.out _).mono ?_; rintro r _ ⟨rfl, g3, rfl⟩) | (go_at_call 10; refine (HC0.out _).mono ?_; rintro r _ ⟨rfl, g9, rfl⟩))
    have HFIN := mkHid (HBG.out g9)
    clear k0 k1 k2 k3 k4
    go_ret
    exact ⟨by simp, HFIN.out⟩
end Go.Proofs.YtkpklkhkhhlifabGreat
