/- Package verify's kinds: who has a name, who is under whom. -/
import Derived.Test.YtfibgdcpbkaaoaaGreatDoorLMk
import Derived.Test.YtfibgdcpbkaaoaaGreatDoorJVkMVoA
import Derived.Test.YtfibgdcpbkaaoaaGreatDoorJLDifSpo
namespace Go.Proofs.YtfibgdcpbkaaoaaGreatDoor
open Go.RowKit Go.Maps
structure Kd (B : Nat) (w : World) (kC kS kF kN kT : Value) (Bm : Nat) (d : LinkD) : Prop where
  lk : RLk (· < B) w kC kS kF kN kT d
  nm : NumMap w Bm d.classes
  bm : Bm < B
abbrev kdV (kC kS kF kN kT : Value) (Bm : Nat) : Value := .agg #[kC, kS, kF, kN, kT, .map (some Bm)]
theorem Kd.below {B : Nat} {w w' : World} {kC kS kF kN kT : Value} {Bm : Nat} {d : LinkD} (h : Kd B w kC kS kF kN kT Bm d) (hb : Below B w w') : Kd B w' kC kS kF kN kT Bm d :=
  ⟨h.lk.kept (Kp.below hb), by
    obtain ⟨D, ⟨es, clock, e, h'⟩, hd⟩ := h.nm
    exact ⟨D, ⟨es, clock, (hb.block Bm h.bm).trans e, h'⟩, hd⟩, h.bm⟩
set_option maxHeartbeats 1000000 in
theorem kHas_any (w : World) (B : Nat) (kC kS kF kN kT : Value) (Bm : Nat) (d : LinkD) (hk : Kd B w kC kS kF kN kT Bm d) (hB : B ≤ w.heap.size) (s : ByteArray) (hs : s.size ≤ maxLen) :
    Calls Tryz.prog 46 #[kdV kC kS kF kN kT Bm, .string s] w fun r w' => r = .returned (.bool (decide (0 ≤ num d.classes s))) ∧ Below w.heap.size w w' := by
  have HB := mkHid ((Below.refl w.heap.size w).alloc (Nat.le_refl _) (.cells #[kC, kS, kF, kN, kT, .map (some Bm)] 75))
  obtain ⟨D, hown, hD⟩ := (hk.below (HB.out.mono hB)).nm
  have hkey : keyOf Tryz.prog 9 (.string s) = some (key s) := Go.WideMaps.keyOf_string_mk Tryz.underlying9 hs
  have HD := mkHid hD
  have HK := mkHid hkey
  clear hD hkey
  go_enter Tryz.func46, Tryz.ntmps46
  go_wp2_with (at_lookup; refine wpList_lookup_own_ok_int _ rfl _ _ 69 rfl 9 3 .i64 law9 Tryz.underlying69 Tryz.underlying3 (zero3 _) Bm d.classes.length D rfl hown _ _ rfl HK.out ?_)
  intro c hat hw
  clear hw hat hown
  rw [HD.out.has s]
  go_wp2
  go_ret
  exact ⟨rfl, HB.out⟩
structure Cls (d : LinkD) (L : ByteArray → List ByteArray) : Prop where
  ln : d.supers.length = d.classes.length
  nm : ∀ s, 0 ≤ num d.classes s → ∃ n, ∃ h : n < d.classes.length, num d.classes s = n ∧ d.classes[n].name = s
  up : ∀ n (h : n < d.classes.length), (d.supers[n]'(by omega) = -1 ∧ L d.classes[n].name = [d.classes[n].name]) ∨ ∃ m, ∃ hm : m < d.classes.length, d.supers[n]'(by omega) = (m : Int) ∧ d.classes[n].super = d.classes[m].name ∧ L d.classes[n].name = d.classes[n].name :: L d.classes[m].name
  nn : ∀ n (h : n < d.classes.length), num d.classes d.classes[n].name = n
  tp : ∀ n (h : n < d.classes.length), d.supers[n]'(by omega) = -1 → d.classes[n].name = topName
  kt : 0 ≤ num d.classes topName
theorem Cls.lin {d : LinkD} {L : ByteArray → List ByteArray} (h : Cls d L) : Lin (fun s => 0 ≤ num d.classes s) topName L :=
  ⟨h.kt, fun s hs => by
    obtain ⟨n, hn, -, e⟩ := h.nm s hs
    subst e
    rcases h.up n hn with ⟨e1, e2⟩ | ⟨m, hm, -, -, e2⟩
    · exact Or.inl ⟨h.tp n hn e1, e2⟩
    · exact Or.inr ⟨_, by rw [h.nn m hm]; omega, e2⟩⟩
theorem str_neq (a b : ByteArray) (h : a ≠ b) : (a.toList == b.toList) = false := by
  rw [beq_eq_false_iff_ne]
  exact fun e => h (tl_inj e)
set_option maxRecDepth 100000 in
set_option maxHeartbeats 4000000 in
theorem kIs_any (w : World) (B : Nat) (kC kS kF kN kT : Value) (Bm : Nat) (d : LinkD) (hk : Kd B w kC kS kF kN kT Bm d) (hB : B ≤ w.heap.size) {L : ByteArray → List ByteArray} (hc : Cls d L) (a b : ByteArray) (ha : 0 ≤ num d.classes a) (hs : a.size ≤ maxLen) :
    Calls Tryz.prog 89 #[kdV kC kS kF kN kT Bm, .string a, .string b] w fun r w' => r = .returned (.bool (inL (L a) b)) ∧ Below w.heap.size w w' := by
  have HB := mkHid ((Below.refl w.heap.size w).alloc (Nat.le_refl _) (.cells #[kC, kS, kF, kN, kT, .map (some Bm)] 75))
  have hk0 := hk.below (HB.out.mono hB)
  obtain ⟨D, hown, hD⟩ := hk0.nm
  have hkey : keyOf Tryz.prog 9 (.string a) = some (key a) := Go.WideMaps.keyOf_string_mk Tryz.underlying9 hs
  obtain ⟨n0, hn0, e0, ea⟩ := hc.nm a ha
  have HD := mkHid (hD.at_ a (.lit (.int .i64 0)) ha)
  have HK := mkHid hkey
  have hblk := heap_alloc_new w (.cells #[kC, kS, kF, kN, kT, .map (some Bm)] 75)
  have HC := mkHid hk0.lk.C
  have HS := mkHid hk0.lk.S
  have hl := hk0.lk.C
  obtain ⟨aC, cC, rfl, _, hlC, -⟩ := hk0.lk.C
  obtain ⟨aS, cS, rfl, _, hlS, -⟩ := hk0.lk.S
  unfold maxLen at hlC hlS
  have c0 := cell_of hblk 0 (x := .slice aC d.classes.length cC) rfl
  have c1 := cell_of hblk 1 (x := .slice aS d.supers.length cS) rfl
  have c5 := cell_of hblk 5 (x := .map (some Bm)) rfl
  clear hD hkey hk hk0 hl ha hblk
  go_enter Tryz.func89, Tryz.ntmps89
  go_wp2_with (at_lookup; refine wpList_lookup_own_int _ rfl _ _ 69 rfl 9 3 .i64 law9 Tryz.underlying69 Tryz.underlying3 (zero3 _) Bm d.classes.length D rfl hown _ _ rfl HK.out ?_)
  intro c hat hw
  obtain rfl : c = (n0 : Int) := by
    have e := HD.out
    rw [hat, e0] at e
    exact (Lit.int.inj (DataW.lit.inj e)).2
  clear hat hw HD HK hown c5
  go_wp2_with fail
  generalize w.alloc (.cells #[.slice aC d.classes.length cC, .slice aS d.supers.length cS, kF, kN, kT, .map (some Bm)] 75) = W0 at *
  go_loopw [7] (fun i wr => wr = W0 ∧ ((i = .int .i64 (-1) ∧ Hid (inL (L a) b = false)) ∨ ∃ n, ∃ h : n < d.classes.length, i = .int .i64 n ∧ Hid (inL (L a) b = inL (L d.classes[n].name) b))) (fun i _ => if h : (intOf i).toNat < d.classes.length then (if 0 ≤ intOf i then (L d.classes[(intOf i).toNat].name).length + 1 else 0) else 0)
  case atStart => exact ⟨rfl, Or.inr ⟨n0, hn0, rfl, by show _ = _; rw [ea]⟩⟩
  case round =>
    obtain ⟨rfl, h⟩ := hrel
    rcases h with ⟨rfl, HQ⟩ | ⟨n, hn, rfl, HQ⟩
    · go_wp2_with fail
      go_ret
      exact ⟨by rw [HQ.out]; rfl, HB.out⟩
    obtain ⟨bC, oC, vf, vm, rfl, -, g0, -⟩ := HC.out.atC n hn
    obtain ⟨bS, oS, rfl, -, g1⟩ := HS.out.atI n (by rw [hc.ln]; exact hn)
    have hnS : n < d.supers.length := by rw [hc.ln]; exact hn
    have hup := hc.up n hn
    by_cases hnb : d.classes[n].name = b
    · have hs' : (d.classes[n].name.toList == b.toList) = true := by rw [hnb]; simp
      have HR : Hid (inL (L a) b = true) := by
        show _ = _
        rw [HQ.out, inL_iff, hnb]
        rcases hup with ⟨-, e⟩ | ⟨m, hm, -, -, e⟩ <;> rw [hnb] at e <;> rw [e] <;> simp
      clear hup HQ
      go_wp2_with fail
      go_ret
      exact ⟨by rw [HR.out]; rfl, HB.out⟩
    · have hs' : (d.classes[n].name.toList == b.toList) = false := str_neq _ _ hnb
      have HUP := mkHid hup
      clear hup
      go_wp2_with fail
      go_roundw
      case rel =>
        refine ⟨trivial, ?_⟩
        rcases HUP.out with ⟨e1, e⟩ | ⟨m, hm, e1, -, e⟩
        · exact Or.inl ⟨by rw [e1], by show _ = _; rw [HQ.out, e]; simp [inL, hnb]⟩
        · exact Or.inr ⟨m, hm, by rw [e1], by show _ = _; rw [HQ.out, e]; simp [inL, hnb]⟩
      case measure =>
        rcases HUP.out with ⟨e1, e⟩ | ⟨m, hm, e1, -, e⟩
        · simp [intOf, e1, hn]
        · simp [intOf, e1, hn, hm, e]
def strV : Value → ByteArray
  | .string s => s
  | _ => ⟨#[]⟩
theorem abv_self {L : ByteArray → List ByteArray} {K : ByteArray → Prop} {top : ByteArray} (h : Lin K top L) {s : ByteArray} (hs : K s) {lb : List ByteArray} (hb : inL lb s = true) (d : ByteArray) : abvN (L s) lb d = s := by
  rcases h.up s hs with ⟨-, e⟩ | ⟨m, -, e⟩ <;> rw [abvN, e, List.find?_cons_of_pos (by simpa [inL] using hb)] <;> rfl
theorem abv_next {s : ByteArray} {r lb : List ByteArray} (hb : inL lb s = false) (d : ByteArray) : abvN (s :: r) lb d = abvN r lb d := by
  rw [abvN, List.find?_cons_of_neg (by rw [show (lb.any fun y => decide (y = s)) = inL lb s from rfl, hb]; decide)]
  rfl
set_option maxRecDepth 100000 in
set_option maxHeartbeats 4000000 in
theorem kAbove_any (w : World) (B : Nat) (kC kS kF kN kT : Value) (Bm : Nat) (d : LinkD) (hk : Kd B w kC kS kF kN kT Bm d) (hB : B ≤ w.heap.size) {L : ByteArray → List ByteArray} (hc : Cls d L) (a b : ByteArray) (ha : 0 ≤ num d.classes a) (hs : a.size ≤ maxLen) (hb : 0 ≤ num d.classes b) (hsb : b.size ≤ maxLen) :
    Calls Tryz.prog 175 #[kdV kC kS kF kN kT Bm, .string a, .string b] w fun r w' => r = .returned (.string (abvN (L a) (L b) a)) ∧ Below w.heap.size w w' := by
  have HB := mkHid ((Below.refl w.heap.size w).alloc (Nat.le_refl _) (.cells #[kC, kS, kF, kN, kT, .map (some Bm)] 75))
  have hblk := heap_alloc_new w (.cells #[kC, kS, kF, kN, kT, .map (some Bm)] 75)
  have hk0 := hk.below (HB.out.mono hB)
  have HTB := mkHid (hc.lin.tops b hb)
  obtain ⟨aC, cC, rfl, _, hlC, -⟩ := hk0.lk.C
  unfold maxLen at hlC
  clear hk
  go_enter Tryz.func175, Tryz.ntmps175
  go_wp2_with fail
  generalize w.alloc (.cells #[.slice aC d.classes.length cC, kS, kF, kN, kT, .map (some Bm)] 75) = W0 at *
  have HK0 := mkHid hk0
  have HBL := mkHid hblk
  have hz : B ≤ W0.heap.size := Nat.le_trans hB HB.out.size
  clear hk0 hblk
  go_loopw [1] (fun x wr => ∃ s, x = .string s ∧ Hid (0 ≤ num d.classes s ∧ s.size ≤ maxLen ∧ abvN (L a) (L b) a = abvN (L s) (L b) a ∧ Below W0.heap.size W0 wr)) (fun x _ => (L (strV x)).length)
  case atStart => exact ⟨a, rfl, ha, hs, rfl, Below.refl _ _⟩
  case round =>
    rename World => wr
    obtain ⟨s, rfl, HQ⟩ := hrel
    have hkr := HK0.out.below (HQ.out.2.2.2.mono hz)
    have hblk := (HQ.out.2.2.2.block w.heap.size (lt_of HBL.out)).trans HBL.out
    have hzr : B ≤ wr.heap.size := Nat.le_trans hz HQ.out.2.2.2.size
    have HIS := mkHid (kIs_any wr B _ _ _ _ _ _ d hkr hzr hc b s hb hsb)
    have c0 := cell_of hblk 0 (x := .slice aC d.classes.length cC) rfl
    have c1 := cell_of hblk 1 (x := kS) rfl
    have c2 := cell_of hblk 2 (x := kF) rfl
    have c3 := cell_of hblk 3 (x := kN) rfl
    have c4 := cell_of hblk 4 (x := kT) rfl
    have c5 := cell_of hblk 5 (x := .map (some Bm)) rfl
    have HKR := mkHid hkr
    have HBK := mkHid hblk
    clear hkr hblk
    cases hin : inL (L b) s with
    | true =>
      rw [hin] at HIS
      have HR := mkHid (HQ.out.2.2.1.trans (abv_self hc.lin HQ.out.1 hin a))
      go_wp2_with (go_at_call 89; refine HIS.out.mono ?_; rintro r w2 ⟨rfl, hb2⟩)
      go_ret
      exact ⟨by rw [HR.out]; rfl, HB.out.trans ((HQ.out.2.2.2.trans (hb2.mono HQ.out.2.2.2.size)).mono HB.out.size)⟩
    | false =>
      rw [hin] at HIS
      obtain ⟨n, hn, en, es⟩ := hc.nm s HQ.out.1
      have hup : ∃ m, ∃ hm : m < d.classes.length, d.classes[n].super = d.classes[m].name ∧ L s = s :: L d.classes[m].name := by
        rcases hc.up n hn with ⟨e1, -⟩ | ⟨m, hm, -, e1, e2⟩
        · have := hc.tp n hn e1
          rw [es] at this
          rw [this, inL_iff.2 HTB.out] at hin
          cases hin
        · exact ⟨m, hm, e1, by rw [es] at e2; exact e2⟩
      obtain ⟨m, hm, e1, e2⟩ := hup
      have HKY : Hid (keyOf Tryz.prog 9 (.string s) = some (key s)) := Go.WideMaps.keyOf_string_mk Tryz.underlying9 HQ.out.2.1
      have HSM : Hid (d.classes[m].name.size ≤ maxLen) := by
        obtain ⟨_, _, _, _, _, _, _, _, _, _, _, _, h, _⟩ := HKR.out.lk.C.atC m hm
        exact h
      have HNX : Hid (0 ≤ num d.classes d.classes[m].name ∧ d.classes[m].name.size ≤ maxLen ∧ abvN (L a) (L b) a = abvN (L d.classes[m].name) (L b) a) := ⟨by rw [hc.nn m hm]; omega, HSM.out, by rw [HQ.out.2.2.1, e2, abv_next hin]⟩
      go_wp2_with (first
        | (go_at_call 89; refine HIS.out.mono ?_; rintro r w2 ⟨rfl, hb2⟩; have hk2 := HKR.out.below (hb2.mono hzr); have hblk2 := (hb2.block w.heap.size (lt_of HBK.out)).trans HBK.out; obtain ⟨D, hown, hD⟩ := hk2.nm; have HD := mkHid (hD.at_ s (.lit (.int .i64 0)) HQ.out.1); obtain ⟨bC, oC, vf, vm, rfl, -, -, g1, -⟩ := hk2.lk.C.atC n hn; have f0 := cell_of hblk2 0 (x := .slice (some ⟨bC, oC, none⟩) d.classes.length cC) rfl; have f5 := cell_of hblk2 5 (x := .map (some Bm)) rfl; have HB2 := mkHid (HQ.out.2.2.2.trans (hb2.mono HQ.out.2.2.2.size)); clear hk2 hblk2 hD hb2 c0 c1 c2 c3 c4 c5)
        | (at_lookup; refine wpList_lookup_own_int _ rfl _ _ 69 rfl 9 3 .i64 law9 Tryz.underlying69 Tryz.underlying3 (zero3 _) Bm d.classes.length D rfl hown _ _ rfl HKY.out ?_))
      intro c hat hw
      obtain rfl : c = (n : Int) := by
        have e := HD.out
        rw [hat, en] at e
        exact (Lit.int.inj (DataW.lit.inj e)).2
      clear hat hw hown HD
      go_wp2_with fail
      go_roundw
      case rel => exact ⟨d.classes[m].name, by first | rfl | rw [e1], HNX.out.1, HNX.out.2.1, HNX.out.2.2, HB2.out⟩
      case measure =>
        simp [strV, e2]
end Go.Proofs.YtfibgdcpbkaaoaaGreatDoor
/- Package verify's kinds: who fits whom, and the least kind that two fit. -/
namespace Go.Proofs.YtfibgdcpbkaaoaaGreatDoor
open Go.RowKit Go.Maps
set_option maxHeartbeats 1000000 in
theorem areObjects_any (w : World) (x y : KindD) : Calls Tryz.prog 174 #[kv x, kv y] w fun r w' => r = .returned (.bool (decide (x.kind = 3) && decide (y.kind = 3))) ∧ Below w.heap.size w w' := by
  have HB := mkHid (((Below.refl w.heap.size w).alloc (Nat.le_refl _) (.cells #[.int .i64 x.kind, .string x.cls] 40)).alloc (by simp) (.cells #[.int .i64 y.kind, .string y.cls] 40))
  by_cases h1 : x.kind = 3 <;> by_cases h2 : y.kind = 3
  all_goals
    have HR : Hid ((decide (x.kind = 3) && decide (y.kind = 3)) = (decide (x.kind = 3) && decide (y.kind = 3))) := rfl
    first
      | (have b1 : (x.kind == 3) = true := by rw [h1]; rfl)
      | (have b1 : (x.kind == 3) = false := by rw [beq_eq_false_iff_ne]; exact h1)
    first
      | (have b2 : (y.kind == 3) = true := by rw [h2]; rfl)
      | (have b2 : (y.kind == 3) = false := by rw [beq_eq_false_iff_ne]; exact h2)
    have d1 : decide (x.kind = 3) = (x.kind == 3) := by simp [h1]
    have d2 : decide (y.kind = 3) = (y.kind == 3) := by simp [h2]
    rw [d1, d2, b1, b2]
    clear d1 d2 HR h1 h2
    go_enter Tryz.func174, Tryz.ntmps174
    go_wp2_with fail
    go_ret
    exact ⟨rfl, HB.out⟩
theorem object_any (w : World) (s : ByteArray) : Calls Tryz.prog 87 #[.string s] w fun r w' => r = .returned (kv ⟨3, s⟩) ∧ Below w.heap.size w w' := by
  have HB := mkHid (fun o => (Below.refl w.heap.size w).alloc (Nat.le_refl _) o)
  go_enter Tryz.func87, Tryz.ntmps87
  go_wp2_with fail
  exact bodyPost_ret (v := kv ⟨3, s⟩) (by simp [results, Tryz.results87, go_sem]) rfl ⟨rfl, HB.out _⟩
set_option maxRecDepth 100000 in
set_option maxHeartbeats 4000000 in
theorem kFits_any (w : World) (B : Nat) (kC kS kF kN kT : Value) (Bm : Nat) (d : LinkD) (hk : Kd B w kC kS kF kN kT Bm d) (hB : B ≤ w.heap.size) (hg : GlK w) {L : ByteArray → List ByteArray} (hc : Cls d L) (a b : KindD) (ha : GdK (fun s => 0 ≤ num d.classes s) a) (hs : a.cls.size ≤ maxLen) :
    Calls Tryz.prog 173 #[kdV kC kS kF kN kT Bm, kv a, kv b] w fun r w' => r = .returned (.bool (fitB topName L a b)) ∧ Below w.heap.size w w' := by
  have HB := mkHid ((((Below.refl w.heap.size w).alloc (Nat.le_refl _) (.cells #[kC, kS, kF, kN, kT, .map (some Bm)] 75)).alloc (by simp) (.cells #[.int .i64 a.kind, .string a.cls] 40)).alloc (by simp; omega) (.cells #[.int .i64 b.kind, .string b.cls] 40))
  have HG := mkHid (hg.below HB.out)
  have HK := mkHid (hk.below (HB.out.mono hB))
  have HZ := mkHid (Nat.le_trans hB HB.out.size)
  obtain ⟨t0, t1, a0, a1, u0, u1, n0, n1, -, -, -⟩ := hg.below HB.out
  have e1 : ∀ W, (binOp BinOp.eql 40 (kv a) (kv b)).run Tryz.prog W = .ok (.bool (sameK a b)) W := kindEq a b
  have e2 : ∀ W, (binOp BinOp.eql 40 (kv b) (.agg #[.int .i64 6, .string noNm])).run Tryz.prog W = .ok (.bool (sameK b anyK)) W := kindEq b anyK
  have e3 : ∀ W, (binOp BinOp.eql 40 (kv a) (.agg #[.int .i64 5, .string noNm])).run Tryz.prog W = .ok (.bool (sameK a nulK)) W := kindEq a nulK
  have e4 : ∀ W, (binOp BinOp.neq 40 (kv b) (.agg #[.int .i64 1, .string noNm])).run Tryz.prog W = .ok (.bool (!sameK b numK)) W := kindNeq b numK
  have e5 : ∀ W, (binOp BinOp.eql 40 (kv b) (.agg #[.int .i64 3, .string topName])).run Tryz.prog W = .ok (.bool (sameK b ⟨3, topName⟩)) W := kindEq b ⟨3, topName⟩
  have eg := kindNeqG
  have HR : Hid (fitB topName L a b = if sameK a b || sameK b anyK then true else if sameK a nulK then !sameK b numK else if sameK b ⟨3, topName⟩ then (!sameK a numK && !sameK a anyK) else (decide (a.kind = 3) && decide (b.kind = 3) && inL (L a.cls) b.cls)) := rfl
  have HAK : Hid (a.kind = 3 → 0 ≤ num d.classes a.cls) := fun h => ha.cls h
  clear ha hk hg
  have HQ : Hid (∃ W0, W0 = (((w.alloc (.cells #[kC, kS, kF, kN, kT, .map (some Bm)] 75)).alloc (.cells #[.int .i64 a.kind, .string a.cls] 40)).alloc (.cells #[.int .i64 b.kind, .string b.cls] 40)) ∧ Below w.heap.size w W0 ∧ W0.heap.size = w.heap.size + 1 + 1 + 1 ∧ W0.heap[w.heap.size]? = some (.cells #[kC, kS, kF, kN, kT, .map (some Bm)] 75 (0, 0)) ∧ W0.heap[w.heap.size + 1]? = some (.cells #[.int .i64 a.kind, .string a.cls] 40 (0, 0)) ∧ W0.heap[w.heap.size + 1 + 1]? = some (.cells #[.int .i64 b.kind, .string b.cls] 40 (0, 0))) := boxes3 w _ _ _ _ _ _
  cases h1 : sameK a b with
  | true =>
    rw [h1] at e1 HR
    go_enter Tryz.func173, Tryz.ntmps173
    go_wp2_with fail
    go_ret
    exact ⟨by rw [HR.out]; rfl, HB.out⟩
  | false =>
  rw [h1] at e1 HR
  cases h2 : sameK b anyK with
  | true =>
    rw [h2] at e2 HR
    go_enter Tryz.func173, Tryz.ntmps173
    go_wp2_with fail
    go_ret
    exact ⟨by rw [HR.out]; rfl, HB.out⟩
  | false =>
  rw [h2] at e2 HR
  cases h3 : sameK a nulK with
  | true =>
    rw [h3] at e3 HR
    go_enter Tryz.func173, Tryz.ntmps173
    go_wp2_with fail
    go_ret
    exact ⟨by rw [HR.out]; rfl, HB.out⟩
  | false =>
  rw [h3] at e3 HR
  cases h4 : sameK b ⟨3, topName⟩ with
  | true =>
    rw [h4] at e5 HR
    go_enter Tryz.func173, Tryz.ntmps173
    go_wp2_with (go_at_call 176; refine (isThing_any _ a HG.out).mono ?_; rintro r w2 ⟨rfl, hb2⟩)
    go_ret
    exact ⟨by rw [HR.out]; rfl, HB.out.trans (hb2.mono HB.out.size)⟩
  | false =>
  rw [h4] at e5 HR
  by_cases h5 : a.kind = 3 ∧ b.kind = 3
  · have HO : Hid ((decide (a.kind = 3) && decide (b.kind = 3)) = true) := by show _ = _; simp [h5.1, h5.2]
    have HK3 := mkHid (HAK.out h5.1)
    have HR2 : Hid (fitB topName L a b = inL (L a.cls) b.cls) := by show _ = _; rw [HR.out]; simp [h5.1, h5.2]
    clear h5 HR HAK
    go_enter Tryz.func173, Tryz.ntmps173
    go_wp2_with (first
      | (go_at_call 174; refine (areObjects_any _ a b).mono ?_; rw [HO.out]; rintro r w2 ⟨rfl, hb2⟩; obtain ⟨W0, hW0, -, -, k0, k1, k2⟩ := HQ.out; rw [hW0] at k0 k1 k2; clear hW0; have q0 := (hb2.block _ (lt_of k0)).trans k0; have q1 := (hb2.block _ (lt_of k1)).trans k1; have q2 := (hb2.block _ (lt_of k2)).trans k2; have x0 := cell_of q0 0 (x := kC) rfl; have x1 := cell_of q0 1 (x := kS) rfl; have x2 := cell_of q0 2 (x := kF) rfl; have x3 := cell_of q0 3 (x := kN) rfl; have x4 := cell_of q0 4 (x := kT) rfl; have x5 := cell_of q0 5 (x := .map (some Bm)) rfl; have y1 := cell_of q1 1 (x := .string a.cls) rfl; have z1 := cell_of q2 1 (x := .string b.cls) rfl; have HB2 := mkHid hb2; clear hb2 k0 k1 k2 q0 q1 q2)
      | (go_at_call 89; refine (kIs_any _ B _ _ _ _ _ _ d (HK.out.below (HB2.out.mono HZ.out)) (Nat.le_trans HZ.out HB2.out.size) hc a.cls b.cls HK3.out hs).mono ?_; rintro r w3 ⟨rfl, hb3⟩))
    go_ret
    exact ⟨by rw [HR2.out]; rfl, HB.out.trans ((HB2.out.trans (hb3.mono HB2.out.size)).mono HB.out.size)⟩
  · have HO : Hid ((decide (a.kind = 3) && decide (b.kind = 3)) = false) := by
      show _ = _
      rw [Bool.and_eq_false_iff]
      by_cases h : a.kind = 3
      · exact Or.inr (by simpa using fun h' => h5 ⟨h, h'⟩)
      · exact Or.inl (by simpa using h)
    have HR2 : Hid (fitB topName L a b = false) := by show _ = _; rw [HR.out, HO.out]; rfl
    clear h5 HR HAK
    go_enter Tryz.func173, Tryz.ntmps173
    go_wp2_with (go_at_call 174; refine (areObjects_any _ a b).mono ?_; rw [HO.out]; rintro r w2 ⟨rfl, hb2⟩)
    go_ret
    exact ⟨by rw [HR2.out]; rfl, HB.out.trans (hb2.mono HB.out.size)⟩
end Go.Proofs.YtfibgdcpbkaaoaaGreatDoor
