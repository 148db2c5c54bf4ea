/- The contract of a web's method that makes all fields of a class. -/
import Derived.Test.YtkpklkhkhhlifacGreatLNone
import Derived.Test.YtkpklkhkhhlifacGreatFine
namespace Go.Proofs.YtkpklkhkhhlifacGreat
open Go.RowKit Go.Sort

theorem Tryz.infoField : (Tryz.prog.info? 69).map (fun i => (i.zero, i.size, i.bytes)) = some (some (.agg #[.string ⟨#[]⟩, .int .i64 0, .string ⟨#[]⟩]), 3, 40) := by kernel_rfl
theorem climb_lt (l : List ClassD) : ∀ (f : Nat) (m : Int), m < l.length → ∀ k ∈ climb l f m, k < l.length
  | 0, _, _, k, hk => by cases hk
  | f + 1, m, hm, k, hk => by
    unfold climb at hk
    split at hk
    · rcases List.mem_cons.1 hk with rfl | hk
      · omega
      · exact climb_lt l f _ (sup_bd l _).2 k hk
    · cases hk
theorem climb_len (l : List ClassD) : ∀ (f : Nat) (m : Int), (climb l f m).length ≤ f
  | 0, _ => by simp [climb]
  | f + 1, m => by
    unfold climb
    split
    · have := climb_len l f (supAt l m.toNat)
      simp
      omega
    · simp
theorem line_lt {l : List ClassD} {n : Nat} (hn : n < l.length) : ∀ k ∈ lineOf l n, k < l.length := fun k hk => climb_lt l _ n (by omega) k (by simpa [lineOf] using hk)
theorem line_len (l : List ClassD) (n : Nat) : (lineOf l n).length ≤ l.length + 1 := by
  rw [lineOf, List.length_reverse]
  exact climb_len l _ _
def fcells (f : FieldD) : List Value := [.string f.name, .int .i64 f.kind.kind, .string f.kind.cls]
theorem RF_fcells {M : Nat → Prop} {w : World} {cs : List Value} {f : FieldD} (h : RF M w cs f) : cs = fcells f := h.1
theorem addr_add (b off j : Nat) : (⟨b, off, none⟩ : Addr).add j = ⟨b, off + j, none⟩ := by unfold Addr.add; split <;> simp_all
theorem news_of {α : Type} {n : Nat} {R : (Nat → Prop) → World → List Value → α → Prop} {M : Nat → Prop} {w : World} {b off len cap : Nat} {l : List α} (f : α → List Value) (hn : 0 < n) (hf : ∀ x ∈ l, (f x).length = n) (hR : ∀ cs x, R M w cs x → cs = f x)
    (h : SL n R M w (.slice (some ⟨b, off, none⟩) len cap) l) : ∀ j u, (l.flatMap f)[j]? = some u → w.cell? ((⟨b, off, none⟩ : Addr).add j) = some u := by
  intro j u hu
  have hlen : (l.flatMap f).length = l.length * n := by
    clear h hR hu
    induction l with
    | nil => simp
    | cons x l ih =>
      rw [List.flatMap_cons, List.length_append, ih (fun y hy => hf y (by simp [hy])), hf x (by simp), List.length_cons, Nat.add_mul]
      omega
  have hj : j < l.length * n := by rw [← hlen]; exact (List.getElem?_eq_some_iff.1 hu).1
  have hq : j / n < l.length := Nat.div_lt_of_lt_mul (by rw [Nat.mul_comm]; exact hj)
  have hr : j % n < n := Nat.mod_lt _ hn
  have hjd : j / n * n + j % n = j := by rw [Nat.mul_comm]; exact Nat.div_add_mod j n
  obtain ⟨b', off', cs, e, _, _, _, hc, hr'⟩ := h.at (j / n) hq
  cases e
  have hcs := hR _ _ hr'
  rw [← hjd, flat_get f l (j / n) (j % n) hf hq hr] at hu
  have := hc (j % n) hr
  rw [hcs, hu] at this
  rw [addr_add, ← hjd, ← Nat.add_assoc]
  exact this
theorem flat_len {l : List FieldD} : (l.flatMap fcells).length = l.length * 3 := by
  induction l with
  | nil => rfl
  | cons x l ih => rw [List.flatMap_cons, List.length_append, ih, List.length_cons]; simp [fcells]; omega
theorem one_fcells (l : List FieldD) : ∀ u ∈ l.flatMap fcells, u.oneCell' = true := by
  intro u hu
  obtain ⟨f, _, hu⟩ := List.mem_flatMap.1 hu
  simp [fcells] at hu
  rcases hu with rfl | rfl | rfl <;> rfl

set_option maxHeartbeats 4000000 in
theorem fieldsOf_any (w : World) (B b : Nat) (l : List ClassD) (n : Nat) (hn : n < l.length) (ao : Option Addr) (cl : Nat) (c0 : w.cell? ⟨b, 0, none⟩ = some (.slice ao l.length cl)) (sC : SL 4 RC (· < B) w (.slice ao l.length cl) l)
    (vL : Value) (LL : List (List Nat)) (c6 : w.cell? ⟨b, 6, none⟩ = some vL) (sL : SL 1 (RSl 1 RO) (MT B [3, 24] w) w vL LL) (hnL : n < LL.length) (hLL : LL[n] = lineOf l n) (hB : B ≤ w.heap.size) (hN : l.length ≤ 10) (hF : ∀ c ∈ l, c.fields.length ≤ 6) :
    Calls Tryz.prog 41 #[.pointer (some ⟨b, 0, none⟩), .int .i64 n] w fun r w' => Below w.heap.size w w' ∧ ∃ v, r = .returned v ∧ SL 3 RF (MT w.heap.size [69] w') w' v (fieldsOf l n) := by
  obtain ⟨iF, hiF, hzF0, hzF1, hzF2⟩ := info_parts Tryz.infoField
  have hbl : b < w.heap.size := World.block_lt_of_cell? w _ c0
  have HLL := mkHid hLL
  have HC := mkHid sC
  have sL' := sL
  obtain ⟨aL, cL, rfl, -⟩ := sL'
  obtain ⟨bL, oL, aI, cI, rfl, hbL, eL, sI⟩ := sL.atSl n hnL
  rw [HLL.out] at eL sI
  have hkL := line_lt hn
  have hlL := line_len l n
  have HFO : Hid (fieldsOf l n = (lineOf l n).flatMap fun k => (clsAt l k).fields) := rfl
  generalize lineOf l n = ln at *
  have HI := mkHid sI
  have HK := mkHid hkL
  have HFF := mkHid hF
  have hn0 : (0 : Int) ≤ n := by omega
  have hn1 : (n : Int) < LL.length := by omega
  clear sC sL sI hLL hkL hF
  go_enter Tryz.func41, Tryz.ntmps41
  go_wp2_with fail
  go_loopw [5, 16] (fun v i wr => ∃ (k : Nat) (fs : List FieldD), k ≤ ln.length ∧ i = .int .i64 k ∧ Hid (fs = (ln.take k).flatMap fun k => (clsAt l k).fields) ∧ fs.length ≤ 6 * k ∧ Hid (∀ f ∈ fs, f.name.size ≤ maxLen ∧ f.kind.cls.size ≤ maxLen) ∧ wr.ownsRow w.heap.size 69 3 v fs.length (fs.flatMap fcells) ∧ Below w.heap.size w wr) (fun _ i _ => ln.length - (intOf i).toNat)
  case atStart => exact ⟨0, [], Nat.zero_le _, rfl, rfl, by simp, (fun f hf => by cases hf), World.ownsRow_nil _ _ _ _, Below.refl _ _⟩
  case round =>
    obtain ⟨k, fs, hk, rfl, HP, hfl, HSZ, hown, hBr⟩ := hrel
    obtain ⟨a5, c5, rfl⟩ := own_shape hown
    have hsr := hBr.size
    by_cases hlt : k < ln.length
    · obtain ⟨bi, oi, rfl, hbi, ei⟩ := HI.out.atO k hlt
      have ei' := (hBr.cell (p := ⟨bi, oi + k, none⟩) hbi).trans ei
      have hmk := HK.out ln[k] (List.getElem_mem hlt)
      have d0 : wr.cell? ⟨b, 0, none⟩ = some (.slice ao l.length cl) := (hBr.cell (p := ⟨b, 0, none⟩) hbl).trans c0
      obtain ⟨bc, oc, vf, vm, rfl, hbc, e0, e1, e2, e3, ef, em, es1, es2⟩ := (HC.out.keptC (Kp.below (hBr.mono hB))).atC ln[k] hmk
      have hcf := HFF.out l[ln[k]] (List.getElem_mem hmk)
      have HCA : Hid (clsAt l ln[k] = l[ln[k]]) := clsAt_eq hmk
      obtain ⟨m, hm⟩ : ∃ m, m = ln[k] := ⟨_, rfl⟩
      have HM := mkHid hm
      generalize hcc : l[ln[k]] = cc at *
      clear hcc
      rw [← hm] at ei' e0 e1 e2 e3 hmk
      have hm0 : (0 : Int) ≤ m := by omega
      have hm1 : (m : Int) < l.length := by omega
      have EF := mkHid ef
      obtain ⟨fo, cf, rfl, -⟩ := ef
      have HOW := mkHid hown
      have hszF : ∀ f ∈ cc.fields, f.name.size ≤ maxLen ∧ f.kind.cls.size ≤ maxLen := by
        intro f hf
        obtain ⟨q, hq, rfl⟩ := List.getElem_of_mem hf
        obtain ⟨_, _, _, _, _, _, _, h1, h2⟩ := EF.out.atF q hq
        exact ⟨h1, h2⟩
      have HSF := mkHid hszF
      have HNX : Hid ((ln.take (k + 1)).flatMap (fun k => (clsAt l k).fields) = fs ++ cc.fields) := by
        show _ = _
        rw [List.take_succ_eq_append_getElem hlt, List.flatMap_append, ← HP.out]
        simp [HCA.out]
      clear hm ei hszF
      by_cases h0 : cc.fields = []
      · have HNE := mkHid h0
        rw [h0] at e2
        clear h0
        obtain ⟨hc5, ha5⟩ := own_app hown
        go_wp2_with (at_builtin; refine wpList_append_none _ rfl _ _ 65 rfl 69 iF Tryz.underlying65 hiF a5 fs.length c5 rfl hc5 ha5 fo cf rfl ?_)
        clear ha5 hc5
        go_wp2_with fail
        go_roundw
        case rel => exact ⟨k + 1, fs, by omega, by go_num, by show _ = _; have := HNX.out; rw [HNE.out, List.append_nil] at this; exact this.symm, by omega, HSZ.out, HOW.out, hBr⟩
        case measure => simp [intOf]; omega
      · have hpos : 0 < cc.fields.length := List.length_pos_iff.2 h0
        obtain ⟨bf, of, hfo⟩ : ∃ bf of, fo = some ⟨bf, of, none⟩ := by
          obtain ⟨bf, of, e, _⟩ := EF.out.atF 0 hpos
          exact ⟨bf, of, e⟩
        subst hfo
        have HNEWS : Hid (∀ j u, (cc.fields.flatMap fcells)[j]? = some u → wr.cell? ((⟨bf, of, none⟩ : Addr).add j) = some u) := news_of fcells (by decide) (fun x _ => rfl) (fun _ _ h => h.1) EF.out
        have HBB : Hid (fs.length + cc.fields.length ≤ maxLen ∧ (fs.length + cc.fields.length) * 40 ≤ 140737488355328) := ⟨by unfold maxLen; omega, by omega⟩
        clear h0
        go_wp2_with (at_builtin; refine wpList_append_lies _ rfl _ _ 65 rfl w.heap.size 69 iF (.agg #[.string ⟨#[]⟩, .int .i64 0, .string ⟨#[]⟩]) 3 40 Tryz.underlying65 hiF hzF0 hzF1 hzF2 rfl (by decide) (.slice a5 fs.length c5) fs.length (fs.flatMap fcells) rfl HOW.out ⟨bf, of, none⟩ cc.fields.length cf (cc.fields.flatMap fcells) rfl flat_len HNEWS.out (one_fcells _) hpos HBB.out.1 HBB.out.2 hsr _ rfl ?_)
        intro g cap w1 hown1 hgr1 hat1 hlt1
        have HX := mkHid (And.intro hown1 (hBr.grown hgr1 hsr (fun k e => (HOW.out.lt k e).1)))
        clear hown1 hgr1 hat1 hown hBr
        go_wp2_with fail
        go_roundw
        case rel =>
          obtain ⟨hown1, hB1⟩ := HX.out
          refine ⟨k + 1, fs ++ cc.fields, by omega, by go_num, HNX.out.symm, by simp; omega, ?_, ?_, hB1⟩
          · show ∀ f ∈ _, _
            intro f hf
            rcases List.mem_append.1 hf with hf | hf
            · exact HSZ.out f hf
            · exact HSF.out f hf
          · rw [List.length_append, List.flatMap_append]
            exact hown1
        case measure => simp [intOf]; omega
    · have HX : Hid (fieldsOf l n = fs) := by
        show _ = _
        rw [HFO.out, HP.out, List.take_of_length_le (by omega)]
      have hzs : (fs.map fun f => (fcells f, f)).length = fs.length := by simp
      have hzf : (fs.map fun f => (fcells f, f)).flatMap (·.1) = fs.flatMap fcells := by rw [List.flatMap_map]
      have SV := mkHid (own_SL (n := 3) (R := RF) (T := [69]) (zs := fs.map fun f => (fcells f, f)) (by rw [hzs, hzf]; exact hown) (fun z hz => by
        obtain ⟨f, hf, rfl⟩ := List.mem_map.1 hz
        exact ⟨rfl, rfl, HSZ.out f hf⟩) (by simp) (by rw [hzs]; unfold maxLen; omega))
      clear hzs hzf hown
      go_wp2_with fail
      go_ret
      exact ⟨hBr, _, rfl, by rw [HX.out]; have := SV.out; rwa [List.map_map, show ((·.2) ∘ fun f : FieldD => (fcells f, f)) = id from rfl, List.map_id] at this⟩
end Go.Proofs.YtkpklkhkhhlifacGreat
