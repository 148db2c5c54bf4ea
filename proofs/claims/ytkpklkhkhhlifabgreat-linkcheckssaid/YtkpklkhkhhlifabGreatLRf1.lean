/- The document's own reading of linked classes: numbers of names, kinds that are told. -/
import Derived.Test.YtkpklkhkhhlifabGreatJLFldLSaD
namespace Go.Proofs.YtkpklkhkhhlifabGreat
open Go.RowKit Go.Sort

/-- The number of a name: of the first class that has it; -1: there is none. -/
def firstAt (l : List ClassD) (s : ByteArray) : Int := match l.findIdx? (fun c => decide (c.name = s)) with | some i => i | none => -1
theorem firstAt_hit {l : List ClassD} {s : ByteArray} {k : Nat} (hk : k < l.length) (h : l[k].name = s) (hb : ∀ (j : Nat) (hj : j < l.length), j < k → l[j].name ≠ s) : firstAt l s = k := by
  have : l.findIdx? (fun c => decide (c.name = s)) = some k := by
    rw [List.findIdx?_eq_some_iff_getElem]
    exact ⟨hk, by simp [h], fun j hj => by simp [hb j (by omega) hj]⟩
  rw [firstAt, this]
theorem firstAt_none {l : List ClassD} {s : ByteArray} (hb : ∀ (j : Nat) (hj : j < l.length), l[j].name ≠ s) : firstAt l s = -1 := by
  have : l.findIdx? (fun c => decide (c.name = s)) = none := by
    rw [List.findIdx?_eq_none_iff]
    intro c hc
    obtain ⟨j, hj, rfl⟩ := List.getElem_of_mem hc
    simp [hb j hj]
  rw [firstAt, this]
theorem firstAt_bd (l : List ClassD) (s : ByteArray) : -1 ≤ firstAt l s ∧ firstAt l s < l.length := by
  unfold firstAt
  split
  · rename_i i h
    have := (List.findIdx?_eq_some_iff_getElem.1 h).1
    omega
  · omega

set_option maxHeartbeats 1000000 in
theorem ClassAt_any (w : World) (M : Nat → Prop) (v : Value) (l : List ClassD) (s : ByteArray) (hv : SL 4 RC M w v l) :
    Calls Tryz.prog 16 #[v, .string s] w fun r w' => r = .returned (.int .i64 (firstAt l s)) ∧ w' = w := by
  have HV := mkHid hv
  obtain ⟨ao, cl, rfl, -, hl, -⟩ := hv
  unfold maxLen at hl
  go_enter Tryz.func16, Tryz.ntmps16
  go_wp2
  go_loopw [5] (fun i wr => ∃ k : Nat, k ≤ l.length ∧ i = .int .i64 k ∧ Hid (∀ (j : Nat) (hj : j < l.length), j < k → l[j].name ≠ s) ∧ wr = w) (fun i _ => l.length - (intOf i).toNat)
  case atStart => exact ⟨0, Nat.zero_le _, rfl, (fun j _ h => by omega), rfl⟩
  case round =>
    obtain ⟨k, hk, rfl, HQ, rfl⟩ := hrel
    by_cases hlt : k < l.length
    · obtain ⟨b, off, vf, vm, rfl, hb, e0, e1, e2, e3, ef, em, es1, es2⟩ := HV.out.atC k hlt
      clear ef em e1 e2 e3 es1 es2
      by_cases hs : l[k].name = s
      · have HR := mkHid (firstAt_hit hlt hs HQ.out)
        have hs' : (l[k].name.toList == s.toList) = true := by rw [hs]; simp
        clear hs
        go_wp2
        go_ret
        exact ⟨by rw [HR.out]; rfl, rfl⟩
      · have HQ' : Hid (∀ (j : Nat) (hj : j < l.length), j < k + 1 → l[j].name ≠ s) := fun j hj h => by
          by_cases hjk : j < k
          · exact HQ.out j hj hjk
          · have : j = k := by omega
            subst this
            exact hs
        have hs' : (l[k].name.toList == s.toList) = false := by
          rw [beq_eq_false_iff_ne]
          exact fun e => hs (tl_inj e)
        clear hs
        go_wp2
        go_roundw
        case rel => exact ⟨k + 1, by omega, by go_num, HQ'.out, trivial⟩
        case measure => simp [intOf]; omega
    · have HR := mkHid (firstAt_none (l := l) (s := s) fun j hj => HQ.out j hj (by omega))
      go_wp2
      go_ret
      exact ⟨by rw [HR.out]; rfl, rfl⟩

def toldK (l : List ClassD) (k : KindD) : Bool := decide (k.cls = (⟨#[]⟩ : ByteArray)) || decide (0 ≤ firstAt l k.cls)
set_option maxHeartbeats 1000000 in
theorem Told_any (w : World) (M M' : Nat → Prop) (v u : Value) (l : List ClassD) (ks : List KindD) (hv : SL 4 RC M w v l) (hu : SL 2 RK M' w u ks) :
    Calls Tryz.prog 55 #[v, u] w fun r w' => r = .returned (.bool (ks.all (toldK l))) ∧ w' = w := by
  have HV := mkHid hv
  have HU := mkHid hu
  obtain ⟨ao, cl, rfl, -, hl, -⟩ := hv
  obtain ⟨au, cu, rfl, -, hlu, -⟩ := hu
  unfold maxLen at hl hlu
  go_enter Tryz.func55, Tryz.ntmps55
  go_wp2
  go_loopw [5] (fun i wr => ∃ k : Nat, k ≤ ks.length ∧ i = .int .i64 k ∧ Hid (ks.all (toldK l) = (ks.drop k).all (toldK l)) ∧ wr = w) (fun i _ => ks.length - (intOf i).toNat)
  case atStart => exact ⟨0, Nat.zero_le _, rfl, rfl, rfl⟩
  case round =>
    obtain ⟨k, hk, rfl, HQ, rfl⟩ := hrel
    by_cases hlt : k < ks.length
    · obtain ⟨b, off, rfl, hb, e0, e1, es⟩ := HU.out.atK k hlt
      have HST : Hid ((ks.drop k).all (toldK l) = (toldK l ks[k] && (ks.drop (k + 1)).all (toldK l))) := by
        show _ = _
        rw [List.drop_eq_getElem_cons hlt, List.all_cons]
      have HCA := mkHid (ClassAt_any wr M _ l ks[k].cls HV.out)
      have hbd := firstAt_bd l ks[k].cls
      have HTK : Hid (toldK l ks[k] = (decide (ks[k].cls = (⟨#[]⟩ : ByteArray)) || decide (0 ≤ firstAt l ks[k].cls))) := rfl
      generalize ks[k] = x at *
      generalize firstAt l x.cls = fa at *
      have hb1 := hbd.1
      have hb2 := hbd.2
      clear hbd e0 es
      by_cases hn : x.cls = ⟨#[]⟩
      · have hn' := nil_tl hn
        have HQ' : Hid (ks.all (toldK l) = (ks.drop (k + 1)).all (toldK l)) := HQ.out.trans (by rw [HST.out, HTK.out]; simp [hn])
        clear hn HCA
        go_wp2
        go_roundw
        case rel => exact ⟨k + 1, by omega, by go_num, HQ'.out, trivial⟩
        case measure => simp [intOf]; omega
      · have hn' : x.cls.toList.isEmpty = false := by
          cases hq : x.cls.toList with
          | nil => exact absurd (tl_nil hq) hn
          | cons _ _ => rfl
        by_cases hf : fa < 0
        · have HQ' : Hid (ks.all (toldK l) = false) := HQ.out.trans (by rw [HST.out, HTK.out]; simp [hn]; omega)
          clear hn
          go_wp2_with (first | (go_at_call 16; refine HCA.out.mono ?_; rintro r w7 ⟨rfl, rfl⟩))
          go_ret
          exact ⟨by rw [HQ'.out]; rfl, rfl⟩
        · have HQ' : Hid (ks.all (toldK l) = (ks.drop (k + 1)).all (toldK l)) := HQ.out.trans (by
            rw [HST.out, HTK.out]
            have : (0 : Int) ≤ fa := by omega
            simp [this])
          clear hn
          go_wp2_with (first | (go_at_call 16; refine HCA.out.mono ?_; rintro r w7 ⟨rfl, rfl⟩))
          go_roundw
          case rel => exact ⟨k + 1, by omega, by go_num, HQ'.out, trivial⟩
          case measure => simp [intOf]; omega
    · have HQ' : Hid (ks.all (toldK l) = true) := HQ.out.trans (by rw [List.drop_of_length_le (by omega)]; rfl)
      go_wp2
      go_ret
      exact ⟨by rw [HQ'.out]; rfl, rfl⟩
end Go.Proofs.YtkpklkhkhhlifabGreat
