/- The contract of what asks after the class Error. -/
import Derived.Test.YtjdnmblggdobgaaGreatLAsk
import Derived.Laws.StructEq
namespace Go.Proofs.YtjdnmblggdobgaaGreat
open Go.RowKit Go.Maps

theorem kindEql (k k' : Int) (c c' : ByteArray) (w : World) : (binOp BinOp.eql 123 (.agg #[.int .i64 k, .string c]) (.agg #[.int .i64 k', .string c'])).run Tryz.prog w = .ok (.bool ((k == k') && (c.toList == c'.toList))) w := by
  have u3 := Tryz.underlying3
  have a3 := Tryz.isAgg3
  have z3 := Tryz.sizeOf3
  have u9 := Tryz.underlying9
  have a9 := Tryz.isAgg9
  have z9 := Tryz.sizeOf9
  have hS : Tryz.prog.underlying 123 = some (.struct (Tryz.prog.fieldsOf 123)) := by kernel_rfl
  have hp : Tryz.prog.stoodInHeld 123 = false := by kernel_rfl
  rw [run_eql_struct, show (10000 : Nat) = 9999 + 1 from rfl, run_equalIn_agg w 9999 123 _ _ hS hp]
  simp only [Program.fieldsOf, Tryz.underlying123]
  go_simp
  by_cases h1 : k = k' <;> by_cases h2 : c.toList = c'.toList <;> simp [h1, h2]
theorem kindGuard : Tryz.prog.eqGuardType Tryz.prog.depth 123 = false := by kernel_rfl

set_option maxHeartbeats 2000000 in
theorem errorIsRight_any (w : World) (B b : Nat) (l : List ClassD) (vC vS vF vN vT vL : Value) (Bm : Nat) (hw : Web B w b l vC vS vF vN vT vL Bm) (he : 0 ≤ num l errName) :
    Calls Tryz.prog 208 #[.pointer (some ⟨b, 0, none⟩)] w fun r w' => r = .returned (.bool (askError l)) ∧ Below w.heap.size w w' := by
  have hnm : ∀ n, NumMap (w.drewN n) Bm l := fun n => hw.nm.below (below_dn (Below.refl w.heap.size w) n) hw.nm.lt
  have c5 := cell_of hw.blk 5 (x := .map (some Bm)) rfl
  have c1 := cell_of hw.blk 1 (x := vS) rfl
  have c2 := cell_of hw.blk 2 (x := vF) rfl
  have HN : Hid (∀ s, s.size ≤ maxLen → ∀ n, Calls Tryz.prog 199 #[.pointer (some ⟨b, 0, none⟩), .string s] (w.drewN n) fun r w' => r = .returned (.int .i64 (num l s)) ∧ w' = w.drewN n) := fun s hs n => number_any _ b Bm l s c5 (hnm n) hs
  obtain ⟨n, hn⟩ := Int.eq_ofNat_of_zero_le he
  have hnl : n < l.length := by have := (num_le l errName).2; omega
  obtain ⟨t, ht⟩ : ∃ t, num l topName = t := ⟨_, rfl⟩
  have htb := num_le l topName
  have hsb := num_le l (clsAt l n).super
  rw [ht] at htb
  have HA : Hid (askError l = (decide (supAt l n = t) && (match fieldsOf l n with | [] => false | f :: _ => sameK f.kind ⟨1, ⟨#[]⟩⟩))) := by
    show askError l = _
    unfold askError
    rw [ht, hn]
    rfl
  have hlS : ((List.range l.length).map (supAt l)).length = l.length := by simp
  have hlF : ((List.range l.length).map (fieldsOf l)).length = l.length := by simp
  obtain ⟨aS, cS, hvS, -⟩ := hw.sS
  obtain ⟨aF, cF, hvF, -⟩ := hw.sF
  rw [hlS] at hvS
  rw [hlF] at hvF
  subst hvS hvF
  obtain ⟨bS, oS, rfl, hbS, e1⟩ := hw.sS.atI n (by omega)
  obtain ⟨bF, oF, aL, cL, rfl, hbF, e2, sL⟩ := hw.sF.atSl n (by omega)
  have g1 : ((List.range l.length).map (supAt l))[n]'(by omega) = supAt l n := by simp
  have g2 : ((List.range l.length).map (fieldsOf l))[n]'(by omega) = fieldsOf l n := by simp
  rw [g1] at e1
  rw [g2] at e2 sL
  have hsx : supAt l n = num l (clsAt l n).super := rfl
  rw [← hsx] at hsb
  clear g1 g2 hlS hlF hsx hw c5 hnm
  generalize supAt l n = s at *
  generalize fieldsOf l n = fs at *
  have HE : Hid (num l errName = n) := hn
  have HT : Hid (num l topName = t) := ht
  have ht1 := htb.1
  have ht2 := htb.2
  have hs1 := hsb.1
  have hs2 := hsb.2
  have h00 : (0 : Int) ≤ n := by omega
  have h01 : (n : Int) < l.length := by omega
  clear hn ht he htb hsb
  by_cases hst : s = t
  · subst hst
    cases fs with
    | nil =>
      have e2' : w.cell? ⟨bF, oF + n, none⟩ = some (.slice aL 0 cL) := e2
      clear e2 sL
      go_enter Tryz.func208, Tryz.ntmps208
      go_wp2_with (go_at_call 199; refine (HN.out errName (by decide) 0).mono ?_; rintro r w1 ⟨h1, rfl⟩; rw [HE.out] at h1; subst h1)
      go_quiet (first | (go_at_call 199; exact Calls.quiet_of_same ((HN.out topName (by decide) _).mono fun _ _ h => ⟨h.1.trans (by rw [HT.out]), h.2⟩)))
      go_wp2_with fail
      go_ret
      exact ⟨by rw [HA.out]; simp, below_dn (below_dn (Below.refl _ _) _) _⟩
    | cons f fs =>
      obtain ⟨bf, of, rfl, hbf, y0, y1, y2, z1, z2⟩ := sL.atF 0 (by simp)
      have e2' : w.cell? ⟨bF, oF + n, none⟩ = some (.slice (some ⟨bf, of, none⟩) (fs.length + 1) cL) := e2
      have y1' : w.cell? ⟨bf, of + 1, none⟩ = some (.int .i64 f.kind.kind) := by simpa using y1
      have y2' : w.cell? ⟨bf, of + 2, none⟩ = some (.string f.kind.cls) := by simpa using y2
      have hz2 : f.kind.cls.size ≤ maxLen := z2
      have hfl : (0 : Int) < ((fs.length + 1 : Nat) : Int) := by omega
      clear e2 sL y0 y1 y2 z1 z2
      have hke := kindEql f.kind.kind 1 f.kind.cls ⟨#[]⟩
      have hkg := kindGuard
      go_enter Tryz.func208, Tryz.ntmps208
      go_wp2_with (go_at_call 199; refine (HN.out errName (by decide) 0).mono ?_; rintro r w1 ⟨h1, rfl⟩; rw [HE.out] at h1; subst h1)
      go_quiet (first | (go_at_call 199; exact Calls.quiet_of_same ((HN.out topName (by decide) _).mono fun _ _ h => ⟨h.1.trans (by rw [HT.out]), h.2⟩)))
      go_wp2_with fail
      go_ret
      have hval : (f.kind.kind == 1 && f.kind.cls.toList.isEmpty) = askError l := by
        rw [HA.out, sameK]
        by_cases h2 : f.kind.cls = ⟨#[]⟩
        · rw [nil_tl h2, Bool.eq_iff_iff]
          simp [h2]
        · have : f.kind.cls.toList.isEmpty = false := by
            cases hq : f.kind.cls.toList with
            | nil => exact absurd (tl_nil hq) h2
            | cons _ _ => rfl
          rw [this]
          simp [h2]
      exact ⟨by rw [← hval]; rfl, below_dn (below_dn (Below.refl _ _) _) _⟩
  · have hd : (s == t) = false := by simpa using hst
    have hd2 : decide (s = t) = false := by simpa using hst
    clear sL
    go_enter Tryz.func208, Tryz.ntmps208
    go_wp2_with (go_at_call 199; refine (HN.out errName (by decide) 0).mono ?_; rintro r w1 ⟨h1, rfl⟩; rw [HE.out] at h1; subst h1)
    go_quiet (first | (go_at_call 199; exact Calls.quiet_of_same ((HN.out topName (by decide) _).mono fun _ _ h => ⟨h.1.trans (by rw [HT.out]), h.2⟩)))
    go_wp2_with fail
    go_ret
    exact ⟨by rw [HA.out, hd2]; rfl, below_dn (below_dn (Below.refl _ _) _) _⟩
end Go.Proofs.YtjdnmblggdobgaaGreat
