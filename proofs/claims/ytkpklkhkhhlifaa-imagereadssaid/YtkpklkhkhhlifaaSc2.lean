/- The contracts of the document's own reader: numbers, texts and kinds. -/
import Derived.Test.YtkpklkhkhhlifaaSc
namespace Go.Proofs.Ytkpklkhkhhlifaa
open Go.RowKit

/-- One reading behind another one: what is left of the plain reading. -/
theorem res_step {α γ : Type} {P : Option γ} {Q : Option (α × Nat)} {K : α × Nat → Option γ} {b b' : Bool} {x : α × Nat} (G : b = false → P = Q.bind K) (B : b = true → P = none) (h1 : b' = false → b = false ∧ Q = some x) (h2 : b' = true → b = true ∨ Q = none) :
    (b' = false → P = K x) ∧ (b' = true → P = none) := by
  refine ⟨fun h => ?_, fun h => ?_⟩
  · obtain ⟨h3, h4⟩ := h1 h
    rw [G h3, h4]
    rfl
  · rcases h2 h with h3 | h3
    · exact B h3
    · cases b
      · rw [G rfl, h3]
        rfl
      · exact B rfl
/-- Two readings, one behind the other, as one. -/
theorem ScOut.two {α β : Type} {w w1 w2 : World} {X : Nat} {s : ByteArray} {b b1 b2 : Bool} {Q : Option (α × Nat)} {K : α × Nat → Option (β × Nat)} {x : α} {p1 : Nat} {y : β} {p2 : Nat} (h : ScOut w w1 X s b Q x p1 b1) (k : ScOut w1 w2 X s b1 (K (x, p1)) y p2 b2) : ScOut w w2 X s b (Q.bind K) y p2 b2 := by
  refine ⟨grown_trans h.grown k.grown, k.sc, k.le, fun hb => ?_, fun hb => ?_⟩
  · obtain ⟨h1, h2⟩ := k.good hb
    obtain ⟨h3, h4⟩ := h.good h1
    exact ⟨h3, by rw [h4]; exact h2⟩
  · rcases k.wrong hb with h1 | h1
    · rcases h.wrong h1 with h2 | h2
      · exact Or.inl h2
      · exact Or.inr (by rw [h2]; rfl)
    · cases hb1 : b1
      · obtain ⟨_, h4⟩ := h.good hb1
        exact Or.inr (by rw [h4]; exact h1)
      · rcases h.wrong hb1 with h2 | h2
        · exact Or.inl h2
        · exact Or.inr (by rw [h2]; rfl)
theorem ScOut.map {α β : Type} {w w' : World} {X : Nat} {s : ByteArray} {b b' : Bool} {Q : Option (α × Nat)} {x : α} {p' : Nat} {R : Option (β × Nat)} {y : β} (h : ScOut w w' X s b Q x p' b') (h1 : Q = some (x, p') → R = some (y, p')) (h2 : Q = none → R = none) : ScOut w w' X s b R y p' b' :=
  ⟨h.grown, h.sc, h.le, fun hb => ⟨(h.good hb).1, h1 (h.good hb).2⟩, fun hb => (h.wrong hb).elim Or.inl fun e => Or.inr (h2 e)⟩

theorem two_plain (s : ByteArray) (p : Nat) : pNumber s p = (pCount s p).bind fun x => (pCount s x.2).bind fun y => some (256 * x.1 + y.1, y.2) := by
  unfold pNumber pCount
  by_cases h1 : p < s.size
  · by_cases h2 : p + 1 < s.size
    · rw [if_pos (by omega), if_pos h1]
      simp only [Option.bind_some]
      rw [if_pos h2]
      rfl
    · rw [if_neg (by omega), if_pos h1]
      simp only [Option.bind_some]
      rw [if_neg h2]
      rfl
  · rw [if_neg (by omega), if_neg h1]
    rfl

theorem two_s (w : World) (X : Nat) (s : ByteArray) (p : Nat) (b : Bool) (h : Sc w X s p b) (hp : p ≤ s.size) (hs : s.size ≤ 20000) :
    Calls Try.prog 37 #[.pointer (some ⟨X, 0, none⟩)] w fun r w' => ∃ (n p' : Nat) (b' : Bool), r = .returned (.int .i64 n) ∧ n ≤ 65535 ∧ ScOut w w' X s b (pNumber s p) n p' b' := by
  go_enter Try.func37, Try.ntmps37
  go_wp2_with fail
  refine (count_s _ X s p b h hp hs).mono ?_
  rintro r w1 ⟨n1, p1, b1, rfl, hn1, ho1⟩
  go_wp2_with fail
  refine (count_s _ X s p1 b1 ho1.sc ho1.le hs).mono ?_
  rintro r w2 ⟨n2, p2, b2, rfl, hn2, ho2⟩
  have HO : Hid (ScOut w w2 X s b (pNumber s p) (256 * n1 + n2) p2 b2) := by
    show ScOut _ _ _ _ _ _ _ _ _
    rw [two_plain]
    exact ho1.two (K := fun x => (pCount s x.2).bind fun y => some (256 * x.1 + y.1, y.2)) (ho2.map (fun e => by simp only [e, Option.bind_some]) (fun e => by simp only [e, Option.bind_none]))
  clear ho1 ho2
  go_wp2_with fail
  go_ret
  exact ⟨256 * n1 + n2, p2, b2, by simp, by omega, HO.out⟩

theorem text_s (w : World) (X : Nat) (s : ByteArray) (p : Nat) (b : Bool) (h : Sc w X s p b) (hp : p ≤ s.size) (hs : s.size ≤ 20000) :
    Calls Try.prog 34 #[.pointer (some ⟨X, 0, none⟩)] w fun r w' => ∃ (t : ByteArray) (p' : Nat) (b' : Bool), r = .returned (.string t) ∧ t.size ≤ maxLen ∧ ScOut w w' X s b (pText s p) t p' b' := by
  go_enter Try.func34, Try.ntmps34
  go_wp2_with fail
  refine (count_s _ X s p b h hp hs).mono ?_
  rintro r w1 ⟨n1, p1, b1, rfl, hn1, ho1⟩
  go_wp2_with fail
  refine (bytes_s _ X s p1 n1 b1 ho1.sc ho1.le hs (by omega)).mono ?_
  rintro r w2 ⟨t, p2, b2, rfl, ht, ho2⟩
  have HO : Hid (ScOut w w2 X s b (pText s p) t p2 b2) := ho1.two (K := fun x => pBytes s x.1 x.2) ho2
  clear ho1 ho2
  go_wp2_with fail
  go_ret
  exact ⟨t, p2, b2, rfl, ht, HO.out⟩
end Go.Proofs.Ytkpklkhkhhlifaa
