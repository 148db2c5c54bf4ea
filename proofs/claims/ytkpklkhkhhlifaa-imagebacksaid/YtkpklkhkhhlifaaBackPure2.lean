/- What is read was written so: plain facts on bytes. -/
import Derived.Test.YtkpklkhkhhlifaaBackPure
namespace Go.Proofs.Ytkpklkhkhhlifaa
open Go.RowKit

/-- From here up to there these bytes stand. -/
structure Bk (s : ByteArray) (p q : Nat) (bs : List UInt8) : Prop where
  le : p ≤ q
  size : q ≤ s.size
  eq : seg s p q = bs
theorem Bk.append {s : ByteArray} {p m q : Nat} {a b : List UInt8} (h : Bk s p m a) (k : Bk s m q b) : Bk s p q (a ++ b) :=
  ⟨Nat.le_trans h.le k.le, k.size, by rw [seg_split h.le k.le, h.eq, k.eq]⟩
theorem pCount_back {s : ByteArray} {p n q : Nat} (h : pCount s p = some (n, q)) : Bk s p q [toB n] ∧ n ≤ 255 := by
  unfold pCount at h
  split at h
  · rename_i hp
    cases h
    have := bt_lt s p
    exact ⟨⟨by omega, hp, seg_one hp⟩, by omega⟩
  · cases h
theorem pNumber_back {s : ByteArray} {p n q : Nat} (h : pNumber s p = some (n, q)) : Bk s p q (wTwo n) := by
  unfold pNumber at h
  split at h
  · rename_i hp
    cases h
    have b1 := bt_lt s p
    have b2 := bt_lt s (p + 1)
    have e1 : toB (((256 * bt s p + bt s (p + 1) : Nat) : Int) / 256) = toB (bt s p) := by congr 1; omega
    have e2 : toB ((256 * bt s p + bt s (p + 1) : Nat) : Int) = toB (bt s (p + 1)) := by
      unfold toB
      congr 2
      omega
    refine ⟨by omega, hp, ?_⟩
    rw [seg_split (m := p + 1) (by omega) (by omega), seg_one (by omega), show p + 2 = p + 1 + 1 by omega, seg_one (by omega), wTwo, e1, e2]
    rfl
  · cases h
theorem pBytes_back {s : ByteArray} {n p q : Nat} {t : ByteArray} (h : pBytes s n p = some (t, q)) : Bk s p q t.data.toList ∧ t.size = n := by
  unfold pBytes at h
  split at h
  · rename_i hp
    cases h
    exact ⟨⟨by omega, hp, (seg_ext s p n).symm⟩, by simp; omega⟩
  · cases h
theorem pText_back {s : ByteArray} {p q : Nat} {t : ByteArray} (h : pText s p = some (t, q)) : Bk s p q (wText t) := by
  rw [pText, Option.bind_eq_some_iff] at h
  obtain ⟨⟨n, p1⟩, h1, h2⟩ := h
  obtain ⟨a, _⟩ := pCount_back h1
  obtain ⟨b, hb⟩ := pBytes_back h2
  have := a.append b
  rw [← show t.size = n from hb] at this
  exact this
theorem pKind_back {s : ByteArray} {p q : Nat} {x : KindD} (h : pKind s p = some (x, q)) : Bk s p q (wKind x) := by
  rw [pKind, Option.bind_eq_some_iff] at h
  obtain ⟨⟨n, p1⟩, h1, h2⟩ := h
  obtain ⟨a, _⟩ := pCount_back h1
  dsimp only at h2
  split at h2
  · rename_i hc
    rw [Option.bind_eq_some_iff] at h2
    obtain ⟨⟨t, p2⟩, h3, h4⟩ := h2
    cases h4
    have e : wKind ⟨n, t⟩ = toB n :: wText t := by rw [wKind, if_pos hc]
    rw [e]
    exact a.append (pText_back h3)
  · rename_i hc
    cases h2
    have e : wKind ⟨n, ByteArray.empty⟩ = [toB n] := by rw [wKind, if_neg hc]
    rw [e]
    exact a
theorem pField_back {s : ByteArray} {p q : Nat} {x : FieldD} (h : pField s p = some (x, q)) : Bk s p q (wField x) := by
  rw [pField, Option.bind_eq_some_iff] at h
  obtain ⟨⟨t, p1⟩, h1, h2⟩ := h
  rw [Option.bind_eq_some_iff] at h2
  obtain ⟨⟨k, p2⟩, h3, h4⟩ := h2
  cases h4
  exact (pText_back h1).append (pKind_back h3)
theorem pHand_back {s : ByteArray} {p q : Nat} {x : HandD} (h : pHand s p = some (x, q)) : Bk s p q (wHand x) := by
  rw [pHand, Option.bind_eq_some_iff] at h
  obtain ⟨⟨a, p1⟩, h1, h⟩ := h
  rw [Option.bind_eq_some_iff] at h
  obtain ⟨⟨b, p2⟩, h2, h⟩ := h
  rw [Option.bind_eq_some_iff] at h
  obtain ⟨⟨c, p3⟩, h3, h⟩ := h
  rw [Option.bind_eq_some_iff] at h
  obtain ⟨⟨d, p4⟩, h4, h⟩ := h
  cases h
  exact (((pNumber_back h1).append (pNumber_back h2)).append (pNumber_back h3)).append (pText_back h4)
theorem pFlag_back {s : ByteArray} {p q : Nat} {x : Bool} (h : pFlag s p = some (x, q)) : Bk s p q (wFlag x) := by
  rw [pFlag, Option.bind_eq_some_iff] at h
  obtain ⟨⟨n, p1⟩, h1, h⟩ := h
  dsimp only at h
  split at h
  · rename_i hn
    cases h
    obtain ⟨a, _⟩ := pCount_back h1
    match n, hn with
    | 0, _ => exact a
    | 1, _ => exact a
  · cases h
theorem pMany_back {α : Type} {s : ByteArray} {f : α → List UInt8} {g : Nat → Option (α × Nat)} (hg : ∀ p x q, g p = some (x, q) → Bk s p q (f x)) : ∀ (n p : Nat) (l : List α) (q : Nat), p ≤ s.size → pMany g n p = some (l, q) → Bk s p q (l.flatMap f) ∧ l.length = n
  | 0, p, l, q, hp, h => by
    cases h
    exact ⟨⟨Nat.le_refl _, hp, seg_self s p⟩, rfl⟩
  | n + 1, p, l, q, hp, h => by
    rw [pMany, Option.bind_eq_some_iff] at h
    obtain ⟨⟨x, p1⟩, h1, h⟩ := h
    rw [Option.bind_eq_some_iff] at h
    obtain ⟨⟨r, p2⟩, h2, h⟩ := h
    cases h
    have a := hg p x p1 h1
    obtain ⟨b, hb⟩ := pMany_back hg n p1 r p2 a.size h2
    exact ⟨by rw [List.flatMap_cons]; exact a.append b, by rw [List.length_cons, hb]⟩
theorem pCounted_back {α : Type} {s : ByteArray} {f : α → List UInt8} {g : Nat → Option (α × Nat)} (hg : ∀ p x q, g p = some (x, q) → Bk s p q (f x)) {p q : Nat} {l : List α} (h : pCounted s g p = some (l, q)) : Bk s p q (wCounted f l) := by
  rw [pCounted, Option.bind_eq_some_iff] at h
  obtain ⟨⟨n, p1⟩, h1, h⟩ := h
  obtain ⟨a, _⟩ := pCount_back h1
  obtain ⟨b, hb⟩ := pMany_back hg n p1 l q a.size h
  have := a.append b
  rw [← hb] at this
  exact this
theorem pMeth_back {s : ByteArray} {p q : Nat} {x : MethD} (h : pMeth s p = some (x, q)) : Bk s p q (wMeth x) := by
  rw [pMeth, Option.bind_eq_some_iff] at h
  obtain ⟨⟨a1, p1⟩, h1, h⟩ := h
  rw [Option.bind_eq_some_iff] at h
  obtain ⟨⟨a2, p2⟩, h2, h⟩ := h
  rw [Option.bind_eq_some_iff] at h
  obtain ⟨⟨a3, p3⟩, h3, h⟩ := h
  rw [Option.bind_eq_some_iff] at h
  obtain ⟨⟨a4, p4⟩, h4, h⟩ := h
  rw [Option.bind_eq_some_iff] at h
  obtain ⟨⟨a5, p5⟩, h5, h⟩ := h
  rw [Option.bind_eq_some_iff] at h
  obtain ⟨⟨a6, p6⟩, h6, h⟩ := h
  rw [Option.bind_eq_some_iff] at h
  obtain ⟨⟨a7, p7⟩, h7, h⟩ := h
  rw [Option.bind_eq_some_iff] at h
  obtain ⟨⟨a8, p8⟩, h8, h⟩ := h
  rw [Option.bind_eq_some_iff] at h
  obtain ⟨⟨a9, p9⟩, h9, h⟩ := h
  cases h
  obtain ⟨b8, e8⟩ := pBytes_back h8
  have b7 := pNumber_back h7
  rw [← show a8.size = a7 from e8] at b7
  exact ((((((((pText_back h1).append (pFlag_back h2)).append (pCounted_back (fun _ _ _ => pKind_back) h3)).append (pKind_back h4)).append (pCount_back h5).1).append (pCount_back h6).1).append b7).append b8).append (pCounted_back (fun _ _ _ => pHand_back) h9)
theorem pClass_back {s : ByteArray} {p q : Nat} {x : ClassD} (h : pClass s p = some (x, q)) : Bk s p q (wClass x) := by
  rw [pClass, Option.bind_eq_some_iff] at h
  obtain ⟨⟨a1, p1⟩, h1, h⟩ := h
  rw [Option.bind_eq_some_iff] at h
  obtain ⟨⟨a2, p2⟩, h2, h⟩ := h
  rw [Option.bind_eq_some_iff] at h
  obtain ⟨⟨a3, p3⟩, h3, h⟩ := h
  rw [Option.bind_eq_some_iff] at h
  obtain ⟨⟨a4, p4⟩, h4, h⟩ := h
  cases h
  exact (((pText_back h1).append (pText_back h2)).append (pCounted_back (fun _ _ _ => pField_back) h3)).append (pCounted_back (fun _ _ _ => pMeth_back) h4)
theorem pImage_back {s : ByteArray} {l : List ClassD} (h : pImage s = some l) : wImage l = s.data.toList := by
  rw [pImage, Option.bind_eq_some_iff] at h
  obtain ⟨⟨a, q⟩, h1, h⟩ := h
  dsimp only at h
  split at h
  · rename_i hq
    cases h
    have b := (pCounted_back (f := wClass) (fun _ _ _ => pClass_back) h1).eq
    rw [wImage, ← b, hq, seg, List.drop_zero, List.take_of_length_le (by rw [dlen]; omega)]
  · cases h
/-- The answers of Write and Read beside each other. -/
theorem read_write {l : List ClassD} (h : (writeRes l).2 = 0) : readRes ⟨(writeRes l).1.toArray⟩ = (l, 0) := by
  unfold writeRes at *
  split at h
  · rename_i hc
    split at h
    · cases h
    · rename_i hl
      simp only [if_pos hc, if_neg hl]
      rw [readRes, if_neg (by exact hl), image_read hc]
      show (if checkL l = 0 then _ else _) = _
      rw [if_pos hc]
  · rename_i hc
    exact absurd h hc
theorem write_read {s : ByteArray} (h : (readRes s).2 = 0) : writeRes (readRes s).1 = (s.data.toList, 0) := by
  unfold readRes at *
  split at h
  · cases h
  · rename_i hs
    simp only [if_neg hs]
    cases hp : pImage s with
    | none =>
      rw [hp] at h
      cases h
    | some l =>
      rw [hp] at h
      dsimp only at h ⊢
      split at h
      · rename_i hc
        rw [if_pos hc]
        have e := pImage_back hp
        rw [writeRes, if_pos hc, e, if_neg (by rw [dlen]; exact hs)]
      · cases h
end Go.Proofs.Ytkpklkhkhhlifaa
