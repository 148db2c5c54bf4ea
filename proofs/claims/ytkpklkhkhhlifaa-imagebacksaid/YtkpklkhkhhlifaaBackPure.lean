/- What is written is read as it was, and nothing else is: plain facts on bytes. -/
import Derived.Test.YtkpklkhkhhlifaaFine
namespace Go.Proofs.Ytkpklkhkhhlifaa
open Go.RowKit

/-- The bytes from one place up to another one. -/
def seg (s : ByteArray) (p q : Nat) : List UInt8 := (s.data.toList.drop p).take (q - p)
theorem dlen (s : ByteArray) : s.data.toList.length = s.size := by
  rw [Array.length_toList]
  rfl
theorem seg_len {s : ByteArray} {p q : Nat} (h : p ≤ q) (hq : q ≤ s.size) : (seg s p q).length = q - p := by
  rw [seg, List.length_take, List.length_drop, dlen]
  omega
theorem seg_split {s : ByteArray} {p m q : Nat} (h1 : p ≤ m) (h2 : m ≤ q) : seg s p q = seg s p m ++ seg s m q := by
  unfold seg
  rw [show q - p = (m - p) + (q - m) by omega, List.take_add, List.drop_drop, show p + (m - p) = m by omega]
theorem seg_self (s : ByteArray) (p : Nat) : seg s p p = [] := by simp [seg]
theorem seg_one {s : ByteArray} {p : Nat} (h : p < s.size) : seg s p (p + 1) = [toB (bt s p)] := by
  have hl : p < s.data.toList.length := by rw [dlen]; exact h
  have hb : toB (bt s p) = s[p] := by
    unfold toB
    rw [bt_eq s p h]
    have hx := UInt8.toNat_lt s[p]
    rw [show (((s[p].toNat : Nat) : Int) % 256).toNat = s[p].toNat by omega]
    exact UInt8.ofNat_toNat
  rw [hb, seg, List.drop_eq_getElem_cons hl, show p + 1 - p = 1 by omega]
  rfl
theorem seg_ext (s : ByteArray) (p n : Nat) : (s.extract p (p + n)).data.toList = seg s p (p + n) := by
  rw [seg, ByteArray.data_extract, Array.toList_extract]
theorem toB_inj {a b : Int} (ha : 0 ≤ a ∧ a ≤ 255) (hb : 0 ≤ b ∧ b ≤ 255) (h : toB a = toB b) : a = b := by
  have h1 := congrArg UInt8.toNat h
  unfold toB at h1
  rw [UInt8.toNat_ofNat_of_lt' (by show (a % 256).toNat < 256; omega), UInt8.toNat_ofNat_of_lt' (by show (b % 256).toNat < 256; omega)] at h1
  omega

/-- These bytes stand there. -/
structure At (s : ByteArray) (p : Nat) (bs : List UInt8) : Prop where
  le : p + bs.length ≤ s.size
  eq : seg s p (p + bs.length) = bs
theorem At.left {s : ByteArray} {p : Nat} {a b : List UInt8} (h : At s p (a ++ b)) : At s p a := by
  obtain ⟨h1, h2⟩ := h
  rw [List.length_append] at h1 h2
  rw [seg_split (m := p + a.length) (by omega) (by omega)] at h2
  exact ⟨by omega, (List.append_inj h2 (by rw [seg_len (by omega) (by omega)]; omega)).1⟩
theorem At.right {s : ByteArray} {p : Nat} {a b : List UInt8} (h : At s p (a ++ b)) : At s (p + a.length) b := by
  obtain ⟨h1, h2⟩ := h
  rw [List.length_append] at h1 h2
  rw [seg_split (m := p + a.length) (by omega) (by omega)] at h2
  refine ⟨by omega, ?_⟩
  rw [Nat.add_assoc]
  exact (List.append_inj h2 (by rw [seg_len (by omega) (by omega)]; omega)).2
theorem At.count {s : ByteArray} {p : Nat} {n : Int} (h : At s p [toB n]) (hn : 0 ≤ n ∧ n ≤ 255) : pCount s p = some (n.toNat, p + 1) := by
  obtain ⟨h1, h2⟩ := h
  have hp : p < s.size := h1
  have e : toB (bt s p) = toB n := by
    have := (seg_one hp).symm.trans h2
    simpa using this
  have := toB_inj ⟨by omega, by have := bt_lt s p; omega⟩ hn e
  rw [pCount, if_pos hp, show bt s p = n.toNat by omega]
theorem At.cons {s : ByteArray} {p : Nat} {a : UInt8} {b : List UInt8} (h : At s p (a :: b)) : At s p [a] ∧ At s (p + 1) b := by
  have h' : At s p ([a] ++ b) := h
  exact ⟨h'.left, h'.right⟩
theorem At.number {s : ByteArray} {p : Nat} {n : Int} (h : At s p (wTwo n)) (hn : 0 ≤ n ∧ n ≤ 65535) : pNumber s p = some (n.toNat, p + 2) := by
  have hle := h.le
  obtain ⟨h1, h2⟩ := At.cons h
  have hp : p + 2 ≤ s.size := hle
  have e1 : toB (bt s p) = toB (n / 256) := by
    have := (seg_one (by omega)).symm.trans h1.eq
    simpa using this
  have e2 : toB (bt s (p + 1)) = toB n := by
    have := (seg_one (by omega)).symm.trans h2.eq
    simpa using this
  have b1 := bt_lt s p
  have b2 := bt_lt s (p + 1)
  have q1 := toB_inj ⟨by omega, by omega⟩ (by omega) e1
  have e3 : toB n = toB (n % 256) := by unfold toB; rw [Int.emod_emod_of_dvd _ (by decide)]
  have q2 := toB_inj ⟨by omega, by omega⟩ (by omega) (e2.trans e3)
  rw [pNumber, if_pos hp, show 256 * bt s p + bt s (p + 1) = n.toNat by omega]
theorem At.bytes {s : ByteArray} {p : Nat} {t : ByteArray} (h : At s p t.data.toList) : pBytes s t.size p = some (t, p + t.size) := by
  have hle := h.le
  have he := h.eq
  rw [dlen] at hle he
  rw [pBytes, if_pos hle]
  have : s.extract p (p + t.size) = t := by
    apply ByteArray.ext
    apply Array.toList_inj.1
    rw [seg_ext]
    exact he
  rw [this]
theorem At.text {s : ByteArray} {p : Nat} {t : ByteArray} (h : At s p (wText t)) (ht : t.size ≤ 255) : pText s p = some (t, p + (wText t).length) := by
  obtain ⟨h1, h2⟩ := At.cons h
  rw [pText, h1.count ⟨by omega, by omega⟩]
  show pBytes s _ _ = _
  rw [show ((t.size : Int).toNat) = t.size by omega, h2.bytes, size_wText]
  congr 2
  omega
theorem At.kind {s : ByteArray} {p : Nat} {k : KindD} (h : At s p (wKind k)) (hk : FineK k) : pKind s p = some (k, p + (wKind k).length) := by
  obtain ⟨n, c⟩ := k
  obtain ⟨k1, k2, k3, k4⟩ := hk
  dsimp only at *
  by_cases hc : hasCls n = true
  · have e : wKind ⟨n, c⟩ = toB n :: wText c := by rw [wKind, if_pos hc]
    rw [e] at h ⊢
    obtain ⟨h1, h2⟩ := At.cons h
    rw [pKind, h1.count ⟨k1, by omega⟩]
    simp only [Option.bind_some]
    rw [show ((n.toNat : Nat) : Int) = n by omega, if_pos hc, h2.text (by omega)]
    simp only [Option.bind_some, List.length_cons]
    congr 2
    omega
  · have hc' : hasCls n = false := by simpa using hc
    have e : wKind ⟨n, c⟩ = [toB n] := by rw [wKind, if_neg hc]
    rw [e] at h ⊢
    rw [pKind, h.count ⟨k1, by omega⟩]
    simp only [Option.bind_some]
    rw [show ((n.toNat : Nat) : Int) = n by omega, if_neg hc]
    have hce : c = ByteArray.empty := by
      apply ByteArray.ext
      exact Array.eq_empty_of_size_eq_zero (k4 hc')
    rw [hce]
    rfl
theorem At.field {s : ByteArray} {p : Nat} {f : FieldD} (h : At s p (wField f)) (hf : FineF f) : pField s p = some (f, p + (wField f).length) := by
  rw [pField, (At.left h).text (by have := hf.1; omega)]
  simp only [Option.bind_some]
  rw [(At.right h).kind hf.2]
  simp only [Option.bind_some, wField, List.length_append]
  congr 2
  omega
theorem At.hand {s : ByteArray} {p : Nat} {x : HandD} (h : At s p (wHand x)) (hx : FineH x) : pHand s p = some (x, p + (wHand x).length) := by
  obtain ⟨x1, x2, x3, x4⟩ := hx
  have h1 := At.left (At.left (At.left h))
  have h2 := At.right (At.left (At.left h))
  have h3 := At.right (At.left h)
  have h4 := At.right h
  have l2 : ∀ n, (wTwo n).length = 2 := fun _ => rfl
  rw [l2] at h2
  simp only [List.length_append, l2] at h3 h4
  rw [pHand, h1.number ⟨by omega, by omega⟩]
  simp only [Option.bind_some]
  rw [h2.number ⟨by omega, by omega⟩]
  simp only [Option.bind_some]
  rw [show p + 2 + 2 = p + (2 + 2) by omega, h3.number ⟨by omega, by omega⟩]
  simp only [Option.bind_some]
  rw [show p + (2 + 2) + 2 = p + (2 + 2 + 2) by omega, h4.text (by omega)]
  simp only [Option.bind_some, wHand, List.length_append, l2]
  rw [show ((x.frm.toNat : Nat) : Int) = x.frm by omega, show ((x.upto.toNat : Nat) : Int) = x.upto by omega, show ((x.loc.toNat : Nat) : Int) = x.loc by omega]
  congr 2
  omega
theorem At.many {α : Type} {s : ByteArray} {f : α → List UInt8} {g : Nat → Option (α × Nat)} : ∀ (l : List α) (p : Nat), (∀ x ∈ l, ∀ p, At s p (f x) → g p = some (x, p + (f x).length)) → At s p (l.flatMap f) → pMany g l.length p = some (l, p + (l.flatMap f).length)
  | [], p, _, _ => rfl
  | x :: l, p, h, ha => by
    rw [List.flatMap_cons] at ha ⊢
    rw [List.length_cons, pMany, h x (by simp) p (At.left ha)]
    simp only [Option.bind_some]
    rw [At.many l _ (fun y hy => h y (by simp [hy])) (At.right ha)]
    simp only [Option.bind_some, List.length_append]
    congr 2
    omega
theorem At.counted {α : Type} {s : ByteArray} {f : α → List UInt8} {g : Nat → Option (α × Nat)} {l : List α} {p : Nat} (hl : l.length ≤ 255) (h : ∀ x ∈ l, ∀ p, At s p (f x) → g p = some (x, p + (f x).length)) (ha : At s p (wCounted f l)) : pCounted s g p = some (l, p + (wCounted f l).length) := by
  obtain ⟨h1, h2⟩ := At.cons ha
  rw [pCounted, h1.count ⟨by omega, by omega⟩]
  simp only [Option.bind_some]
  rw [show ((l.length : Int).toNat) = l.length by omega, At.many l _ h h2, wCounted, List.length_cons]
  congr 2
  omega
theorem At.flag {s : ByteArray} {p : Nat} {b : Bool} (h : At s p (wFlag b)) : pFlag s p = some (b, p + 1) := by
  cases b
  · have h' : At s p [toB 0] := h
    rw [pFlag, h'.count ⟨by omega, by omega⟩]
    rfl
  · have h' : At s p [toB 1] := h
    rw [pFlag, h'.count ⟨by omega, by omega⟩]
    rfl
theorem At.meth {s : ByteArray} {p : Nat} {m : MethD} (h : At s p (wMeth m)) (hm : FineM m) : pMeth s p = some (m, p + (wMeth m).length) := by
  obtain ⟨m1, m2, m3, m4, m5, m6, m7, m8, m9⟩ := hm
  have g9 := At.right h
  have k8 := At.left h
  have g8 := At.right k8
  have k7 := At.left k8
  have g7 := At.right k7
  have k6 := At.left k7
  have g6 := At.right k6
  have k5 := At.left k6
  have g5 := At.right k5
  have k4 := At.left k5
  have g4 := At.right k4
  have k3 := At.left k4
  have g3 := At.right k3
  have k2 := At.left k3
  have g2 := At.right k2
  have g1 := At.left k2
  have l2 : ∀ n, (wTwo n).length = 2 := fun _ => rfl
  have lf : ∀ b, (wFlag b).length = 1 := fun _ => rfl
  simp only [List.length_append, l2, lf, List.length_cons, List.length_nil, dlen] at g2 g3 g4 g5 g6 g7 g8 g9
  rw [pMeth, g1.text (by omega)]
  simp only [Option.bind_some]
  rw [g2.flag]
  simp only [Option.bind_some]
  rw [Nat.add_assoc, At.counted (by omega) (fun x hx p ha => At.kind ha (m3 x hx)) g3]
  simp only [Option.bind_some]
  rw [Nat.add_assoc, g4.kind m4]
  simp only [Option.bind_some]
  rw [Nat.add_assoc, g5.count ⟨by omega, by omega⟩]
  simp only [Option.bind_some]
  rw [Nat.add_assoc, g6.count ⟨by omega, by omega⟩]
  simp only [Option.bind_some]
  rw [Nat.add_assoc, g7.number ⟨by omega, by omega⟩]
  simp only [Option.bind_some]
  rw [Nat.add_assoc, show ((m.code.size : Int).toNat) = m.code.size by omega, g8.bytes]
  simp only [Option.bind_some]
  rw [Nat.add_assoc, At.counted (by omega) (fun x hx p ha => At.hand ha (m9 x hx)) g9]
  simp only [Option.bind_some, wMeth, List.length_append, l2, lf, List.length_cons, List.length_nil, dlen]
  rw [show ((m.stack.toNat : Nat) : Int) = m.stack by omega, show ((m.locals.toNat : Nat) : Int) = m.locals by omega]
  congr 2
  omega
theorem At.klass {s : ByteArray} {p : Nat} {c : ClassD} (h : At s p (wClass c)) (hc : FineC c) : pClass s p = some (c, p + (wClass c).length) := by
  obtain ⟨c1, c2, c3, c4, c5, c6⟩ := hc
  have g4 := At.right h
  have k3 := At.left h
  have g3 := At.right k3
  have k2 := At.left k3
  have g2 := At.right k2
  have g1 := At.left k2
  simp only [List.length_append] at g3 g4
  rw [pClass, g1.text (by omega)]
  simp only [Option.bind_some]
  rw [g2.text (by omega)]
  simp only [Option.bind_some]
  rw [Nat.add_assoc, At.counted (by omega) (fun x hx p ha => At.field ha (c4 x hx)) g3]
  simp only [Option.bind_some]
  rw [Nat.add_assoc, At.counted (by omega) (fun x hx p ha => At.meth ha (c6 x hx)) g4]
  simp only [Option.bind_some, wClass, List.length_append]
  congr 2
  omega
theorem image_read {l : List ClassD} (h : checkL l = 0) : pImage ⟨(wImage l).toArray⟩ = some l := by
  obtain ⟨h1, h2⟩ := list_fine h
  have hz : (⟨(wImage l).toArray⟩ : ByteArray).size = (wImage l).length := rfl
  have ha : At ⟨(wImage l).toArray⟩ 0 (wImage l) := ⟨by rw [hz]; omega, by simp [seg]⟩
  rw [pImage, At.counted (f := wClass) (by omega) (fun x hx p ha => At.klass ha (h2 x hx)) ha]
  simp only [Option.bind_some]
  rw [if_pos (by rw [hz]; show 0 + (wImage l).length = _; omega)]
end Go.Proofs.Ytkpklkhkhhlifaa
