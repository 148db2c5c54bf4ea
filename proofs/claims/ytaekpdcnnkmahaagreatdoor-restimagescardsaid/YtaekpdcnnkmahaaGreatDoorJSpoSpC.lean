/- What spoils rows: texts are written over texts, numbers over numbers, in blocks from one on alone. -/
import Derived.Test.YtaekpdcnnkmahaaGreatDoorLSet
import Derived.Test.YtaekpdcnnkmahaaGreatDoorJCatchLAsk
namespace Go.Proofs.YtaekpdcnnkmahaaGreatDoor
open Go.RowKit

/-- The blocks from one on that may be written to. -/
def NF (B : Nat) (w : World) (k : Nat) : Prop := B ≤ k ∧ ∃ c t, w.heap[k]? = some (.cells c t (0, 0))
theorem MT.nf {B : Nat} {T : List Nat} {w : World} {k : Nat} (h : MT B T w k) : NF B w k := by
  obtain ⟨h1, c, t, fr, h2, _, h4⟩ := h
  subst h4
  exact ⟨h1, c, t, h2⟩
theorem NF.lt {B : Nat} {w : World} {k : Nat} (h : NF B w k) : k < w.heap.size := by
  obtain ⟨_, c, t, h⟩ := h
  exact lt_of h
theorem NF.frz {B : Nat} {w : World} {k : Nat} (h : NF B w k) (j : Nat) : w.frozen? ⟨k, j, none⟩ = false := by
  obtain ⟨_, c, t, h⟩ := h
  exact frz_of h j
theorem NF.kept {B : Nat} {w w' : World} {k : Nat} (h : NF B w k) (e : w'.heap[k]? = w.heap[k]?) : NF B w' k := by
  obtain ⟨h1, c, t, h2⟩ := h
  exact ⟨h1, c, t, e.trans h2⟩
theorem NF.more {B B' : Nat} {w : World} {k : Nat} (h : NF B w k) (hB : B' ≤ B) : NF B' w k := ⟨Nat.le_trans hB h.1, h.2⟩
/-- The same, but for a text or a number. -/
def kin (v v' : Value) : Prop := v' = v ∨ (∃ s s', v = .string s ∧ v' = .string s') ∨ (∃ n n', v = .int .i64 n ∧ v' = .int .i64 n')
theorem kin.refl (v : Value) : kin v v := Or.inl rfl
theorem kin.trans {a b c : Value} (h : kin a b) (k : kin b c) : kin a c := by
  rcases h with rfl | ⟨s, s', rfl, rfl⟩ | ⟨s, s', rfl, rfl⟩
  · exact k
  · rcases k with rfl | ⟨t, t', -, rfl⟩ | ⟨t, t', e, -⟩
    · exact Or.inr (Or.inl ⟨_, _, rfl, rfl⟩)
    · exact Or.inr (Or.inl ⟨_, _, rfl, rfl⟩)
    · cases e
  · rcases k with rfl | ⟨t, t', e, -⟩ | ⟨t, t', -, rfl⟩
    · exact Or.inr (Or.inr ⟨_, _, rfl, rfl⟩)
    · cases e
    · exact Or.inr (Or.inr ⟨_, _, rfl, rfl⟩)
theorem kin.slice {a : Option Addr} {n c : Nat} {v : Value} (h : kin (.slice a n c) v) : v = .slice a n c := by
  rcases h with h | ⟨s, s', e, -⟩ | ⟨s, s', e, -⟩
  · exact h
  · cases e
  · cases e
theorem kin.bool {b : Bool} {v : Value} (h : kin (.bool b) v) : v = .bool b := by
  rcases h with h | ⟨s, s', e, -⟩ | ⟨s, s', e, -⟩
  · exact h
  · cases e
  · cases e
theorem kin.string {s : ByteArray} {v : Value} (h : kin (.string s) v) : ∃ s', v = .string s' := by
  rcases h with h | ⟨s, s', -, h⟩ | ⟨s, s', e, -⟩
  · exact ⟨_, h⟩
  · exact ⟨_, h⟩
  · cases e
theorem kin.int {n : Int} {v : Value} (h : kin (.int .i64 n) v) : ∃ n', v = .int .i64 n' := by
  rcases h with h | ⟨s, s', e, -⟩ | ⟨s, s', -, h⟩
  · exact ⟨_, h⟩
  · cases e
  · exact ⟨_, h⟩
/-- What a spoiling leaves. -/
structure Spo (B : Nat) (w w' : World) : Prop where
  below : Below B w w'
  nf : ∀ k, NF B w k → NF B w' k
  cell : ∀ p v, w.cell? p = some v → ∃ v', w'.cell? p = some v' ∧ kin v v'
theorem Spo.size {B : Nat} {w w' : World} (h : Spo B w w') : w.heap.size ≤ w'.heap.size := h.below.size
theorem Spo.refl (B : Nat) (w : World) : Spo B w w := ⟨Below.refl _ _, fun _ h => h, fun _ v h => ⟨v, h, kin.refl v⟩⟩
theorem Spo.trans {B : Nat} {a b c : World} (h : Spo B a b) (k : Spo B b c) : Spo B a c :=
  ⟨h.below.trans k.below, fun i hi => k.nf i (h.nf i hi), fun p v hv => by
    obtain ⟨v1, h1, k1⟩ := h.cell p v hv
    obtain ⟨v2, h2, k2⟩ := k.cell p v1 h1
    exact ⟨v2, h2, k1.trans k2⟩⟩
theorem Spo.behind {B : Nat} {a b c : World} (h : Spo B a b) (hB : B ≤ b.heap.size) (k : Below b.heap.size b c) : Spo B a c :=
  ⟨h.below.trans (k.mono hB), fun i hi => (h.nf i hi).kept (k.block i (h.nf i hi).lt), fun p v hv => by
    obtain ⟨v1, h1, k1⟩ := h.cell p v hv
    exact ⟨v1, (k.cell (World.block_lt_of_cell? _ _ h1)).trans h1, k1⟩⟩
theorem Spo.alloc {B : Nat} {a b : World} (h : Spo B a b) (hB : B ≤ b.heap.size) (o : Obj) : Spo B a (b.alloc o) := h.behind hB ((Below.refl _ _).alloc (Nat.le_refl _) o)
theorem Spo.set {B : Nat} {a b : World} (h : Spo B a b) {k j : Nat} {v u : Value} (hk : NF B b k) (hv : b.cell? ⟨k, j, none⟩ = some v) (hu : kin v u) : Spo B a (b.setCell ⟨k, j, none⟩ u) := by
  refine h.trans ⟨(Below.refl _ _).setCell hk.1 u, fun i hi => ?_, fun p x hx => ?_⟩
  · by_cases e : i = k
    · subst e
      obtain ⟨h1, c, t, h2⟩ := hi
      exact ⟨h1, _, t, by simp [World.setCell, Array.getElem?_modify, h2]; rfl⟩
    · exact hi.kept (Below.heap_setCell _ _ _ _ e)
  · by_cases e : p = ⟨k, j, none⟩
    · subst e
      rw [hv] at hx
      cases hx
      exact ⟨u, World.cell?_setCell_same _ _ _ hv, hu⟩
    · exact ⟨x, (World.cell?_setCell_other _ _ _ _ (Ne.symm e)).trans hx, kin.refl x⟩
theorem Spo.setS {B : Nat} {a b : World} (h : Spo B a b) {k j : Nat} {s : ByteArray} (hk : NF B b k) (hv : b.cell? ⟨k, j, none⟩ = some (.string s)) (s' : ByteArray) : Spo B a (b.setCell ⟨k, j, none⟩ (.string s')) := h.set hk hv (Or.inr (Or.inl ⟨_, _, rfl, rfl⟩))
theorem Spo.setI {B : Nat} {a b : World} (h : Spo B a b) {k j : Nat} {n : Int} (hk : NF B b k) (hv : b.cell? ⟨k, j, none⟩ = some (.int .i64 n)) (n' : Int) : Spo B a (b.setCell ⟨k, j, none⟩ (.int .i64 n')) := h.set hk hv (Or.inr (Or.inr ⟨_, _, rfl, rfl⟩))
theorem Spo.drewN {B : Nat} {a b : World} (h : Spo B a b) (n : Nat) : Spo B a (b.drewN n) := ⟨⟨h.below.os, h.below.tape, h.below.output, h.below.size, h.below.block⟩, h.nf, h.cell⟩
section
variable {B : Nat} {w W : World} {ao : Option Addr} {len cap k : Nat}
theorem Spo.slice (hp : Spo B w W) {p : Addr} {a : Option Addr} {n c : Nat} (h : w.cell? p = some (.slice a n c)) : W.cell? p = some (.slice a n c) := by
  obtain ⟨v, h1, h2⟩ := hp.cell p _ h
  rw [h1, h2.slice]
theorem Spo.str (hp : Spo B w W) {p : Addr} {s : ByteArray} (h : w.cell? p = some (.string s)) : ∃ s', W.cell? p = some (.string s') := by
  obtain ⟨v, h1, h2⟩ := hp.cell p _ h
  obtain ⟨s', rfl⟩ := h2.string
  exact ⟨s', h1⟩
theorem Spo.int (hp : Spo B w W) {p : Addr} {n : Int} (h : w.cell? p = some (.int .i64 n)) : ∃ n', W.cell? p = some (.int .i64 n') := by
  obtain ⟨v, h1, h2⟩ := hp.cell p _ h
  obtain ⟨s', rfl⟩ := h2.int
  exact ⟨s', h1⟩
theorem Spo.bool (hp : Spo B w W) {p : Addr} {b : Bool} (h : w.cell? p = some (.bool b)) : W.cell? p = some (.bool b) := by
  obtain ⟨v, h1, h2⟩ := hp.cell p _ h
  rw [h1, h2.bool]
end
section
variable {B : Nat} {w : World} {ao : Option Addr} {len cap k : Nat}
theorem spoI {l : List Int} (h : SL 1 RI (NF B w) w (.slice ao len cap) l) (hk : k < l.length) :
    ∃ b off, ao = some ⟨b, off, none⟩ ∧ b < w.heap.size ∧ ∀ W, Spo B w W → NF B W b ∧ ∃ n, W.cell? ⟨b, off + k, none⟩ = some (.int .i64 n) := by
  obtain ⟨b, off, cs, e, hM, hb, _, hc, rfl⟩ := h.at k hk
  exact ⟨b, off, e, hb, fun W hp => ⟨hp.nf _ hM, hp.int (by have := hc 0 (by decide); simpa using this)⟩⟩
theorem spoS {l : List ByteArray} (h : SL 1 RS (NF B w) w (.slice ao len cap) l) (hk : k < l.length) :
    ∃ b off, ao = some ⟨b, off, none⟩ ∧ b < w.heap.size ∧ ∀ W, Spo B w W → NF B W b ∧ ∃ n, W.cell? ⟨b, off + k, none⟩ = some (.string n) := by
  obtain ⟨b, off, cs, e, hM, hb, _, hc, rfl, _⟩ := h.at k hk
  exact ⟨b, off, e, hb, fun W hp => ⟨hp.nf _ hM, hp.str (by have := hc 0 (by decide); simpa using this)⟩⟩
theorem spoK {l : List KindD} (h : SL 2 RK (NF B w) w (.slice ao len cap) l) (hk : k < l.length) :
    ∃ b off, ao = some ⟨b, off, none⟩ ∧ b < w.heap.size ∧ ∀ W, Spo B w W → NF B W b ∧ ∃ n, W.cell? ⟨b, off + k * 2, none⟩ = some (.int .i64 n) := by
  obtain ⟨b, off, cs, e, hM, hb, _, hc, rfl, _⟩ := h.at k hk
  exact ⟨b, off, e, hb, fun W hp => ⟨hp.nf _ hM, hp.int (hc 0 (by decide))⟩⟩
theorem spoH {l : List HandD} (h : SL 4 RH (NF B w) w (.slice ao len cap) l) (hk : k < l.length) :
    ∃ b off, ao = some ⟨b, off, none⟩ ∧ b < w.heap.size ∧ ∀ W, Spo B w W → NF B W b ∧ ∃ n, W.cell? ⟨b, off + k * 4 + 2, none⟩ = some (.int .i64 n) := by
  obtain ⟨b, off, cs, e, hM, hb, _, hc, rfl, _⟩ := h.at k hk
  exact ⟨b, off, e, hb, fun W hp => ⟨hp.nf _ hM, hp.int (hc 2 (by decide))⟩⟩
theorem spoF {l : List FieldD} (h : SL 3 RF (NF B w) w (.slice ao len cap) l) (hk : k < l.length) :
    ∃ b off, ao = some ⟨b, off, none⟩ ∧ b < w.heap.size ∧ ∀ W, Spo B w W → NF B W b ∧ ∃ s, W.cell? ⟨b, off + k * 3, none⟩ = some (.string s) := by
  obtain ⟨b, off, cs, e, hM, hb, _, hc, rfl, _⟩ := h.at k hk
  exact ⟨b, off, e, hb, fun W hp => ⟨hp.nf _ hM, hp.str (hc 0 (by decide))⟩⟩
theorem spoC {l : List ClassD} (h : SL 4 RC (NF B w) w (.slice ao len cap) l) (hk : k < l.length) :
    ∃ b off af cf am cm, ao = some ⟨b, off, none⟩ ∧ b < w.heap.size ∧ (∀ W, Spo B w W → NF B W b ∧ (∃ s, W.cell? ⟨b, off + k * 4, none⟩ = some (.string s)) ∧ W.cell? ⟨b, off + k * 4 + 2, none⟩ = some (.slice af l[k].fields.length cf) ∧ W.cell? ⟨b, off + k * 4 + 3, none⟩ = some (.slice am l[k].meths.length cm)) ∧
      SL 3 RF (NF B w) w (.slice af l[k].fields.length cf) l[k].fields ∧ SL 9 RM (NF B w) w (.slice am l[k].meths.length cm) l[k].meths := by
  obtain ⟨b, off, cs, e, hM, hb, _, hc, vf, vm, rfl, sf, sm, _⟩ := h.at k hk
  have sf' := sf
  have sm' := sm
  obtain ⟨af, cf, rfl, -⟩ := sf'
  obtain ⟨am, cm, rfl, -⟩ := sm'
  exact ⟨b, off, af, cf, am, cm, e, hb, fun W hp => ⟨hp.nf _ hM, hp.str (hc 0 (by decide)), hp.slice (hc 2 (by decide)), hp.slice (hc 3 (by decide))⟩, sf, sm⟩
theorem spoM {l : List MethD} (h : SL 9 RM (NF B w) w (.slice ao len cap) l) (hk : k < l.length) :
    ∃ b off aa ca ah ch, ao = some ⟨b, off, none⟩ ∧ b < w.heap.size ∧ (∀ W, Spo B w W → NF B W b ∧ ∃ s0 i3 s4 i5 i6 s7, W.cell? ⟨b, off + k * 9, none⟩ = some (.string s0) ∧ W.cell? ⟨b, off + k * 9 + 1, none⟩ = some (.bool l[k].static) ∧ W.cell? ⟨b, off + k * 9 + 2, none⟩ = some (.slice aa l[k].args.length ca) ∧ W.cell? ⟨b, off + k * 9 + 3, none⟩ = some (.int .i64 i3) ∧
      W.cell? ⟨b, off + k * 9 + 4, none⟩ = some (.string s4) ∧ W.cell? ⟨b, off + k * 9 + 5, none⟩ = some (.int .i64 i5) ∧ W.cell? ⟨b, off + k * 9 + 6, none⟩ = some (.int .i64 i6) ∧ W.cell? ⟨b, off + k * 9 + 7, none⟩ = some (.string s7) ∧ W.cell? ⟨b, off + k * 9 + 8, none⟩ = some (.slice ah l[k].hands.length ch)) ∧
      SL 2 RK (NF B w) w (.slice aa l[k].args.length ca) l[k].args ∧ SL 4 RH (NF B w) w (.slice ah l[k].hands.length ch) l[k].hands := by
  obtain ⟨b, off, cs, e, hM, hb, _, hc, va, vh, rfl, sa, sh, _⟩ := h.at k hk
  have sa' := sa
  have sh' := sh
  obtain ⟨aa, ca, rfl, -⟩ := sa'
  obtain ⟨ah, ch, rfl, -⟩ := sh'
  refine ⟨b, off, aa, ca, ah, ch, e, hb, fun W hp => ?_, sa, sh⟩
  obtain ⟨s0, h0⟩ := hp.str (hc 0 (by decide))
  obtain ⟨i3, h3⟩ := hp.int (hc 3 (by decide))
  obtain ⟨s4, h4⟩ := hp.str (hc 4 (by decide))
  obtain ⟨i5, h5⟩ := hp.int (hc 5 (by decide))
  obtain ⟨i6, h6⟩ := hp.int (hc 6 (by decide))
  obtain ⟨s7, h7⟩ := hp.str (hc 7 (by decide))
  exact ⟨hp.nf _ hM, s0, i3, s4, i5, i6, s7, h0, hp.bool (hc 1 (by decide)), hp.slice (hc 2 (by decide)), h3, h4, h5, h6, h7, hp.slice (hc 8 (by decide))⟩
theorem spoSl {α : Type} {n : Nat} {R : (Nat → Prop) → World → List Value → α → Prop} {l : List (List α)} (h : SL 1 (RSl n R) (NF B w) w (.slice ao len cap) l) (hk : k < l.length) :
    ∃ b off a c, ao = some ⟨b, off, none⟩ ∧ b < w.heap.size ∧ (∀ W, Spo B w W → W.cell? ⟨b, off + k, none⟩ = some (.slice a l[k].length c)) ∧ SL n R (NF B w) w (.slice a l[k].length c) l[k] := by
  obtain ⟨b, off, a, c, e, hb, hc, hs⟩ := h.atSl k hk
  exact ⟨b, off, a, c, e, hb, fun W hp => hp.slice hc, hs⟩
end
end Go.Proofs.YtaekpdcnnkmahaaGreatDoor
/- What spoils classes, and numbers. -/
namespace Go.Proofs.YtaekpdcnnkmahaaGreatDoor
open Go.RowKit

theorem SL.len {α : Type} {n : Nat} {R : (Nat → Prop) → World → List Value → α → Prop} {M : Nat → Prop} {w : World} {v : Value} {l : List α} (h : SL n R M w v l) : l.length ≤ 9223372036854775807 := by
  obtain ⟨a, c, -, -, h, -⟩ := h
  exact h
set_option maxRecDepth 100000 in
set_option maxHeartbeats 4000000 in
theorem spoilInts_any (w w0 : World) (B : Nat) (v : Value) (l : List Int) (hv : SL 1 RI (NF B w) w v l) (hp : Spo B w w0) :
    Calls Tryz.prog 19 #[v] w0 fun r w' => r = .returned (.tuple #[]) ∧ Spo B w w' := by
  have HV := mkHid hv
  have HP := mkHid hp
  clear hp
  have hl := hv.len
  obtain ⟨ao, cl, rfl, -⟩ := hv
  go_enter Tryz.func19, Tryz.ntmps19
  go_wp2_with fail
  go_loopw [2] (fun i wr => ∃ k : Nat, k ≤ l.length ∧ i = .int .i64 k ∧ Hid (Spo B w wr)) (fun i _ => l.length - (intOf i).toNat)
  case atStart => exact ⟨0, Nat.zero_le _, rfl, HP.out⟩
  case round =>
    clear HP
    rename World => wr
    obtain ⟨k, hk, rfl, HS⟩ := hrel
    by_cases hlt : k < l.length
    · obtain ⟨b, off, rfl, hb, HC⟩ := spoI HV.out hlt
      obtain ⟨hnf, n, c0⟩ := HC wr HS.out
      have f0 := hnf.frz (off + k)
      have HN := mkHid (HS.out.setI hnf c0 (-77))
      clear HC hnf HS
      go_wp2_with fail
      go_roundw
      case rel => exact ⟨k + 1, by omega, by go_num, HN.out⟩
      case measure => simp [intOf]; omega
    · go_wp2_with fail
      go_end0
      exact ⟨rfl, HS.out⟩
set_option maxRecDepth 100000 in
set_option maxHeartbeats 16000000 in
theorem spoilClasses_any (w w0 : World) (B : Nat) (v : Value) (l : List ClassD) (hv : SL 4 RC (NF B w) w v l) (hB : B ≤ w.heap.size) (hp : Spo B w w0) :
    Calls Tryz.prog 18 #[v] w0 fun r w' => r = .returned (.tuple #[]) ∧ Spo B w w' := by
  have HV := mkHid hv
  have HP := mkHid hp
  clear hp
  have hl := hv.len
  obtain ⟨ao, cl, rfl, -⟩ := hv
  go_enter Tryz.func18, Tryz.ntmps18
  go_wp2_with fail
  go_loopw [2] (fun i wr => ∃ k : Nat, k ≤ l.length ∧ i = .int .i64 k ∧ Hid (Spo B w wr)) (fun i _ => l.length - (intOf i).toNat)
  case atStart => exact ⟨0, Nat.zero_le _, rfl, HP.out⟩
  case round =>
    clear HP
    rename World => wr
    obtain ⟨k, hk, rfl, HS⟩ := hrel
    by_cases hlt : k < l.length
    · obtain ⟨b, off, af, cf, am, cm, rfl, hb, hC, sF, sM⟩ := spoC HV.out hlt
      have hlF := sF.len
      have hlM := sM.len
      have HF := mkHid sF
      have HM := mkHid sM
      have HC := mkHid hC
      obtain ⟨-, -, c2, c3⟩ := hC wr HS.out
      clear hC sF sM
      generalize l[k].fields = fs at *
      generalize l[k].meths = ms at *
      go_wp2_with fail
      go_loopw [3] (fun i wq => ∃ j : Nat, j ≤ fs.length ∧ i = .int .i64 j ∧ Hid (Spo B w wq)) (fun i _ => fs.length - (intOf i).toNat)
      case atStart => exact ⟨0, Nat.zero_le _, rfl, HS.out⟩
      case round =>
        clear HS c2 c3
        rename World => wq
        obtain ⟨j, hj, rfl, HS⟩ := hrel
        obtain ⟨-, -, c2, c3⟩ := HC.out wq HS.out
        by_cases hjt : j < fs.length
        · obtain ⟨bf, of, rfl, hbf, hF⟩ := spoF HF.out hjt
          obtain ⟨hnf, n, d0⟩ := hF wq HS.out
          have f0 := hnf.frz (of + j * 3)
          have HN := mkHid (HS.out.setS hnf d0 ⟨#[63]⟩)
          clear hF hnf HS
          go_wp2_with fail
          go_roundw
          case rel => exact ⟨j + 1, by omega, by go_num, HN.out⟩
          case measure => simp [intOf]; omega
        · go_wp2_with fail
          clear hjt hj
          go_loopw [4] (fun i wq => ∃ j : Nat, j ≤ ms.length ∧ i = .int .i64 j ∧ Hid (Spo B w wq)) (fun i _ => ms.length - (intOf i).toNat)
          case atStart => exact ⟨0, Nat.zero_le _, rfl, HS.out⟩
          case round =>
            clear HS c2 c3
            rename World => wm
            obtain ⟨j, hj, rfl, HS⟩ := hrel
            obtain ⟨hnC, ⟨s9, c0⟩, c2, c3⟩ := HC.out wm HS.out
            by_cases hjt : j < ms.length
            · clear hnC c0
              obtain ⟨bm, om, aa, ca, ah, ch, rfl, hbm, hM, sA, sH⟩ := spoM HM.out hjt
              have hlA := sA.len
              have hlH := sH.len
              have HA := mkHid sA
              have HH := mkHid sH
              have HMC := mkHid hM
              obtain ⟨-, s0, i3, s4, i5, i6, s7, d0, d1, d2, d3, d4, d5, d6, d7, d8⟩ := hM wm HS.out
              clear hM sA sH
              generalize ms[j].args = ags at *
              generalize ms[j].hands = hs at *
              generalize ms[j].static = st at *
              have hzm := HS.out.size
              have HX : Hid (∀ o, Spo B w (wm.alloc o)) := fun o => HS.out.alloc (Nat.le_trans hB hzm) o
              go_wp2_with fail
              have HI : Hid (Spo B w (wm.alloc (.cells #[.string s0, .bool st, .slice aa ags.length ca, .int .i64 i3, .string s4, .int .i64 i5, .int .i64 i6, .string s7, .slice ah hs.length ch] 76)) ∧ (wm.alloc (.cells #[.string s0, .bool st, .slice aa ags.length ca, .int .i64 i3, .string s4, .int .i64 i5, .int .i64 i6, .string s7, .slice ah hs.length ch] 76)).heap[wm.heap.size]? = some (.cells #[.string s0, .bool st, .slice aa ags.length ca, .int .i64 i3, .string s4, .int .i64 i5, .int .i64 i6, .string s7, .slice ah hs.length ch] 76 (0, 0))) := ⟨HX.out _, heap_alloc_new wm _⟩
              clear HX HS c2 c3 d0 d1 d2 d3 d4 d5 d6 d7 d8
              go_loopw [6] (fun i wz => ∃ q : Nat, q ≤ ags.length ∧ i = .int .i64 q ∧ Hid (Spo B w wz ∧ wz.heap[wm.heap.size]? = some (.cells #[.string s0, .bool st, .slice aa ags.length ca, .int .i64 i3, .string s4, .int .i64 i5, .int .i64 i6, .string s7, .slice ah hs.length ch] 76 (0, 0)))) (fun i _ => ags.length - (intOf i).toNat)
              case atStart => exact ⟨0, Nat.zero_le _, rfl, HI.out⟩
              case round =>
                clear HI
                rename World => wz
                obtain ⟨q, hq, rfl, HI⟩ := hrel
                have e2 := cell_of HI.out.2 2 (x := .slice aa ags.length ca) rfl
                have e8 := cell_of HI.out.2 8 (x := .slice ah hs.length ch) rfl
                by_cases hqt : q < ags.length
                · obtain ⟨ba, oa, rfl, hba, hA⟩ := spoK HA.out hqt
                  obtain ⟨hnf, n, g0⟩ := hA wz HI.out.1
                  have f0 := hnf.frz (oa + q * 2)
                  have HN : Hid (Spo B w (wz.setCell ⟨ba, oa + q * 2, none⟩ (.int .i64 (77))) ∧ (wz.setCell ⟨ba, oa + q * 2, none⟩ (.int .i64 (77))).heap[wm.heap.size]? = some (.cells #[.string s0, .bool st, .slice (some ⟨ba, oa, none⟩) ags.length ca, .int .i64 i3, .string s4, .int .i64 i5, .int .i64 i6, .string s7, .slice ah hs.length ch] 76 (0, 0))) := ⟨HI.out.1.setI hnf g0 (77), (Below.heap_setCell _ _ _ _ (by show wm.heap.size ≠ ba; omega)).trans HI.out.2⟩
                  clear hA hnf HI
                  go_wp2_with fail
                  go_roundw
                  case rel => exact ⟨q + 1, by omega, by go_num, HN.out⟩
                  case measure => simp [intOf]; omega
                · go_wp2_with fail
                  clear hqt hq e2 e8
                  go_loopw [7] (fun i wz => ∃ q : Nat, q ≤ hs.length ∧ i = .int .i64 q ∧ Hid (Spo B w wz ∧ wz.heap[wm.heap.size]? = some (.cells #[.string s0, .bool st, .slice aa ags.length ca, .int .i64 i3, .string s4, .int .i64 i5, .int .i64 i6, .string s7, .slice ah hs.length ch] 76 (0, 0)))) (fun i _ => hs.length - (intOf i).toNat)
                  case atStart => exact ⟨0, Nat.zero_le _, rfl, HI.out⟩
                  case round =>
                    clear HI
                    rename World => wz
                    obtain ⟨q, hq, rfl, HI⟩ := hrel
                    have e2 := cell_of HI.out.2 2 (x := .slice aa ags.length ca) rfl
                    have e8 := cell_of HI.out.2 8 (x := .slice ah hs.length ch) rfl
                    by_cases hqt : q < hs.length
                    · obtain ⟨ba, oa, rfl, hba, hA⟩ := spoH HH.out hqt
                      obtain ⟨hnf, n, g0⟩ := hA wz HI.out.1
                      have f0 := hnf.frz (oa + q * 4 + 2)
                      have HN : Hid (Spo B w (wz.setCell ⟨ba, oa + q * 4 + 2, none⟩ (.int .i64 (-7))) ∧ (wz.setCell ⟨ba, oa + q * 4 + 2, none⟩ (.int .i64 (-7))).heap[wm.heap.size]? = some (.cells #[.string s0, .bool st, .slice aa ags.length ca, .int .i64 i3, .string s4, .int .i64 i5, .int .i64 i6, .string s7, .slice (some ⟨ba, oa, none⟩) hs.length ch] 76 (0, 0))) := ⟨HI.out.1.setI hnf g0 (-7), (Below.heap_setCell _ _ _ _ (by show wm.heap.size ≠ ba; omega)).trans HI.out.2⟩
                      clear hA hnf HI
                      go_wp2_with fail
                      go_roundw
                      case rel => exact ⟨q + 1, by omega, by go_num, HN.out⟩
                      case measure => simp [intOf]; omega
                    · obtain ⟨hnM, -, -, -, -, -, s7', -, -, -, -, -, -, -, d7', -⟩ := HMC.out wz HI.out.1
                      obtain ⟨-, -, c2, c3⟩ := HC.out wz HI.out.1
                      have f7 := hnM.frz (om + j * 9 + 7)
                      have HN := mkHid (HI.out.1.setS hnM d7' ⟨#[63]⟩)
                      clear hnM HI
                      go_wp2_with fail
                      go_roundw
                      case rel => exact ⟨j + 1, by omega, by go_num, HN.out⟩
                      case measure => simp [intOf]; omega
            · have f0 := hnC.frz (off + k * 4)
              have HN := mkHid (HS.out.setS hnC c0 ⟨#[63]⟩)
              clear hnC HS
              go_wp2_with fail
              go_roundw
              case rel => exact ⟨k + 1, by omega, by go_num, HN.out⟩
              case measure => simp [intOf]; omega
    · go_wp2_with fail
      go_end0
      exact ⟨rfl, HS.out⟩
end Go.Proofs.YtaekpdcnnkmahaaGreatDoor
