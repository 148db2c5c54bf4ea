/- Classes in memory: what a slice holds, and what keeps it. -/
import Derived.Test.YtjdnmblggdobgaaGreatDat
import Derived.Test.YtjdnmblggdobgaaGreatChecked
import Derived.WalkKit
import Derived.WalkLawsBesides
import Derived.WalkSpells
import Derived.BigQuiet
import Derived.Deep.QuietTactic
import Derived.Defers
import Derived.Recover
import Derived.Deep.LoopGhost
namespace Go.Proofs.YtjdnmblggdobgaaGreat
open Go.RowKit

theorem mkHid {p : Prop} (h : p) : Hid p := h

/-- A slice in memory that holds a list; its blocks are of a set. -/
def SL {α : Type} (n : Nat) (R : (Nat → Prop) → World → List Value → α → Prop) (M : Nat → Prop) (w : World) (v : Value) (l : List α) : Prop :=
  ∃ ao cap, v = .slice ao l.length cap ∧ l.length ≤ cap ∧ l.length ≤ maxLen ∧ ∀ k (hk : k < l.length), ∃ b off cs, ao = some ⟨b, off, none⟩ ∧ M b ∧ b < w.heap.size ∧ cs.length = n ∧ (∀ j, j < n → w.cell? ⟨b, off + k * n + j, none⟩ = cs[j]?) ∧ R M w cs l[k]

def RK (_ : Nat → Prop) (_ : World) (cs : List Value) (k : KindD) : Prop := cs = [.int .i64 k.kind, .string k.cls] ∧ k.cls.size ≤ maxLen
def RF (_ : Nat → Prop) (_ : World) (cs : List Value) (f : FieldD) : Prop := cs = [.string f.name, .int .i64 f.kind.kind, .string f.kind.cls] ∧ f.name.size ≤ maxLen ∧ f.kind.cls.size ≤ maxLen
def RH (_ : Nat → Prop) (_ : World) (cs : List Value) (h : HandD) : Prop := cs = [.int .i64 h.frm, .int .i64 h.upto, .int .i64 h.loc, .string h.cls] ∧ h.cls.size ≤ maxLen
def RM (M : Nat → Prop) (w : World) (cs : List Value) (m : MethD) : Prop :=
  ∃ va vh, cs = [.string m.name, .bool m.static, va, .int .i64 m.ret.kind, .string m.ret.cls, .int .i64 m.stack, .int .i64 m.locals, .string m.code, vh] ∧ SL 2 RK M w va m.args ∧ SL 4 RH M w vh m.hands ∧
    m.name.size ≤ maxLen ∧ m.ret.cls.size ≤ maxLen ∧ m.code.size ≤ maxLen
def RC (M : Nat → Prop) (w : World) (cs : List Value) (c : ClassD) : Prop :=
  ∃ vf vm, cs = [.string c.name, .string c.super, vf, vm] ∧ SL 3 RF M w vf c.fields ∧ SL 9 RM M w vm c.meths ∧ c.name.size ≤ maxLen ∧ c.super.size ≤ maxLen

/-- What is of a set is kept. -/
structure Kp (M : Nat → Prop) (w w' : World) : Prop where
  size : w.heap.size ≤ w'.heap.size
  block : ∀ b, M b → b < w.heap.size → w'.heap[b]? = w.heap[b]?
theorem Kp.below {B : Nat} {w w' : World} (h : Below B w w') : Kp (· < B) w w' := ⟨h.size, fun b hb _ => h.block b hb⟩

theorem SL.kept {α : Type} {n : Nat} {R : (Nat → Prop) → World → List Value → α → Prop} {M : Nat → Prop} {w w' : World} {v : Value} {l : List α} (h : SL n R M w v l) (hk : Kp M w w')
    (hR : ∀ cs x, R M w cs x → R M w' cs x) : SL n R M w' v l := by
  obtain ⟨ao, cap, rfl, h1, h2, h3⟩ := h
  refine ⟨ao, cap, rfl, h1, h2, fun k hk' => ?_⟩
  obtain ⟨b, off, cs, e, hM, hb, hn, hc, hr⟩ := h3 k hk'
  exact ⟨b, off, cs, e, hM, Nat.lt_of_lt_of_le hb hk.size, hn, fun j hj => (World.cell?_of_block (a := ⟨b, _, none⟩) (hk.block b hM hb)).trans (hc j hj), hR _ _ hr⟩
theorem SL.mono {α : Type} {n : Nat} {R : (Nat → Prop) → World → List Value → α → Prop} {M M' : Nat → Prop} {w : World} {v : Value} {l : List α} (h : SL n R M w v l) (hM : ∀ b, M b → M' b)
    (hR : ∀ cs x, R M w cs x → R M' w cs x) : SL n R M' w v l := by
  obtain ⟨ao, cap, rfl, h1, h2, h3⟩ := h
  refine ⟨ao, cap, rfl, h1, h2, fun k hk' => ?_⟩
  obtain ⟨b, off, cs, e, hMb, hb, hn, hc, hr⟩ := h3 k hk'
  exact ⟨b, off, cs, e, hM b hMb, hb, hn, hc, hR _ _ hr⟩
theorem SL.keptK {M : Nat → Prop} {w w' : World} {v : Value} {l : List KindD} (h : SL 2 RK M w v l) (hk : Kp M w w') : SL 2 RK M w' v l := h.kept hk fun _ _ h => h
theorem SL.keptF {M : Nat → Prop} {w w' : World} {v : Value} {l : List FieldD} (h : SL 3 RF M w v l) (hk : Kp M w w') : SL 3 RF M w' v l := h.kept hk fun _ _ h => h
theorem SL.keptH {M : Nat → Prop} {w w' : World} {v : Value} {l : List HandD} (h : SL 4 RH M w v l) (hk : Kp M w w') : SL 4 RH M w' v l := h.kept hk fun _ _ h => h
theorem RM.kept {M : Nat → Prop} {w w' : World} {cs : List Value} {m : MethD} (h : RM M w cs m) (hk : Kp M w w') : RM M w' cs m := by
  obtain ⟨va, vh, e, ha, hh, r⟩ := h
  exact ⟨va, vh, e, ha.keptK hk, hh.keptH hk, r⟩
theorem SL.keptM {M : Nat → Prop} {w w' : World} {v : Value} {l : List MethD} (h : SL 9 RM M w v l) (hk : Kp M w w') : SL 9 RM M w' v l := h.kept hk fun _ _ h => h.kept hk
theorem RC.kept {M : Nat → Prop} {w w' : World} {cs : List Value} {c : ClassD} (h : RC M w cs c) (hk : Kp M w w') : RC M w' cs c := by
  obtain ⟨va, vh, e, ha, hh, r⟩ := h
  exact ⟨va, vh, e, ha.keptF hk, hh.keptM hk, r⟩
theorem SL.keptC {M : Nat → Prop} {w w' : World} {v : Value} {l : List ClassD} (h : SL 4 RC M w v l) (hk : Kp M w w') : SL 4 RC M w' v l := h.kept hk fun _ _ h => h.kept hk
theorem SL.monoK {M M' : Nat → Prop} {w : World} {v : Value} {l : List KindD} (h : SL 2 RK M w v l) (hM : ∀ b, M b → M' b) : SL 2 RK M' w v l := h.mono hM fun _ _ h => h
theorem SL.monoF {M M' : Nat → Prop} {w : World} {v : Value} {l : List FieldD} (h : SL 3 RF M w v l) (hM : ∀ b, M b → M' b) : SL 3 RF M' w v l := h.mono hM fun _ _ h => h
theorem SL.monoH {M M' : Nat → Prop} {w : World} {v : Value} {l : List HandD} (h : SL 4 RH M w v l) (hM : ∀ b, M b → M' b) : SL 4 RH M' w v l := h.mono hM fun _ _ h => h
theorem RM.mono {M M' : Nat → Prop} {w : World} {cs : List Value} {m : MethD} (h : RM M w cs m) (hM : ∀ b, M b → M' b) : RM M' w cs m := by
  obtain ⟨va, vh, e, ha, hh, r⟩ := h
  exact ⟨va, vh, e, ha.monoK hM, hh.monoH hM, r⟩
theorem SL.monoM {M M' : Nat → Prop} {w : World} {v : Value} {l : List MethD} (h : SL 9 RM M w v l) (hM : ∀ b, M b → M' b) : SL 9 RM M' w v l := h.mono hM fun _ _ h => h.mono hM
theorem RC.mono {M M' : Nat → Prop} {w : World} {cs : List Value} {c : ClassD} (h : RC M w cs c) (hM : ∀ b, M b → M' b) : RC M' w cs c := by
  obtain ⟨va, vh, e, ha, hh, r⟩ := h
  exact ⟨va, vh, e, ha.monoF hM, hh.monoM hM, r⟩
theorem SL.monoC {M M' : Nat → Prop} {w : World} {v : Value} {l : List ClassD} (h : SL 4 RC M w v l) (hM : ∀ b, M b → M' b) : SL 4 RC M' w v l := h.mono hM fun _ _ h => h.mono hM
end Go.Proofs.YtjdnmblggdobgaaGreat
