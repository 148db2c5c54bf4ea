/- 'append' of nothing. -/
import Derived.Test.YtjdnmblggdobgaaGreatJLLineLLn
import Derived.Deep.AppendSrc
namespace Go.Proofs.YtjdnmblggdobgaaGreat
open Go Go.RowKit

theorem run_append_none {P : Program} (w : World) (t ty e : TypeId) (i : TypeInfo) (ht : P.underlying t = some (.slice e)) (hi : P.info? e = some i) (a : Option Addr) (n c : Nat) (hn : n ≤ c) (ha : a = none ∨ ∃ g, a = some ⟨g, 0, none⟩) (x : Option Addr) (cx : Nat) :
    (Builtin.append_ #[t, t] ty #[.slice a n c, .slice x 0 cx]).run P w = .ok (.slice a n c) w := by
  have hs : Src P i.size t (.slice x 0 cx) 0 [] w := by
    cases x with
    | none => exact Src.ofNil w ht cx
    | some ad => exact Src.ofSlice w ht ad 0 cx [] (by simp) (fun j u h => by simp at h) (fun u h => by cases h)
  rcases ha with rfl | ⟨g, rfl⟩
  · simp [Builtin.append_, run_underlying ht, sizeOf, typeInfo, hi, hs.len, hn, hs.cells]
  · have := run_append_room_src w t t ty e i ht hi g 0 n c (.slice x 0 cx) 0 [] hs (by omega) (fun j h => by cases h) (fun j h => by cases h)
    rw [this]
    rfl
theorem wpList_append_none {P : Program} (w : World) {ops : Array Oper} {rest : List Oper} {o : Oper} {a : Act} {Q : Exit → Act → World → Prop} (hgd : o.guard = none) (s x : Operand) (t : TypeId)
    (ho : o.op = .call { callee := .builtin .append, args := #[s, x], argTypes := #[t, t] }) (e : TypeId) (i : TypeInfo) (ht : P.underlying t = some (.slice e)) (hi : P.info? e = some i)
    (ad : Option Addr) (n c : Nat) (hs : a.eval s = .slice ad n c) (hn : n ≤ c) (ha : ad = none ∨ ∃ g, ad = some ⟨g, 0, none⟩) (xa : Option Addr) (cx : Nat) (hx : a.eval x = .slice xa 0 cx)
    (h : wpList P ops Q rest (a.put o.dst (.slice ad n c)) w) : wpList P ops Q (o :: rest) a w := by
  refine wpList_plain hgd fun K hK => ?_
  have hr := run_append_none (P := P) w t o.type e i ht hi ad n c hn ha xa cx
  unfold Oper.wp execOp
  simp only [ho, resolve, invoke, builtin, Sem.run_bind, Sem.run_pure, Result.andThen_ok, List.map_toArray, List.map_cons, List.map_nil, hs, hx, hr]
  exact hK _ _ h
theorem own_app {w : World} {B e n len : Nat} {a : Option Addr} {c : Nat} {xs : List Value} (h : w.ownsRow B e n (.slice a len c) len xs) : len ≤ c ∧ (a = none ∨ ∃ g, a = some ⟨g, 0, none⟩) := by
  rcases h.2 with ⟨e, h0⟩ | ⟨g, cap, cur, e, _, _, hc, _⟩
  · exact ⟨by omega, Or.inl (Value.slice.inj e).1⟩
  · obtain ⟨e1, _, e3⟩ := Value.slice.inj e
    exact ⟨by omega, Or.inr ⟨g, e1⟩⟩
end Go.Proofs.YtjdnmblggdobgaaGreat
