/- There is no room only if what is live, and the thing, are more than Old; and what is live is as it was, in any case. -/
import Derived.Test.YtjdnmblggdobgaaGreatRows
import Derived.Test.YtjdnmblggdobgaaGreatJHxZHxY
import Derived.Test.YtjdnmblggdobgaaGreatJArgCArgR
import Derived.DataShut
import Derived.OpenShut
import Derived.Deep.DeepHandedRow
import Derived.LaidLaws
namespace Go.Proofs.YtjdnmblggdobgaaGreat.FullEnough
open Go.ChangeShapes Go.WideShapes Go.ChangeAt Go.RowKit

theorem own : ownKnob Tryz.prog.godebug = none := by kernel_rfl

set_option maxRecDepth 100000 in
theorem contract (H : Type) (enc : TypeId × Value → H) (W : World) (base : Nat) (args : Array Value) (ds gs : List (DataW H)) (before : List MemPlace)
    (hval : ∀ (j : Nat) t v, Tryz.f15.params[j]? = some t → args[j]? = some v → Value.okWide Tryz.prog W .any base t v)
    (hW : DataW.Whole enc Tryz.prog Tryz.f15.params.toList Rows.fullEnoughSpec.vars false W args.toList ds gs before) :
    Calls Tryz.prog 15 args W fun e W' => ∃ v, e = .returned v ∧ Rows.fullEnoughSpec.post enc Tryz.prog Tryz.f15 false true false false W args v W' := by
  have hW' := hW;have hlt := hW.lt;obtain ⟨p, q, hA0, hV, rfl, hfz, hnd⟩ := hW;have hA : DataW.TrodAll enc Tryz.prog W 0 (fun _ => true) true Tryz.f15.params.toList args.toList ds p := hA0;rw [Tryz.params15] at hA hval;obtain ⟨v0, vs0, d0, ds0, p0, q0, hargs, rfl, rfl, h0, r0⟩ := trodAll_cons hA;obtain ⟨v1, vs1, d1, ds1, p1, q1, hargs1, rfl, rfl, h1, r1⟩ := trodAll_cons r0;obtain ⟨v2, vs2, d2, ds2, p2, q2, hargs2, rfl, rfl, h2, r2⟩ := trodAll_cons r1;obtain ⟨v3, vs3, d3, ds3, p3, q3, hargs3, rfl, rfl, h3, r3⟩ := trodAll_cons r2;obtain ⟨v4, vs4, d4, ds4, p4, q4, hargs4, rfl, rfl, h4, r4⟩ := trodAll_cons r3;obtain ⟨rfl, rfl, rfl⟩ := trodAll_nil r4;obtain rfl : args = #[v0, v1, v2, v3, v4] := by cases args; simp_all
  obtain ⟨rfl, rfl⟩ := trodVars_none hV;obtain ⟨cs0, rfl, -⟩ := okWide_struct Tryz.underlying24 (hval 0 24 v0 rfl rfl);have h0' := h0;obtain ⟨fuel0, hf0⟩ := h0;obtain ⟨vW, vO, hp, hcs0, sW, sO, ww, wn, wx⟩ := zl hf0;obtain rfl : cs0 = #[vW, .int .i64 hp.ae, .int .i64 hp.old, .int .i64 hp.bo, .int .i64 hp.ba, vO, .int .i64 hp.next] := Array.toList_inj.1 hcs0;obtain ⟨cs1, rfl, -⟩ := okWide_struct Tryz.underlying36 (hval 1 36 v1 rfl rfl);have h1' := h1;obtain ⟨fuel1, hf1⟩ := h1;obtain ⟨kC, kS, kF, kN, kT, d, hcs, hl1⟩ := xm hf1;obtain rfl : cs1 = #[kC, kS, kF, kN, kT] := Array.toList_inj.1 hcs;obtain ⟨a2, xj, cap2, rfl⟩ := okWide_slice Tryz.underlying22 (hval 2 22 v2 rfl rfl);have h2' := h2;obtain ⟨fuel2, hf2⟩ := h2;obtain ⟨l2, hl2, hw2⟩ := zm hf2;have h3' := h3;obtain ⟨n3, rfl, rfl, rfl, hn3⟩ := open_int Tryz.underlying3 (hval 3 3 v3 rfl rfl) h3;have h4' := h4;obtain ⟨n4, rfl, rfl, rfl, hn4⟩ := open_int Tryz.underlying3 (hval 4 3 v4 rfl rfl) h4;clear hA0 hA;simp only [List.append_nil] at hW' hlt;refine (ut W W.heap.size _ _ _ _ _ _ _ hp d ⟨sW, sO, hl1, nlq _, ww, wn⟩ _ l2 hl2 hw2 n3 n4 wx hn3 hn4).mono fun e W' ⟨he, hb⟩ => ?_;subst he;refine ⟨_, rfl, _, _, _, [], (p0 ++ (p1 ++ (p2))), [], hW', ?_, ?_, ?_, hb.frame _, fun h => by cases h⟩
  · exact trodAll_cons_mk (shut_bool Tryz.underlying4 _) trodAll_mk0
  · have e0 := Below.trod (by kernel_rfl) (by kernel_rfl) (of_decide_eq_true (by kernel_rfl)) h0' hb (fun x hx => hlt x (List.mem_append_left _ hx))
    have e1 := Below.trod (by kernel_rfl) (by kernel_rfl) (of_decide_eq_true (by kernel_rfl)) h1' hb (fun x hx => hlt x (List.mem_append_right _ (List.mem_append_left _ hx)));have e2 := Below.trod (by kernel_rfl) (by kernel_rfl) (of_decide_eq_true (by kernel_rfl)) h2' hb (fun x hx => hlt x (List.mem_append_right _ (List.mem_append_right _ hx)));have e3 := Below.trod (by kernel_rfl) (by kernel_rfl) (of_decide_eq_true (by kernel_rfl)) h3' hb (fun x hx => by cases hx);have e4 := Below.trod (by kernel_rfl) (by kernel_rfl) (of_decide_eq_true (by kernel_rfl)) h4' hb (fun x hx => by cases hx);have := trodAll_cons_mk e0 (trodAll_cons_mk e1 (trodAll_cons_mk e2 (trodAll_cons_mk e3 (trodAll_cons_mk e4 trodAll_mk0))));simp only [List.append_nil] at this;exact this
  · rfl

theorem Bs (os : Os) : laidMet Tryz.prog Rows.fullEnoughRow.laid ((World.holding Tryz.prog os ⟨#[], #[], []⟩).forCall (fun _ _ => 0) ⟨#[], #[.agg #[.slice none 0 0, .int .i64 0, .int .i64 0, .int .i64 0, .int .i64 0, .slice none 0 0, .int .i64 0], .agg #[.slice none 0 0, .slice none 0 0, .slice none 0 0, .slice none 0 0, .slice none 0 0], .slice none 0 0, .int .i64 0, .int .i64 0], []⟩).memory :=
  laidMet_of_run' 8 (by kernel_rfl) (by kernel_rfl)
theorem reads (os : Os) {H : Type} (enc : TypeId × Value → H) : ∃ places, DataW.whole enc Tryz.prog ((World.holding Tryz.prog os ⟨#[], #[], []⟩).forCall (fun _ _ => 0) ⟨#[], #[.agg #[.slice none 0 0, .int .i64 0, .int .i64 0, .int .i64 0, .int .i64 0, .slice none 0 0, .int .i64 0], .agg #[.slice none 0 0, .slice none 0 0, .slice none 0 0, .slice none 0 0, .slice none 0 0], .slice none 0 0, .int .i64 0, .int .i64 0], []⟩).memory Tryz.f15.params.toList Rows.fullEnoughSpec.vars false #[Value.agg #[.slice none 0 0, .int .i64 0, .int .i64 0, .int .i64 0, .int .i64 0, .slice none 0 0, .int .i64 0], Value.agg #[.slice none 0 0, .slice none 0 0, .slice none 0 0, .slice none 0 0, .slice none 0 0], Value.slice none 0 0, Value.int .i64 0, Value.int .i64 0].toList 8 = some ([.agg [.nil, .lit (.int .i64 0), .lit (.int .i64 0), .lit (.int .i64 0), .lit (.int .i64 0), .nil, .lit (.int .i64 0)], .agg [.nil, .nil, .nil, .nil, .nil], .nil, .lit (.int .i64 0), .lit (.int .i64 0)], [], places) :=
  ⟨[], by kernel_rfl⟩

set_option maxRecDepth 100000 in
theorem lifted (os : Os) (started : os.Started) (H : Type) (enc : TypeId × Value → H) (F : Stop.Interp) :
    ReturnsInHanded {} Tryz.checked os 15 .any ((OpenSpec.ofChange Rows.fullEnoughSpec).preRow enc Tryz.prog Tryz.f15 Rows.fullEnoughRow.domain false Rows.fullEnoughRow.laid) (((OpenSpec.ofChange Rows.fullEnoughSpec).at F).post enc Tryz.prog Tryz.f15 false true false false) := by
  obtain ⟨places, hx⟩ := reads os enc;refine returnsInHanded_of_row (C := Tryz.checked) (s := OpenSpec.ofChange Rows.fullEnoughSpec) own started (by kernel_rfl) Tryz.func15
    (witness_row_at (enc := enc) (C := Tryz.checked) false (World.holding Tryz.prog os ⟨#[], #[], []⟩) #[.agg #[.slice none 0 0, .int .i64 0, .int .i64 0, .int .i64 0, .int .i64 0, .slice none 0 0, .int .i64 0], .agg #[.slice none 0 0, .slice none 0 0, .slice none 0 0, .slice none 0 0, .slice none 0 0], .slice none 0 0, .int .i64 0, .int .i64 0] rfl (by kernel_rfl) (by kernel_rfl) (by kernel_rfl)
      (OpenSpec.preRow_of_cond 8 hx (by kernel_rfl) (fun k hk => by cases hk) (by kernel_rfl) (Bs os))) ?_
  intro W base args ds gs before hval hW _ _ hS hL _ _;exact contract H enc W base args ds gs before hval hW

theorem E0 {a b : Bool} (h1 : a = true) (h2 : b = true) : (a && b) = true := by rw [h1, h2]; rfl
set_option maxRecDepth 100000 in
set_option maxHeartbeats 8000000 in
theorem closed : joinedFacts Tryz.pinned.checked.prog 15 Tryz.f15 (OpenSpec.ofChange Rows.fullEnoughSpec).bare Rows.fullEnoughRow = true := by
  unfold joinedFacts
  iterate 31 (refine E0 ?_ (by as_aux_lemma => kernel_rfl))
  as_aux_lemma => kernel_rfl
theorem said : Rows.FullEnoughSaid :=
  OpenClaim.holds_of_cond 15 Tryz.f15 rfl rfl rfl rfl rfl rfl rfl ⟨rfl, rfl, rfl, rfl, rfl⟩ rfl rfl rfl rfl rfl (by kernel_rfl) Tryz.func15 closed
    (of_decide_eq_true (by kernel_rfl)) (by unfold Func.isWrapper; first | (rw [if_pos (by decide +kernel)]; kernel_rfl) | (rw [if_neg (by decide +kernel)]; exact ⟨rfl, rfl⟩))
    (fun os started H enc _ F => by rw [OpenClaim.pre_eq_preRow]; exact lifted os started H enc F)
end Go.Proofs.YtjdnmblggdobgaaGreat.FullEnough

namespace Go.Proofs.YtjdnmblggdobgaaGreat
open Go
theorem fullEnough_holds : Rows.FullEnoughSaid := FullEnough.said
#print axioms fullEnough_holds
end Go.Proofs.YtjdnmblggdobgaaGreat
