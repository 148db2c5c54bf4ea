/- The contracts of checkWhere and decode. -/
import Derived.Test.YtkhconnebiiboaaGreatDoorCdRead
import Derived.Test.YtkhconnebiiboaaGreatDoorCdPlace
namespace Go.Proofs.YtkhconnebiiboaaGreatDoor.Cd
set_option maxRecDepth 100000
open Go.RowKit

theorem own_holds {w : World} {B : Nat} {v : Value} {l : List Op4} (h : w.ownsRow B 139 4 v l.length (cellsOf l)) : Holds4 w v l := by
  rcases h.2 with ⟨rfl, hn⟩ | ⟨g, cap, cur, rfl, hb, hg, hc, hm, hs, ht⟩
  · exact Or.inl ⟨none, 0, rfl, List.eq_nil_of_length_eq_zero hn⟩
  · have hc4 : ∀ k, k < l.length → ∀ j, j < 4 → w.cell? ⟨g, 0 + k * 4 + j, none⟩ = (get4 l k).cells[j]? := fun k hk j hj => by
      rw [Nat.zero_add, h.cellAt (k * 4 + j) (by omega)]
      exact cellsOf_get l k hk j hj
    exact Or.inr ⟨g, 0, cap, rfl, hc, fun k hk => hc4 k hk 0 (by omega), fun k hk => hc4 k hk 1 (by omega), fun k hk => hc4 k hk 2 (by omega), fun k hk => hc4 k hk 3 (by omega), (Array.getElem?_eq_some_iff.1 hg).1⟩
theorem Holds4.below {w w' : World} {v : Value} {l : List Op4} (h : Holds4 w v l) (hb : Below w.heap.size w w') : Holds4 w' v l := by
  rcases h with h | ⟨b, off, cap, rfl, hc, h⟩
  · exact Or.inl h
  · exact Or.inr ⟨b, off, cap, rfl, hc, h.below hb h.lt⟩
theorem Tabs.below {w w' : World} (h : Tabs w) (hb : Below w.heap.size w w') : Tabs w' :=
  ⟨fun o ho => (hb.cell (p := ⟨6, o, none⟩) (by have := h.two; simp; omega)).trans (h.behind o ho), fun k hk => (hb.cell (p := ⟨5, _, none⟩) (by have := h.two; simp; omega)).trans (h.bytes k hk), Nat.lt_of_lt_of_le h.two hb.size⟩

theorem own_below {w w' : World} {B : Nat} {e size n : Nat} {v : Value} {xs : List Value} (h : w.ownsRow B e size v n xs) (hb : Below w.heap.size w w') : w'.ownsRow B e size v n xs :=
  h.kept (row := none) ⟨hb.os, hb.tape, hb.output, hb.size, fun k hk _ => hb.block k hk⟩ (by cases v.ownBlock <;> simp)

set_option maxHeartbeats 400000 in
theorem check_any (w : World) (v : Value) (l : List Op4) (x : Op4) (h : Holds4 w v l) (hl : l.length ≤ 9223372036854775807) (hT : Tabs w) (o : Nat) (ho : o < 37) (hxo : x.op = o) :
    Calls Tryz.prog 172 #[v, .agg #[.int .i64 x.loc, .int .i64 x.op, .int .i64 x.a, .int .i64 x.b]] w fun r w' => Below w.heap.size w w' ∧
      ((bad l x = true ∧ r = .panicked [wrongV 3 x.loc]) ∨ (¬ bad l x = true ∧ r = .returned (.tuple #[]))) := by
  rw [hxo]
  have h0 := hT.two
  have h00 : 0 < w.heap.size := by omega
  have ht := hT.behind o ho
  have hk5 := kOf_lt o
  have HO : Hid (kOf x.op.toNat = kOf o) := by show kOf x.op.toNat = kOf o; rw [hxo]; rfl
  clear hxo
  by_cases hk : kOf o = 2
  · have HK : Hid (kOf o = 2) := hk
    rw [hk] at ht
    clear hk hk5
    go_enter Tryz.func172, Tryz.ntmps172
    go_wp2_with fail
    refine (place_all _ v l x.a ?_ hl).mono ?_
    · exact h.below ((Below.refl _ _).alloc (Nat.le_refl _) _)
    rintro e w1 ⟨rfl, hb⟩
    have x0 : w1.cell? ⟨w.heap.size, 0, none⟩ = some (.int .i64 x.loc) := (hb.cell (p := ⟨w.heap.size, 0, none⟩) (by simp)).trans (by simp)
    have hB : Below w.heap.size w w1 := ((Below.refl _ _).alloc (Nat.le_refl _) _).trans (hb.mono (by simp))
    clear hb
    cases hp : place l x.a 0 with
    | none =>
      have HP : Hid (place l x.a 0 = none) := hp
      rw [placeN_none hp, placeE_none hp]
      clear hp
      go_wp2_with fail
      refine (demand_no _ _ _).mono ?_
      rintro e w2 ⟨rfl, rfl⟩
      refine ⟨rfl, hB, Or.inl ⟨?_, rfl⟩⟩
      simp only [bad, HO.out, HK.out, HP.out]
      rfl
    | some k =>
      have HP : Hid (place l x.a 0 = some k) := hp
      rw [placeN_some hp, placeE_some hp]
      clear hp
      go_wp2_with fail
      refine (demand_ok _ _ _).mono ?_
      rintro e w2 ⟨rfl, rfl⟩
      go_wp2
      go_end0
      refine ⟨hB, Or.inr ⟨?_, rfl⟩⟩
      simp [bad, HP.out]
  · have hbf : ((kOf o : Int) == 2) = false := by simp; omega
    have HK : Hid (¬ kOf o = 2) := hk
    clear hk
    go_enter Tryz.func172, Tryz.ntmps172
    go_wp2
    first | go_end0 | refine bodyPost_ret (results_none rfl _ _ _) rfl ?_
    refine ⟨(Below.refl _ _).alloc (Nat.le_refl _) _, Or.inr ⟨?_, rfl⟩⟩
    simp [bad, HO.out, HK.out]

theorem below_of_grown {w W w' : World} {b : Nat} (h : Below w.heap.size w W) (hg : W.grownBy w' (some b)) (hb : w.heap.size ≤ b) : Below w.heap.size w w' :=
  h.grown hg h.size (fun k e => by cases e; exact hb)

set_option maxHeartbeats 800000 in
theorem decode_any (w : World) (s : ByteArray) (hT : Tabs w) (hs : s.size ≤ 200) :
    Calls Tryz.prog 133 #[.string s] w fun r w' => Below w.heap.size w w' ∧
      ((∃ l v, dec s = .ok l ∧ l.length ≤ s.size ∧ r = .returned v ∧ w'.ownsRow w.heap.size 139 4 v l.length (cellsOf l)) ∨ (∃ e p, dec s = .error (e, p) ∧ r = .panicked [wrongV e p])) := by
  have hmf : ∀ (fn : Fn) (first cap : Array Value) (w : World), (Instr.makeFunc fn first cap).run Tryz.prog w = .ok (.func fn first cap) w := fun _ _ _ _ => rfl
  have h0 := hT.two
  have hB0 : Below w.heap.size w ((w.alloc (.cells #[.string s, .int .i64 0] 191)).alloc (.cells #[.string s, .int .i64 0] 194)) := ((Below.refl _ _).alloc (Nat.le_refl _) _).alloc (by simp) _
  go_enter Tryz.func133, Tryz.ntmps133
  go_wp2_with fail
  refine (newReader_any _ s).mono ?_
  rintro e w1 ⟨rfl, rfl⟩
  go_wp2_with fail
  refine (readAll_any _ (w.heap.size + 1) s ?_ (hT.below hB0) hs (by omega)).mono ?_
  · exact ⟨by simp, by simp, by simp⟩
  rintro e w1 ⟨hg, he⟩
  have hB := below_of_grown hB0 hg (by omega)
  rcases he with ⟨l, v, hsc, hll, rfl, hown⟩ | ⟨er, p, hsc, rfl⟩
  · have hok := scan_okay s _ _ _ _ (fun x hx => by cases hx) hsc
    have hT1 := hT.below hB
    have hh := own_holds hown
    have HS : Hid (scan s s.size 0 [] = .ok l) := hsc
    have HOW : Hid (w1.ownsRow w.heap.size 139 4 v l.length (cellsOf l)) := by
      refine ⟨hown.1, ?_⟩
      rcases hown.2 with h | ⟨g, cap, cur, h1, h2, h3⟩
      · exact Or.inl h
      · exact Or.inr ⟨g, cap, cur, h1, by simp at h2; omega, h3⟩
    clear hsc hown hg
    rcases hh with ⟨ao, cap, rfl, rfl⟩ | ⟨b, off, cap, rfl, hc, hh⟩
    · go_wp2_with fail
      go_loop [15] (fun i => i = .int .i64 0) (fun _ => 0)
      case atStart => rfl
      case round =>
        obtain rfl := hrel
        go_wp2_with fail
        go_ret
        exact ⟨hB, Or.inl ⟨[], dec_ok HS.out rfl, Nat.zero_le _, _, rfl, HOW.out⟩⟩
    · go_wp2_with fail
      go_loopw [15] (fun i wr => ∃ k : Nat, k ≤ l.length ∧ i = .int .i64 k ∧ Hid (firstBad l (l.drop k) = firstBad l l) ∧ Below w1.heap.size w1 wr) (fun i _ => l.length - (intOf i).toNat)
      case atStart => exact ⟨0, Nat.zero_le _, rfl, rfl, Below.refl _ _⟩
      case round =>
        obtain ⟨k, hk, rfl, HP, hBr⟩ := hrel
        have hsz := hBr.size
        by_cases hlt : k < l.length
        · have h' := hh.below hBr hh.lt
          have c0 := h'.c0 k hlt
          have c1 := h'.c1 k hlt
          have c2 := h'.c2 k hlt
          have c3 := h'.c3 k hlt
          obtain ⟨o, ho, hxo⟩ := hok _ (get4_mem l k hlt)
          have HXO : Hid ((get4 l k).op = o) := hxo
          clear hxo
          go_wp2_with fail
          refine (check_any _ _ l (get4 l k) ?_ (by omega) ?_ o ho HXO.out).mono ?_
          · exact Or.inr ⟨b, off, cap, rfl, hc, hh.below (hBr.alloc hsz _) hh.lt⟩
          · exact hT1.below (hBr.alloc hsz _)
          rintro e w2 ⟨hB2, he2⟩
          have hB3 : Below w1.heap.size w1 w2 := (hBr.alloc hsz _).trans (hB2.mono (by simp; omega))
          rcases he2 with ⟨hbad, rfl⟩ | ⟨hbad, rfl⟩
          · refine ⟨rfl, hB.trans (hB3.mono hB.size), Or.inr ⟨_, _, dec_bad HS.out (HP.out.symm.trans (firstBad_hit l k hlt hbad)), rfl⟩⟩
          · clear hB2
            go_wp2_with fail
            go_roundw
            case rel => exact ⟨k + 1, by omega, by go_num, (firstBad_miss l k hlt hbad).symm.trans HP.out, hB3⟩
            case measure => simp [intOf]; omega
        · go_wp2_with fail
          go_ret
          refine ⟨hB.trans (hBr.mono hB.size), Or.inl ⟨l, _, dec_ok HS.out (HP.out.symm.trans (firstBad_end l k hlt)), hll, rfl, ?_⟩⟩
          exact own_below HOW.out hBr
  · exact ⟨rfl, hB, Or.inr ⟨_, _, dec_err hsc, rfl⟩⟩
end Go.Proofs.YtkhconnebiiboaaGreatDoor.Cd
