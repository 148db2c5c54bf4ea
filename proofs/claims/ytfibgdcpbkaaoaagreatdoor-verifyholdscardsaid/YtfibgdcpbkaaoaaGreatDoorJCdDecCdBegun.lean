/- The contracts of checkWhere and decode. -/
import Derived.Test.YtfibgdcpbkaaoaaGreatDoorJCdInsNoCdTabs
import Derived.Test.YtfibgdcpbkaaoaaGreatDoorCdPlace
namespace Go.Proofs.YtfibgdcpbkaaoaaGreatDoor.Cd
set_option maxRecDepth 100000
open Go.RowKit
theorem own_holds {w : World} {B : Nat} {v : Value} {l : List Op4} (h : w.ownsRow B 55 4 v l.length (cellsOf l)) : Holds4 w v l := by
  rcases h.2 with ⟨rfl, hn⟩ | ⟨g, cap, cur, rfl, hb, hg, hc, hm, hs, ht⟩
  · exact Or.inl ⟨none, 0, rfl, List.eq_nil_of_length_eq_zero hn⟩
  · have hc4 : ∀ k, k < l.length → ∀ j, j < 4 → w.cell? ⟨g, 0 + k * 4 + j, none⟩ = (get4 l k).cells[j]? := fun k hk j hj => by
      rw [Nat.zero_add, h.cellAt (k * 4 + j) (by omega)]
      exact cellsOf_get l k hk j hj
    exact Or.inr ⟨g, 0, cap, rfl, hc, fun k hk => hc4 k hk 0 (by omega), fun k hk => hc4 k hk 1 (by omega), fun k hk => hc4 k hk 2 (by omega), fun k hk => hc4 k hk 3 (by omega), (Array.getElem?_eq_some_iff.1 hg).1⟩
theorem Holds4.below {w w' : World} {v : Value} {l : List Op4} (h : Holds4 w v l) (hb : Below w.heap.size w w') : Holds4 w' v l := by
  rcases h with h | ⟨b, off, cap, rfl, hc, h⟩
  · exact Or.inl h
  · exact Or.inr ⟨b, off, cap, rfl, hc, h.below hb h.lt⟩
theorem Tabs.below {w w' : World} (h : Tabs w) (hb : Below w.heap.size w w') : Tabs w' :=
  ⟨fun o ho => (hb.cell (p := ⟨5, o, none⟩) (by have := h.two; simp; omega)).trans (h.behind o ho), fun k hk => (hb.cell (p := ⟨4, _, none⟩) (by have := h.two; simp; omega)).trans (h.bytes k hk), Nat.lt_of_lt_of_le h.two hb.size⟩
theorem own_below {w w' : World} {B : Nat} {e size n : Nat} {v : Value} {xs : List Value} (h : w.ownsRow B e size v n xs) (hb : Below w.heap.size w w') : w'.ownsRow B e size v n xs :=
  h.kept (row := none) ⟨hb.os, hb.tape, hb.output, hb.size, fun k hk _ => hb.block k hk⟩ (by cases v.ownBlock <;> simp)
set_option maxHeartbeats 400000 in
theorem check_any (w : World) (v : Value) (l : List Op4) (x : Op4) (h : Holds4 w v l) (hl : l.length ≤ 9223372036854775807) (hT : Tabs w) (o : Nat) (ho : o < 37) (hxo : x.op = o) :
    Calls Tryz.prog 58 #[v, .agg #[.int .i64 x.loc, .int .i64 x.op, .int .i64 x.a, .int .i64 x.b]] w fun r w' => Below w.heap.size w w' ∧
      ((bad l x = true ∧ r = .panicked [wrongV 3 x.loc]) ∨ (¬ bad l x = true ∧ r = .returned (.tuple #[]))) := by
  rw [hxo]
  have h0 := hT.two
  have h00 : 0 < w.heap.size := by omega
  have ht := hT.behind o ho
  have hk5 := kOf_lt o
  have HO : Hid (kOf x.op.toNat = kOf o) := by show kOf x.op.toNat = kOf o; rw [hxo]; rfl
  clear hxo
  by_cases hk : kOf o = 2
  · have HK : Hid (kOf o = 2) := hk
    rw [hk] at ht
    clear hk hk5
    go_enter Tryz.func58, Tryz.ntmps58
    go_wp2_with fail
    refine (place_all _ v l x.a ?_ hl).mono ?_
    · exact h.below ((Below.refl _ _).alloc (Nat.le_refl _) _)
    rintro e w1 ⟨rfl, hb⟩
    have x0 : w1.cell? ⟨w.heap.size, 0, none⟩ = some (.int .i64 x.loc) := (hb.cell (p := ⟨w.heap.size, 0, none⟩) (by simp)).trans (by simp)
    have hB : Below w.heap.size w w1 := ((Below.refl _ _).alloc (Nat.le_refl _) _).trans (hb.mono (by simp))
    clear hb
    cases hp : place l x.a 0 with
    | none =>
      have HP : Hid (place l x.a 0 = none) := hp
      rw [placeN_none hp, placeE_none hp]
      clear hp
      go_wp2_with fail
      refine (demand_no _ _ _).mono ?_
      rintro e w2 ⟨rfl, rfl⟩
      refine ⟨rfl, hB, Or.inl ⟨?_, rfl⟩⟩
      simp only [bad, HO.out, HK.out, HP.out]
      rfl
    | some k =>
      have HP : Hid (place l x.a 0 = some k) := hp
      rw [placeN_some hp, placeE_some hp]
      clear hp
      go_wp2_with fail
      refine (demand_ok _ _ _).mono ?_
      rintro e w2 ⟨rfl, rfl⟩
      go_wp2
      go_end0
      refine ⟨hB, Or.inr ⟨?_, rfl⟩⟩
      simp [bad, HP.out]
  · have hbf : ((kOf o : Int) == 2) = false := by simp; omega
    have HK : Hid (¬ kOf o = 2) := hk
    clear hk
    go_enter Tryz.func58, Tryz.ntmps58
    go_wp2
    first | go_end0 | refine bodyPost_ret (results_none rfl _ _ _) rfl ?_
    refine ⟨(Below.refl _ _).alloc (Nat.le_refl _) _, Or.inr ⟨?_, rfl⟩⟩
    simp [bad, HO.out, HK.out]
theorem below_of_grown {w W w' : World} {b : Nat} (h : Below w.heap.size w W) (hg : W.grownBy w' (some b)) (hb : w.heap.size ≤ b) : Below w.heap.size w w' :=
  h.grown hg h.size (fun k e => by cases e; exact hb)
set_option maxHeartbeats 800000 in
theorem decode_any (w : World) (s : ByteArray) (hT : Tabs w) (hs : s.size ≤ 200) :
    Calls Tryz.prog 26 #[.string s] w fun r w' => Below w.heap.size w w' ∧
      ((∃ l v, dec s = .ok l ∧ l.length ≤ s.size ∧ r = .returned v ∧ w'.ownsRow w.heap.size 55 4 v l.length (cellsOf l)) ∨ (∃ e p, dec s = .error (e, p) ∧ r = .panicked [wrongV e p])) := by
  have hmf : ∀ (fn : Fn) (first cap : Array Value) (w : World), (Instr.makeFunc fn first cap).run Tryz.prog w = .ok (.func fn first cap) w := fun _ _ _ _ => rfl
  have h0 := hT.two
  have hB0 : Below w.heap.size w ((w.alloc (.cells #[.string s, .int .i64 0] 116)).alloc (.cells #[.string s, .int .i64 0] 119)) := ((Below.refl _ _).alloc (Nat.le_refl _) _).alloc (by simp) _
  go_enter Tryz.func26, Tryz.ntmps26
  go_wp2_with fail
  refine (newReader_any _ s).mono ?_
  rintro e w1 ⟨rfl, rfl⟩
  go_wp2_with fail
  refine (readAll_any _ (w.heap.size + 1) s ?_ (hT.below hB0) hs (by omega)).mono ?_
  · exact ⟨by simp, by simp, by simp⟩
  rintro e w1 ⟨hg, he⟩
  have hB := below_of_grown hB0 hg (by omega)
  rcases he with ⟨l, v, hsc, hll, rfl, hown⟩ | ⟨er, p, hsc, rfl⟩
  · have hok := scan_okay s _ _ _ _ (fun x hx => by cases hx) hsc
    have hT1 := hT.below hB
    have hh := own_holds hown
    have HS : Hid (scan s s.size 0 [] = .ok l) := hsc
    have HOW : Hid (w1.ownsRow w.heap.size 55 4 v l.length (cellsOf l)) := by
      refine ⟨hown.1, ?_⟩
      rcases hown.2 with h | ⟨g, cap, cur, h1, h2, h3⟩
      · exact Or.inl h
      · exact Or.inr ⟨g, cap, cur, h1, by simp at h2; omega, h3⟩
    clear hsc hown hg
    rcases hh with ⟨ao, cap, rfl, rfl⟩ | ⟨b, off, cap, rfl, hc, hh⟩
    · go_wp2_with fail
      go_loop [15] (fun i => i = .int .i64 0) (fun _ => 0)
      case atStart => rfl
      case round =>
        obtain rfl := hrel
        go_wp2_with fail
        go_ret
        exact ⟨hB, Or.inl ⟨[], dec_ok HS.out rfl, Nat.zero_le _, _, rfl, HOW.out⟩⟩
    · go_wp2_with fail
      go_loopw [15] (fun i wr => ∃ k : Nat, k ≤ l.length ∧ i = .int .i64 k ∧ Hid (firstBad l (l.drop k) = firstBad l l) ∧ Below w1.heap.size w1 wr) (fun i _ => l.length - (intOf i).toNat)
      case atStart => exact ⟨0, Nat.zero_le _, rfl, rfl, Below.refl _ _⟩
      case round =>
        obtain ⟨k, hk, rfl, HP, hBr⟩ := hrel
        have hsz := hBr.size
        by_cases hlt : k < l.length
        · have h' := hh.below hBr hh.lt
          have c0 := h'.c0 k hlt
          have c1 := h'.c1 k hlt
          have c2 := h'.c2 k hlt
          have c3 := h'.c3 k hlt
          obtain ⟨o, ho, hxo⟩ := hok _ (get4_mem l k hlt)
          have HXO : Hid ((get4 l k).op = o) := hxo
          clear hxo
          go_wp2_with fail
          refine (check_any _ _ l (get4 l k) ?_ (by omega) ?_ o ho HXO.out).mono ?_
          · exact Or.inr ⟨b, off, cap, rfl, hc, hh.below (hBr.alloc hsz _) hh.lt⟩
          · exact hT1.below (hBr.alloc hsz _)
          rintro e w2 ⟨hB2, he2⟩
          have hB3 : Below w1.heap.size w1 w2 := (hBr.alloc hsz _).trans (hB2.mono (by simp; omega))
          rcases he2 with ⟨hbad, rfl⟩ | ⟨hbad, rfl⟩
          · refine ⟨rfl, hB.trans (hB3.mono hB.size), Or.inr ⟨_, _, dec_bad HS.out (HP.out.symm.trans (firstBad_hit l k hlt hbad)), rfl⟩⟩
          · clear hB2
            go_wp2_with fail
            go_roundw
            case rel => exact ⟨k + 1, by omega, by go_num, (firstBad_miss l k hlt hbad).symm.trans HP.out, hB3⟩
            case measure => simp [intOf]; omega
        · go_wp2_with fail
          go_ret
          refine ⟨hB.trans (hBr.mono hB.size), Or.inl ⟨l, _, dec_ok HS.out (HP.out.symm.trans (firstBad_end l k hlt)), hll, rfl, ?_⟩⟩
          exact own_below HOW.out hBr
  · exact ⟨rfl, hB, Or.inr ⟨_, _, dec_err hsc, rfl⟩⟩
end Go.Proofs.YtfibgdcpbkaaoaaGreatDoor.Cd
/- The contracts of Caught and of what it defers. -/
namespace Go.Proofs.YtfibgdcpbkaaoaaGreatDoor.Cd
set_option maxRecDepth 100000
open Go.RowKit
theorem catch_idle (f : Addr) (w : World) :
    CallsD Tryz.prog 84 #[.pointer (some f)] .returning w fun e u' w' => e = .returned (.tuple #[]) ∧ u' = .returning ∧ w' = w := by
  refine callsD_of_wpS Tryz.func84 rfl fun c₀ cs hu => ?_
  apply wpS_seq
  apply wpS_region
  simp [wpOpsS, go_sem, recoverD, hu, Tryz.ntmps84, Exit.thenS]
  have e : (#[Value.pointer (some f)] ++ ((Array.replicate 16 undef).setIfInBounds 3 Value.nilIface).setIfInBounds 0 Value.nilIface) = #[.pointer (some f), .nilIface, undef, undef, .nilIface, undef, undef, undef, undef, undef, undef, undef, undef, undef, undef, undef, undef] := rfl
  rw [e]
  refine wpS_of_wp ?_
  go_wp2
  refine ⟨rfl, .returning, ?_, _, (results_none rfl _ _ _), rfl, rfl, rfl⟩
  cases c₀
  simp_all
theorem assert57 (x : Value) (w : World) : (Instr.typeAssert (.iface 140 x) 20 140 true).run Tryz.prog w = .ok (.tuple #[x, .bool true]) w := by kernel_rfl
theorem eqlNil (x : Value) (w : World) : (binOp BinOp.eql 20 (.iface 140 x) .nilIface).run Tryz.prog w = .ok (.bool false) w := by kernel_rfl
set_option maxHeartbeats 1000000 in
theorem catch_panicking (b : Nat) (x y : Value) (e p : Int) (w : World) (h0 : w.cell? ⟨b, 0, none⟩ = some x) (h1 : w.cell? ⟨b, 1, none⟩ = some y) (f0 : w.frozen? ⟨b, 0, none⟩ = false) (f1 : w.frozen? ⟨b, 1, none⟩ = false) :
    CallsD Tryz.prog 84 #[.pointer (some ⟨b, 0, none⟩)] (.panicking [wrongV e p]) w fun r u' w' => r = .returned (.tuple #[]) ∧ u' = .panicking [{ wrongV e p with recovered := true }] ∧
      w' = ((w.setCell ⟨b, 0, none⟩ (.int .i64 e)).setCell ⟨b, 1, none⟩ (.int .i64 p)).alloc (.cells #[.int .i64 e, .int .i64 p] 140) := by
  have hb : b < w.heap.size := World.block_lt_of_cell? w _ h0
  have k1 := assert57 (.agg #[.int .i64 e, .int .i64 p])
  have k2 := eqlNil (.agg #[.int .i64 e, .int .i64 p])
  refine callsD_of_wpS Tryz.func84 rfl fun c₀ cs hu => ?_
  apply wpS_seq
  apply wpS_region
  simp [wpOpsS, go_sem, recoverD, hu, Tryz.ntmps84, Exit.thenS]
  generalize hv : Value.iface 140 (.agg #[.int .i64 e, .int .i64 p]) = V
  have ee : (#[Value.pointer (some ⟨b, 0, none⟩)] ++ ((Array.replicate 16 undef).setIfInBounds 3 V).setIfInBounds 0 V) = #[.pointer (some ⟨b, 0, none⟩), V, undef, undef, V, undef, undef, undef, undef, undef, undef, undef, undef, undef, undef, undef, undef] := rfl
  rw [ee]
  clear ee
  subst hv
  refine wpS_of_wp ?_
  clear hu
  go_wp2_with fail
  exact ⟨rfl, _, rfl, _, results_none rfl _ _ _, rfl, rfl, rfl⟩
theorem fault_world (w1 : World) (N : Nat) (e p : Int) (o : Obj) {x y : Value} (n0 : w1.cell? ⟨N, 0, none⟩ = some x) (n1 : w1.cell? ⟨N, 1, none⟩ = some y) :
    w1.grownBy (((w1.setCell ⟨N, 0, none⟩ (.int .i64 e)).setCell ⟨N, 1, none⟩ (.int .i64 p)).alloc o) (some N) ∧
    (((w1.setCell ⟨N, 0, none⟩ (.int .i64 e)).setCell ⟨N, 1, none⟩ (.int .i64 p)).alloc o).cell? ⟨N, 0, none⟩ = some (.int .i64 e) ∧
    (((w1.setCell ⟨N, 0, none⟩ (.int .i64 e)).setCell ⟨N, 1, none⟩ (.int .i64 p)).alloc o).cell? ⟨N, 1, none⟩ = some (.int .i64 p) := by
  have hlt : N < w1.heap.size := World.block_lt_of_cell? w1 _ n0
  refine ⟨?_, ?_, ?_⟩
  · refine grown_alloc ?_ _
    refine grown_set ?_ _ _ (Or.inl rfl)
    refine grown_set ?_ _ _ (Or.inl rfl)
    exact World.grownBy.refl _ _
  · rw [World.cell?_alloc_past _ _ _ (by simpa [World.setCell] using hlt), World.cell?_setCell_other _ _ _ _ (by simp), World.cell?_setCell_same _ _ _ n0]
  · rw [World.cell?_alloc_past _ _ _ (by simpa [World.setCell] using hlt)]
    exact World.cell?_setCell_same _ _ _ ((World.cell?_setCell_other _ _ _ _ (by simp)).trans n1)
set_option maxHeartbeats 1000000 in
theorem caught_any (g : Nat) (cap : Array Value) (w : World) (Ok : World → Prop) (No : Int → Int → World → Prop) (hcf : ∀ w, (callFunc g cap).run Tryz.prog w = .ok (.enter g cap) w)
    (hc : Calls Tryz.prog g cap (w.alloc (.cells #[.int .i64 0, .int .i64 0] 46)) fun r w1 => w1.heap[w.heap.size]? = some (.cells #[.int .i64 0, .int .i64 0] 46 (0, 0)) ∧
      ((r = .returned (.tuple #[]) ∧ Ok w1) ∨ ∃ e p, r = .panicked [wrongV e p] ∧ No e p w1)) :
    Calls Tryz.prog 42 #[.func (.func g) #[] cap] w fun r w' => ∃ w1, w1.grownBy w' (some w.heap.size) ∧
      ((r = .returned (.agg #[.int .i64 0, .int .i64 0]) ∧ Ok w1) ∨ ∃ e p, r = .returned (.agg #[.int .i64 e, .int .i64 p]) ∧ No e p w1) := by
  have hmf : ∀ (fn : Fn) (first cap : Array Value) (w : World), (Instr.makeFunc fn first cap).run Tryz.prog w = .ok (.func fn first cap) w := fun _ _ _ _ => rfl
  have HC : Hid _ := hc
  clear hc
  go_enter_defers Tryz.func42, Tryz.ntmps42
  go_wp2_with fail
  refine Calls.mono HC.out ?_
  rintro r w1 ⟨hN, hr⟩
  have n0 : w1.cell? ⟨w.heap.size, 0, none⟩ = some (.int .i64 0) := by simp [World.cell?, hN]
  have n1 : w1.cell? ⟨w.heap.size, 1, none⟩ = some (.int .i64 0) := by simp [World.cell?, hN]
  have z0 : w1.frozen? ⟨w.heap.size, 0, none⟩ = false := by simp [World.frozen?, hN]
  have z1 : w1.frozen? ⟨w.heap.size, 1, none⟩ = false := by simp [World.frozen?, hN]
  clear hN
  rcases hr with ⟨rfl, hok⟩ | ⟨e, p, rfl, hno⟩
  · go_wp2_with fail
    refine leaves_cons (f := 84) (args := #[.pointer (some ⟨w.heap.size, 0, none⟩)]) (by simp) (by simp [go_sem]) ?_
    refine (catch_idle ⟨w.heap.size, 0, none⟩ _).mono ?_
    rintro r2 u' w'' ⟨rfl, rfl, rfl⟩
    show Leaves Tryz.prog Tryz.f42 _ _ [] FrameMode.returning _
    refine ⟨.agg #[.int .i64 0, .int .i64 0], ?_, w1, ?_, Or.inl ⟨rfl, hok⟩⟩
    · simp [results, Tryz.results42, go_sem, n0, n1]
    · exact grown_set (grown_set (World.grownBy.refl _ _) _ _ (Or.inl rfl)) _ _ (Or.inl rfl)
  · refine leaves_cons (f := 84) (args := #[.pointer (some ⟨w.heap.size, 0, none⟩)]) (by simp) (by simp [go_sem]) ?_
    refine (catch_panicking w.heap.size _ _ e p _ n0 n1 z0 z1).mono ?_
    rintro r2 u' w'' ⟨rfl, rfl, rfl⟩
    obtain ⟨hg, q0, q1⟩ := fault_world w1 w.heap.size e p _ n0 n1
    show Leaves Tryz.prog Tryz.f42 _ _ [] FrameMode.returning _
    generalize ((w1.setCell ⟨w.heap.size, 0, none⟩ (.int .i64 e)).setCell ⟨w.heap.size, 1, none⟩ (.int .i64 p)).alloc (.cells #[.int .i64 e, .int .i64 p] 140) = W2 at *
    refine ⟨.agg #[.int .i64 e, .int .i64 p], ?_, w1, hg, Or.inr ⟨e, p, rfl, hno⟩⟩
    simp [results, Tryz.results42, go_sem, q0, q1]
end Go.Proofs.YtfibgdcpbkaaoaaGreatDoor.Cd
/- The contract of Decode, whatever text it is handed. -/
namespace Go.Proofs.YtfibgdcpbkaaoaaGreatDoor.Cd
set_option maxRecDepth 100000
open Go.RowKit
theorem mkHid {p : Prop} (h : p) : Hid p := h
set_option maxHeartbeats 400000 in
theorem decode1_any (w : World) (s : ByteArray) (Ps : Nat) (hT : Tabs w) (hs : s.size ≤ 200) (hp : w.cell? ⟨Ps, 0, none⟩ = some (.string s)) :
    Calls Tryz.prog 25 #[.pointer (some ⟨Ps, 0, none⟩)] w fun r w' => Below w.heap.size w w' ∧
      ((∃ l v, dec s = .ok l ∧ l.length ≤ s.size ∧ r = .returned v ∧ w'.ownsRow w.heap.size 55 4 v l.length (cellsOf l)) ∨ (∃ e p, dec s = .error (e, p) ∧ r = .panicked [wrongV e p])) := by
  go_enter Tryz.func25, Tryz.ntmps25
  go_wp2_with fail
  refine (decode_any _ s hT hs).mono ?_
  rintro r w1 ⟨hB, hr⟩
  rcases hr with ⟨l, v, hd, hl, rfl, hown⟩ | ⟨e, p, hd, rfl⟩
  · have HD := mkHid hd
    have HB := mkHid hB
    have HO := mkHid hown
    have ho := hown.2
    clear hd hB hown
    rcases ho with ⟨rfl, hn⟩ | ⟨g, cap, cur, rfl, hrest⟩
    all_goals
      try clear hrest
      go_wp2_with fail
      go_ret
      exact ⟨HB.out, Or.inl ⟨l, _, HD.out, hl, rfl, HO.out⟩⟩
  · exact ⟨rfl, hB, Or.inr ⟨e, p, hd, rfl⟩⟩
set_option maxHeartbeats 400000 in
theorem made1_any (w : World) (s : ByteArray) (Pf Q Ps : Nat) (x : Value) (hT : Tabs w) (hs : s.size ≤ 200) (hpf : w.cell? ⟨Pf, 0, none⟩ = some (.func (.func 25) #[] #[.pointer (some ⟨Ps, 0, none⟩)])) (hps : w.cell? ⟨Ps, 0, none⟩ = some (.string s)) (hq : w.cell? ⟨Q, 0, none⟩ = some x) (hz : w.frozen? ⟨Q, 0, none⟩ = false) :
    Calls Tryz.prog 54 #[.pointer (some ⟨Pf, 0, none⟩), .pointer (some ⟨Q, 0, none⟩)] w fun r w' =>
      (r = .returned (.tuple #[]) ∧ ∃ l v, dec s = .ok l ∧ l.length ≤ s.size ∧ w'.cell? ⟨Q, 0, none⟩ = some v ∧ w'.ownsRow w.heap.size 55 4 v l.length (cellsOf l) ∧ w.grownBy w' (some Q)) ∨
      (∃ e p, r = .panicked [wrongV e p] ∧ dec s = .error (e, p) ∧ Below w.heap.size w w') := by
  have hQ : Q < w.heap.size := World.block_lt_of_cell? w _ hq
  go_enter Tryz.func54, Tryz.ntmps54
  go_wp2_with fail
  refine (decode1_any _ s Ps hT hs hps).mono ?_
  rintro r w1 ⟨hB, hr⟩
  rcases hr with ⟨l, v, hd, hl, rfl, hown⟩ | ⟨e, p, hd, rfl⟩
  · have hq1 : w1.cell? ⟨Q, 0, none⟩ = some x := (hB.cell (p := ⟨Q, 0, none⟩) hQ).trans hq
    have hz1 : w1.frozen? ⟨Q, 0, none⟩ = false := (hB.frozen (p := ⟨Q, 0, none⟩) hQ).trans hz
    have hg : w.grownBy (w1.setCell ⟨Q, 0, none⟩ v) (some Q) := grown_set ⟨hB.os, hB.tape, hB.output, hB.size, fun k hk _ => hB.block k hk⟩ _ _ (by simp)
    have hown' : (w1.setCell ⟨Q, 0, none⟩ v).ownsRow w.heap.size 55 4 v l.length (cellsOf l) := ownsRow_setCell_below hown (by simpa using hQ) _
    have hd' : Hid (dec s = .ok l) := hd
    have hc' := World.cell?_setCell_same w1 ⟨Q, 0, none⟩ v hq1
    rcases hown.2 with ⟨rfl, hn⟩ | ⟨g, cap, cur, rfl, hrest⟩
    all_goals
      clear hd hown
      have HG := mkHid hg
      have HO := mkHid hown'
      have HC := mkHid hc'
      clear hg hown' hc'
      go_wp2
      go_end0
      exact Or.inl ⟨rfl, l, _, hd'.out, hl, HC.out, HO.out, HG.out⟩
  · exact ⟨rfl, Or.inr ⟨e, p, rfl, hd, hB⟩⟩
theorem callMade1 (args : Array Value) (w : World) : (callFunc 54 args).run Tryz.prog w = .ok (.enter 54 args) w := by kernel_rfl
theorem own_lower {w : World} {B B' e size n : Nat} {v : Value} {xs : List Value} (h : w.ownsRow B e size v n xs) (hB : B' ≤ B) : w.ownsRow B' e size v n xs := by
  refine ⟨h.1, ?_⟩
  rcases h.2 with h | ⟨g, cap, cur, h1, h2, h3⟩
  · exact Or.inl h
  · exact Or.inr ⟨g, cap, cur, h1, Nat.le_trans hB h2, h3⟩
theorem afterMade (w w1 : World) (x : Value) (h : ((((w.alloc (.cells #[x] 82)).alloc (.cells #[.int .i64 0, .int .i64 0] 46)).alloc (.cells #[.slice none 0 0] 49)).alloc (.cells #[.int .i64 0, .int .i64 0] 46)).grownBy w1 (some (w.heap.size + 2))) :
    w1.heap[w.heap.size + 3]? = some (.cells #[.int .i64 0, .int .i64 0] 46 (0, 0)) ∧ Below w.heap.size w w1 ∧ w1.cell? ⟨w.heap.size + 1, 0, none⟩ = some (.int .i64 0) ∧ w1.cell? ⟨w.heap.size + 1, 1, none⟩ = some (.int .i64 0) ∧
      (∀ j, w1.frozen? ⟨w.heap.size + 1, j, none⟩ = false) ∧ w.heap.size + 4 ≤ w1.heap.size := by
  have hB0 : Below w.heap.size w ((((w.alloc (.cells #[x] 82)).alloc (.cells #[.int .i64 0, .int .i64 0] 46)).alloc (.cells #[.slice none 0 0] 49)).alloc (.cells #[.int .i64 0, .int .i64 0] 46)) :=
    ((((Below.refl _ _).alloc (Nat.le_refl _) _).alloc (by simp) _).alloc (by simp; omega) _).alloc (by simp; omega) _
  have hz : ((((w.alloc (.cells #[x] 82)).alloc (.cells #[.int .i64 0, .int .i64 0] 46)).alloc (.cells #[.slice none 0 0] 49)).alloc (.cells #[.int .i64 0, .int .i64 0] 46)).heap.size = w.heap.size + 4 := by simp
  refine ⟨?_, below_of_grown hB0 h (by omega), ?_, ?_, ?_, by rw [← hz]; exact h.size⟩
  · rw [h.block (w.heap.size + 3) (by omega) (by simp)]
    show ((((w.heap.push _).push _).push _).push _)[w.heap.size + 3]? = _
    rw [Array.getElem?_push, if_pos (by simp)]
  · exact h.cell (a := ⟨w.heap.size + 1, 0, none⟩) (by simp [go_sem]) (by simp)
  · exact h.cell (a := ⟨w.heap.size + 1, 1, none⟩) (by simp [go_sem]) (by simp)
  · intro j
    rw [World.frozen?_of_block (a := ⟨w.heap.size + 1, j, none⟩) (h.block (w.heap.size + 1) (by omega) (by simp))]
    simp [go_sem]
set_option maxHeartbeats 1000000 in
theorem Made_any (w : World) (s : ByteArray) (Ps : Nat) (hT : Tabs w) (hs : s.size ≤ 200) (hps : w.cell? ⟨Ps, 0, none⟩ = some (.string s)) :
    Calls Tryz.prog 24 #[.func (.func 25) #[] #[.pointer (some ⟨Ps, 0, none⟩)]] w fun r w' => Below w.heap.size w w' ∧
      ((∃ l v, dec s = .ok l ∧ l.length ≤ s.size ∧ r = .returned (.tuple #[v, .agg #[.int .i64 0, .int .i64 0]]) ∧ w'.ownsRow w.heap.size 55 4 v l.length (cellsOf l)) ∨
       (∃ e p, dec s = .error (e, p) ∧ r = .returned (.tuple #[.slice none 0 0, .agg #[.int .i64 e, .int .i64 p]]))) := by
  have hmf : ∀ (fn : Fn) (first cap : Array Value) (w : World), (Instr.makeFunc fn first cap).run Tryz.prog w = .ok (.func fn first cap) w := fun _ _ _ _ => rfl
  have hP : Ps < w.heap.size := World.block_lt_of_cell? w _ hps
  have hB0 : Below w.heap.size w (((w.alloc (.cells #[.func (.func 25) #[] #[.pointer (some ⟨Ps, 0, none⟩)]] 82)).alloc (.cells #[.int .i64 0, .int .i64 0] 46)).alloc (.cells #[.slice none 0 0] 49)) := (((Below.refl _ _).alloc (Nat.le_refl _) _).alloc (by simp) _).alloc (by simp; omega) _
  have hB1 := hB0.alloc hB0.size (.cells #[.int .i64 0, .int .i64 0] 46)
  go_enter Tryz.func24, Tryz.ntmps24
  go_wp2_with fail
  refine (caught_any 54 _ _ (fun w1 => ∃ l v, dec s = .ok l ∧ l.length ≤ s.size ∧ w1.cell? ⟨w.heap.size + 2, 0, none⟩ = some v ∧ w1.ownsRow (w.heap.size + 4) 55 4 v l.length (cellsOf l) ∧ Below w.heap.size w w1 ∧
    (∃ x y, w1.cell? ⟨w.heap.size + 1, 0, none⟩ = some x ∧ w1.cell? ⟨w.heap.size + 1, 1, none⟩ = some y) ∧ (∀ j, w1.frozen? ⟨w.heap.size + 1, j, none⟩ = false) ∧ w.heap.size + 4 ≤ w1.heap.size)
    (fun e p w1 => dec s = .error (e, p) ∧ w1.cell? ⟨w.heap.size + 2, 0, none⟩ = some (.slice none 0 0) ∧ Below w.heap.size w w1 ∧
    (∃ x y, w1.cell? ⟨w.heap.size + 1, 0, none⟩ = some x ∧ w1.cell? ⟨w.heap.size + 1, 1, none⟩ = some y) ∧ (∀ j, w1.frozen? ⟨w.heap.size + 1, j, none⟩ = false) ∧ w.heap.size + 4 ≤ w1.heap.size) (callMade1 _) ?hc).mono ?_
  case hc =>
    refine (made1_any _ s w.heap.size (w.heap.size + 2) Ps (.slice none 0 0) (hT.below hB1) hs (by simp [go_sem]) ((hB1.cell (p := ⟨Ps, 0, none⟩) hP).trans hps) (by simp [go_sem]) (by simp [go_sem])).mono ?_
    rintro r w1 (⟨rfl, l, v, hd, hl, hc, ho, hg⟩ | ⟨e, p, rfl, hd, hb⟩)
    · obtain ⟨a1, a2, a3, a4, a5, a6⟩ := afterMade w w1 _ hg
      refine ⟨by simpa using a1, Or.inl ⟨rfl, l, v, hd, hl, hc, ?_, a2, ⟨.int .i64 0, .int .i64 0, a3, a4⟩, a5, a6⟩⟩
      exact own_lower ho (by simp)
    · have hg2 : World.grownBy _ w1 (some (w.heap.size + 2)) := ⟨hb.os, hb.tape, hb.output, hb.size, fun k hk _ => hb.block k hk⟩
      obtain ⟨a1, a2, a3, a4, a5, a6⟩ := afterMade w w1 _ hg2
      refine ⟨by simpa using a1, Or.inr ⟨e, p, rfl, hd, ?_, a2, ⟨.int .i64 0, .int .i64 0, a3, a4⟩, a5, a6⟩⟩
      exact (hb.cell (p := ⟨w.heap.size + 2, 0, none⟩) (by simp)).trans (by simp [go_sem])
  rintro r w2 ⟨w1, hg, hr⟩
  have hz : (((w.alloc (.cells #[.func (.func 25) #[] #[.pointer (some ⟨Ps, 0, none⟩)]] 82)).alloc (.cells #[.int .i64 0, .int .i64 0] 46)).alloc (.cells #[.slice none 0 0] 49)).heap.size = w.heap.size + 3 := by simp
  rw [hz] at hg
  clear hB0 hB1 hz
  rcases hr with ⟨rfl, l, v, hd, hl, hc, ho, hB, ⟨x, y, hx, hy⟩, hfz, hsz⟩ | ⟨e, p, rfl, hd, hc, hB, ⟨x, y, hx, hy⟩, hfz, hsz⟩
  · have c4 : w2.cell? ⟨w.heap.size + 1 + 1, 0, none⟩ = some v := hg.cell hc (by simp)
    have c30 : w2.cell? ⟨w.heap.size + 1, 0, none⟩ = some x := hg.cell hx (by simp)
    have c31 : w2.cell? ⟨w.heap.size + 1, 1, none⟩ = some y := hg.cell hy (by simp)
    have z3 : ∀ j, w2.frozen? ⟨w.heap.size + 1, j, none⟩ = false := fun j => (World.frozen?_of_block (a := ⟨w.heap.size + 1, j, none⟩) (hg.block (w.heap.size + 1) (by omega) (by simp))).trans (hfz j)
    have hsz2 : w.heap.size + 4 ≤ w2.heap.size := Nat.le_trans hsz hg.size
    have hlt1 : w.heap.size + 1 < w2.heap.size := by omega
    have hlt2 : w.heap.size + 1 + 1 < w2.heap.size := by omega
    have HD := mkHid hd
    have hB2 : Below w.heap.size w w2 := below_of_grown hB hg (by omega)
    have ho2 : w2.ownsRow w.heap.size 55 4 v l.length (cellsOf l) := own_lower (ho.kept hg (own_ne ho (by omega))) (by omega)
    have HO := mkHid ho2
    have HO4 := mkHid ho
    have ho3 := ho2.2
    clear hd hc hx hy hfz hg hB ho ho2
    rcases ho3 with ⟨rfl, hn⟩ | ⟨g, cap, cur, rfl, hrest⟩
    all_goals
      try clear hrest
      go_wp2_with fail
      go_region
      all_goals
        go_wp2
        obtain ⟨hg, q0, q1⟩ := fault_world w2 (w.heap.size + 1) 0 0 (.cells #[.int .i64 0, .int .i64 0] 46) c30 c31
        have hB3 := below_of_grown hB2 hg (by omega)
        have ho3 := World.ownsRow.kept HO.out hg (own_ne HO4.out (by omega))
        generalize ((w2.setCell ⟨w.heap.size + 1, 0, none⟩ (.int .i64 0)).setCell ⟨w.heap.size + 1, 1, none⟩ (.int .i64 0)).alloc (.cells #[.int .i64 0, .int .i64 0] 46) = W3 at *
        exact bodyPost_ret (v := .tuple #[_, .agg #[.int .i64 0, .int .i64 0]]) (by simp [results, Tryz.results24, go_sem, q0, q1]) rfl ⟨hB3.drew, Or.inl ⟨l, _, HD.out, hl, rfl, ho3⟩⟩
  · have c4 : w2.cell? ⟨w.heap.size + 1 + 1, 0, none⟩ = some (.slice none 0 0) := hg.cell hc (by simp)
    have c30 : w2.cell? ⟨w.heap.size + 1, 0, none⟩ = some x := hg.cell hx (by simp)
    have c31 : w2.cell? ⟨w.heap.size + 1, 1, none⟩ = some y := hg.cell hy (by simp)
    have z3 : ∀ j, w2.frozen? ⟨w.heap.size + 1, j, none⟩ = false := fun j => (World.frozen?_of_block (a := ⟨w.heap.size + 1, j, none⟩) (hg.block (w.heap.size + 1) (by omega) (by simp))).trans (hfz j)
    have hsz2 : w.heap.size + 4 ≤ w2.heap.size := Nat.le_trans hsz hg.size
    have hlt1 : w.heap.size + 1 < w2.heap.size := by omega
    have hlt2 : w.heap.size + 1 + 1 < w2.heap.size := by omega
    have HD := mkHid hd
    have hB2 : Below w.heap.size w w2 := below_of_grown hB hg (by omega)
    clear hd hc hx hy hfz hg hB
    go_wp2_with fail
    go_region
    all_goals
      go_wp2
      obtain ⟨hg, q0, q1⟩ := fault_world w2 (w.heap.size + 1) e p (.cells #[.int .i64 e, .int .i64 p] 46) c30 c31
      have hB3 := below_of_grown hB2 hg (by omega)
      generalize ((w2.setCell ⟨w.heap.size + 1, 0, none⟩ (.int .i64 e)).setCell ⟨w.heap.size + 1, 1, none⟩ (.int .i64 p)).alloc (.cells #[.int .i64 e, .int .i64 p] 46) = W3 at *
      exact bodyPost_ret (v := .tuple #[.slice none 0 0, .agg #[.int .i64 e, .int .i64 p]]) (by simp [results, Tryz.results24, go_sem, q0, q1]) rfl ⟨hB3.drew, Or.inr ⟨e, p, HD.out, rfl⟩⟩
def full (s : ByteArray) : Except (Int × Int) (List Op4) := if 200 < s.size then .error (2, 0) else if s.size = 0 then .error (1, 0) else dec s
theorem fault_set (w1 : World) (N : Nat) (e p : Int) {x y : Value} (n0 : w1.cell? ⟨N, 0, none⟩ = some x) (n1 : w1.cell? ⟨N, 1, none⟩ = some y) :
    w1.grownBy ((w1.setCell ⟨N, 0, none⟩ (.int .i64 e)).setCell ⟨N, 1, none⟩ (.int .i64 p)) (some N) ∧
    ((w1.setCell ⟨N, 0, none⟩ (.int .i64 e)).setCell ⟨N, 1, none⟩ (.int .i64 p)).cell? ⟨N, 0, none⟩ = some (.int .i64 e) ∧
    ((w1.setCell ⟨N, 0, none⟩ (.int .i64 e)).setCell ⟨N, 1, none⟩ (.int .i64 p)).cell? ⟨N, 1, none⟩ = some (.int .i64 p) := by
  refine ⟨?_, ?_, ?_⟩
  · refine grown_set ?_ _ _ (Or.inl rfl)
    refine grown_set ?_ _ _ (Or.inl rfl)
    exact World.grownBy.refl _ _
  · rw [World.cell?_setCell_other _ _ _ _ (by simp), World.cell?_setCell_same _ _ _ n0]
  · exact World.cell?_setCell_same _ _ _ ((World.cell?_setCell_other _ _ _ _ (by simp)).trans n1)
set_option maxHeartbeats 1000000 in
theorem Decode_any (w : World) (s : ByteArray) (hT : Tabs w) (hs : s.size ≤ maxLen) :
    Calls Tryz.prog 10 #[.string s] w fun r w' => Below w.heap.size w w' ∧
      ((∃ l v, full s = .ok l ∧ l.length ≤ 200 ∧ r = .returned (.tuple #[v, .agg #[.int .i64 0, .int .i64 0]]) ∧ w'.ownsRow w.heap.size 55 4 v l.length (cellsOf l)) ∨
       (∃ e p, full s = .error (e, p) ∧ r = .returned (.tuple #[.slice none 0 0, .agg #[.int .i64 e, .int .i64 p]]))) := by
  have hmf : ∀ (fn : Fn) (first cap : Array Value) (w : World), (Instr.makeFunc fn first cap).run Tryz.prog w = .ok (.func fn first cap) w := fun _ _ _ _ => rfl
  have hs' := hs
  unfold maxLen at hs'
  have hB0 : Below w.heap.size w ((w.alloc (.cells #[.string s] 9)).alloc (.cells #[.int .i64 0, .int .i64 0] 46)) := ((Below.refl _ _).alloc (Nat.le_refl _) _).alloc (by simp) _
  by_cases h1 : 200 < s.size
  · have hf : Hid (full s = .error (2, 0)) := by show full s = _; simp [full, h1]
    have h1' : (200 : Int) < s.size := by omega
    go_enter Tryz.func10, Tryz.ntmps10
    go_wp2
    refine bodyPost_ret (v := .tuple #[.slice none 0 0, .agg #[.int .i64 2, .int .i64 0]]) (by simp [results, Tryz.results10, go_sem]) rfl ⟨?_, Or.inr ⟨_, _, hf.out, rfl⟩⟩
    exact ((Below.refl _ _).alloc (Nat.le_refl _) _).alloc (by simp) _
  · by_cases h2 : s.size = 0
    · have hf : Hid (full s = .error (1, 0)) := by show full s = _; simp [full, h2]
      have h2' : ((s.size : Int) == 0) = true := beq_iff_eq.2 (by omega)
      have h1' : ¬ (200 : Int) < s.size := by omega
      clear h2
      go_enter Tryz.func10, Tryz.ntmps10
      go_wp2
      refine bodyPost_ret (v := .tuple #[.slice none 0 0, .agg #[.int .i64 1, .int .i64 0]]) (by simp [results, Tryz.results10, go_sem]) rfl ⟨?_, Or.inr ⟨_, _, hf.out, rfl⟩⟩
      exact ((Below.refl _ _).alloc (Nat.le_refl _) _).alloc (by simp) _
    · have HF : Hid (full s = dec s) := by show full s = _; simp only [full, h1, h2, if_false]
      have h2' : ((s.size : Int) == 0) = false := beq_eq_false_iff_ne.2 (by omega)
      have h1' : ¬ (200 : Int) < s.size := by omega
      clear h2
      go_enter Tryz.func10, Tryz.ntmps10
      go_wp2_with fail
      refine (Made_any _ s w.heap.size (hT.below hB0) (by omega) (by simp [go_sem])).mono ?_
      rintro r w1 ⟨hb, hr⟩
      have c0 : w1.cell? ⟨w.heap.size + 1, 0, none⟩ = some (.int .i64 0) := (hb.cell (p := ⟨w.heap.size + 1, 0, none⟩) (by simp)).trans (by simp [go_sem])
      have c1 : w1.cell? ⟨w.heap.size + 1, 1, none⟩ = some (.int .i64 0) := (hb.cell (p := ⟨w.heap.size + 1, 1, none⟩) (by simp)).trans (by simp [go_sem])
      have z0 : w1.frozen? ⟨w.heap.size + 1, 0, none⟩ = false := (hb.frozen (p := ⟨w.heap.size + 1, 0, none⟩) (by simp)).trans (by simp [go_sem])
      have z1 : w1.frozen? ⟨w.heap.size + 1, 1, none⟩ = false := (hb.frozen (p := ⟨w.heap.size + 1, 1, none⟩) (by simp)).trans (by simp [go_sem])
      have hsz : w.heap.size + 1 < w1.heap.size := World.block_lt_of_cell? w1 _ c0
      have hB : Below w.heap.size w w1 := hB0.trans (hb.mono (by simp; omega))
      rcases hr with ⟨l, v, hd, hl, rfl, ho⟩ | ⟨e, p, hd, rfl⟩
      · obtain ⟨hg, q0, q1⟩ := fault_set w1 (w.heap.size + 1) 0 0 c0 c1
        have HD := mkHid hd
        have HO := mkHid (own_lower (ho.kept hg (own_ne ho (by simp))) (B' := w.heap.size) (by simp; omega))
        have HB := mkHid (below_of_grown hB hg (by omega))
        have HQ := mkHid (And.intro q0 q1)
        have ho3 := ho.2
        clear hd hb hB hg ho q0 q1 hB0
        rcases ho3 with ⟨rfl, hn⟩ | ⟨g, cap, cur, rfl, hrest⟩
        all_goals
          try clear hrest
          go_wp2
          obtain ⟨q0, q1⟩ := HQ.out
          refine bodyPost_ret (v := .tuple #[_, .agg #[.int .i64 0, .int .i64 0]]) (by simp [results, Tryz.results10, go_sem, q0, q1]) rfl ⟨HB.out, Or.inl ⟨l, _, HF.out.trans HD.out, by omega, rfl, HO.out⟩⟩
      · obtain ⟨hg, q0, q1⟩ := fault_set w1 (w.heap.size + 1) e p c0 c1
        have HD := mkHid hd
        have HB := mkHid (below_of_grown hB hg (by omega))
        have HQ := mkHid (And.intro q0 q1)
        clear hd hb hB hg q0 q1 hB0
        go_wp2
        obtain ⟨q0, q1⟩ := HQ.out
        refine bodyPost_ret (v := .tuple #[.slice none 0 0, .agg #[.int .i64 e, .int .i64 p]]) (by simp [results, Tryz.results10, go_sem, q0, q1]) rfl ⟨HB.out, Or.inr ⟨e, p, HF.out.trans HD.out, rfl⟩⟩
end Go.Proofs.YtfibgdcpbkaaoaaGreatDoor.Cd
/- What must be in any case: the example of the document, decoded. -/
namespace Go.Proofs.YtfibgdcpbkaaoaaGreatDoor.Cd
set_option maxRecDepth 100000
open Go.RowKit
def exBytes : ByteArray := { data := #[1, 255, 254, 13, 0, 3] }
def exOps : List Op4 := [⟨0, 1, -2, 0⟩, ⟨3, 13, 3, 0⟩]
theorem full_ex : full exBytes = .ok exOps := by kernel_rfl
theorem place_ex : place exOps 3 0 = some 1 := by rfl
set_option maxHeartbeats 1000000 in
theorem begun_any (w : World) (hT : Tabs w) : Calls Tryz.prog 6 #[] w fun r w' => r = .returned (.bool true) ∧ Below w.heap.size w w' := by
  go_enter Tryz.func6, Tryz.ntmps6
  go_wp2_with fail
  refine (Decode_any _ exBytes hT (by decide)).mono ?_
  rintro r w1 ⟨hB, hr⟩
  rw [full_ex] at hr
  rcases hr with ⟨l, v, hl, hlen, rfl, hown⟩ | ⟨e, p, he, _⟩
  · have el : exOps = l := Except.ok.inj hl
    subst el
    have hh := own_holds hown
    rcases hh with ⟨ao, cap, rfl, h0⟩ | ⟨b, off, cap, rfl, hc, hh⟩
    · cases h0
    have hlt := hh.lt
    have c2 : w1.cell? ⟨b, off + 2, none⟩ = some (.int .i64 (-2)) := hh.c2 0 (by decide)
    have HH := hh.below ((Below.refl _ w1).alloc (Nat.le_refl _) (.cells #[.int .i64 0, .int .i64 0] 46)) hh.lt
    have hlen2 : exOps.length = 2 := rfl
    rw [hlen2]
    go_wp2_with fail
    refine (place_any _ b off cap exOps 3 ?_ (by decide) (by simpa using hc)).mono ?_
    · exact HH
    rintro r w2 ⟨rfl, hB2⟩
    rw [placeN_some place_ex, placeE_some place_ex]
    have d0 : w2.cell? ⟨w1.heap.size, 0, none⟩ = some (.int .i64 0) := (hB2.cell (p := ⟨w1.heap.size, 0, none⟩) (by simp)).trans (by simp)
    have d2 : w2.cell? ⟨b, off + 2, none⟩ = some (.int .i64 (-2)) := (hB2.cell (p := ⟨b, off + 2, none⟩) (by simp; omega)).trans (by rw [World.cell?_alloc_past _ _ _ hlt]; exact c2)
    have hB3 : Below w.heap.size w w2 := (hB.alloc hB.size _).trans (hB2.mono (by have := hB.size; simp; omega))
    clear c2 HH hB hB2 hh hown
    go_wp2_with fail
    go_ret
    exact ⟨rfl, hB3⟩
  · cases he
end Go.Proofs.YtfibgdcpbkaaoaaGreatDoor.Cd
