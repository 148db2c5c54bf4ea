/- The contract of a web's method that makes a class's line. -/
import Derived.Test.YtkpklkhkhhlifacGreatLLine
namespace Go.Proofs.YtkpklkhkhhlifacGreat
open Go.RowKit Go.Sort

theorem Tryz.infoInt : (Tryz.prog.info? 3).map (fun i => (i.zero, i.size, i.bytes)) = some (some (.int .i64 0), 1, 8) := by kernel_rfl
theorem own_shape {w : World} {B e n len : Nat} {v : Value} {xs : List Value} (h : w.ownsRow B e n v len xs) : ∃ a c, v = .slice a len c := by
  rcases h.2 with ⟨rfl, rfl⟩ | ⟨g, cap, cur, rfl, _⟩
  · exact ⟨_, _, rfl⟩
  · exact ⟨_, _, rfl⟩
def ints (ns : List Nat) : List Value := ns.map fun x : Nat => Value.int .i64 (x : Int)
theorem heap_putRow (w : World) (g n : Nat) (d : Array Int) (k : Nat) (hk : k ≠ g) : (putRow encI (Sort.ahead w n) g 0 d).heap[k]? = w.heap[k]? := by
  show (w.heap.modify g _)[k]? = _
  rw [Array.getElem?_modify, if_neg (fun e => hk e.symm)]
theorem heap_putRow_own (w : World) (g n t : Nat) (d : Array Int) (cur : Array Value) (fr : Nat × Nat) (h : w.heap[g]? = some (.cells cur t fr)) : ∃ cur', (putRow encI (Sort.ahead w n) g 0 d).heap[g]? = some (.cells cur' t fr) := by
  show ∃ cur', (w.heap.modify g _)[g]? = _
  rw [Array.getElem?_modify, if_pos rfl, h]
  exact ⟨_, rfl⟩
theorem reverse_any (w : World) (B g cap : Nat) (ns : List Nat) (hl : ns.length ≤ 100) (hown : w.ownsRow B 3 1 (.slice (some ⟨g, 0, none⟩) ns.length cap) ns.length (ints ns)) :
    Calls Tryz.prog 68 #[.slice (some ⟨g, 0, none⟩) ns.length cap] w fun e w' => e = .returned (.tuple #[]) ∧ w.grownBy w' (some g) ∧ SL 1 RO (MT B [3] w') w' (.slice (some ⟨g, 0, none⟩) ns.length cap) ns.reverse := by
  have hsz : (ns.map fun x : Nat => (x : Int)).toArray.size = ns.length := by simp
  obtain ⟨cur, hb, hBg, hcap⟩ : ∃ cur, w.heap[g]? = some (.cells cur 3 (0, 0)) ∧ B ≤ g ∧ ns.length ≤ cap := by
    rcases hown.2 with ⟨e, _⟩ | ⟨g', cap', cur, e, hBg, hb, hc, _⟩
    · cases e
    · cases e
      exact ⟨cur, hb, hBg, hc⟩
  have hlt : g < w.heap.size := (Array.getElem?_eq_some_iff.1 hb).1
  have hH : Holds encI w g 0 (ns.map fun x : Nat => (x : Int)).toArray := by
    intro j hj
    rw [hsz] at hj
    refine ⟨?_, by simp [World.frozen?, hb]⟩
    rw [Nat.zero_add, hown.cellAt j (by omega)]
    simp [ints, encI, getElem!_pos, hj]
  have h := reverse_arr g 0 cap (ns.map fun x : Nat => (x : Int)).toArray w hH (by rw [hsz]; omega)
  rw [hsz] at h
  refine h.mono ?_
  rintro e w' ⟨rfl, n, rfl⟩
  obtain ⟨cur', hb'⟩ := heap_putRow_own w g n 3 (ns.map fun x : Nat => (x : Int)).toArray.reverse cur (0, 0) hb
  refine ⟨rfl, ⟨rfl, rfl, rfl, by simp [putRow, mapBlock, Sort.ahead], fun k _ hk => heap_putRow w g n _ k (fun e => hk (by rw [e]))⟩, ?_⟩
  have hH' := holds_putRow encI (Sort.ahead w n) g 0 _ (ns.map fun x : Nat => (x : Int)).toArray.reverse (holds_ahead encI w n g 0 _ hH) (by simp)
  refine ⟨some ⟨g, 0, none⟩, cap, by simp, by simpa using hcap, by unfold maxLen; simp; omega, fun k hk => ?_⟩
  have hk' : k < ns.length := by simpa using hk
  refine ⟨g, 0, [.int .i64 (ns.reverse[k] : Nat)], rfl, ⟨hBg, cur', _, _, hb', by simp⟩, (Array.getElem?_eq_some_iff.1 hb').1, rfl, fun j hj => ?_, rfl⟩
  have hj0 : j = 0 := by omega
  subst hj0
  have := (hH' k (by simp; omega)).1
  simp only [Nat.zero_add, Nat.mul_one, Nat.add_zero] at this ⊢
  rw [this]
  simp [encI, getElem!_pos, hk']

theorem sup_bd (l : List ClassD) (n : Nat) : -1 ≤ supAt l n ∧ supAt l n < l.length := num_le _ _
theorem climb_end {l : List ClassD} {m : Int} (hm : ¬ 0 ≤ m) : ∀ f, climb l f m = []
  | 0 => rfl
  | f + 1 => by rw [climb, if_neg hm]
theorem climb_go {l : List ClassD} {m : Int} (f : Nat) (hm : 0 ≤ m) : climb l (f + 1) m = m.toNat :: climb l f (supAt l m.toNat) := by rw [climb, if_pos hm]

set_option maxHeartbeats 4000000 in
theorem line_any (w : World) (B b : Nat) (l : List ClassD) (n : Nat) (hn : n < l.length) (ao : Option Addr) (cl : Nat) (vS : Value) (c0 : w.cell? ⟨b, 0, none⟩ = some (.slice ao l.length cl)) (c1 : w.cell? ⟨b, 1, none⟩ = some vS)
    (sS : SL 1 RI (· < B) w vS ((List.range l.length).map (supAt l))) (hB : B ≤ w.heap.size) (hN : l.length ≤ 10) :
    Calls Tryz.prog 40 #[.pointer (some ⟨b, 0, none⟩), .int .i64 n] w fun r w' => Below w.heap.size w w' ∧ ∃ v, r = .returned v ∧ SL 1 RO (MT w.heap.size [3] w') w' v (lineOf l n) := by
  obtain ⟨iI, hiI, hzI0, hzI1, hzI2⟩ := info_parts Tryz.infoInt
  have hbl : b < w.heap.size := World.block_lt_of_cell? w _ c0
  have HLS : Hid (∀ k, k < l.length → ∀ (h : k < ((List.range l.length).map (supAt l)).length), ((List.range l.length).map (supAt l))[k] = supAt l k) := fun k _ h => by simp
  have hlen : ((List.range l.length).map (supAt l)).length = l.length := by simp
  have HLEN := mkHid hlen
  clear hlen
  generalize (List.range l.length).map (supAt l) = LS at *
  have HS := mkHid sS
  obtain ⟨aS, cS, rfl, -⟩ := sS
  rw [HLEN.out] at c1
  have HCL : Hid (lineOf l n = (climb l (l.length + 1) n).reverse) := rfl
  go_enter Tryz.func40, Tryz.ntmps40
  go_wp2_with fail
  go_loopg [5, 6] (l.length + 1) (fun f v i wr => ∃ (acc : List Nat) (m : Int), i = .int .i64 m ∧ -1 ≤ m ∧ m < l.length ∧ acc.length + f = l.length + 1 ∧ Hid (climb l (l.length + 1) n = acc ++ climb l f m) ∧ Hid (acc = [] → m = n) ∧ wr.ownsRow w.heap.size 3 1 v acc.length (ints acc) ∧ Below w.heap.size w wr)
  case atStart => exact ⟨[], n, rfl, by omega, by omega, by simp, rfl, fun _ => rfl, World.ownsRow_nil _ _ _ _, Below.refl _ _⟩
  case round =>
    rename Nat => f
    obtain ⟨acc, m, rfl, hm1, hm2, hf, HP, HE, hown, hBr⟩ := hrel
    obtain ⟨a5, c5, rfl⟩ := own_shape hown
    have d0 : wr.cell? ⟨b, 0, none⟩ = some (.slice ao l.length cl) := (hBr.cell (p := ⟨b, 0, none⟩) hbl).trans c0
    have hsr := hBr.size
    by_cases h0 : 0 ≤ m ∧ 0 < f
    · obtain ⟨h0, hf0⟩ := h0
      obtain ⟨f', rfl⟩ : ∃ f', f = f' + 1 := ⟨f - 1, by omega⟩
      have hal : (acc.length : Int) ≤ l.length := by omega
      have HOW := mkHid hown
      have HBB : Hid (acc.length + 1 ≤ maxLen ∧ (acc.length + 1) * 8 ≤ 140737488355328 ∧ w.heap.size ≤ (wr.alloc (.cells #[.int .i64 m] 3)).heap.size) := ⟨by unfold maxLen; omega, by omega, by simp; omega⟩
      go_wp2_with (at_builtin; refine wpList_append_lies _ rfl _ _ 24 rfl w.heap.size 3 iI (.int .i64 0) 1 8 Tryz.underlying24 hiI hzI0 hzI1 hzI2 rfl (by decide) (.slice a5 acc.length c5) acc.length (ints acc) rfl (HOW.out.alloc _) ⟨wr.heap.size, 0, none⟩ 1 1 [.int .i64 m] rfl rfl (World.news_of_block (heap_alloc_new wr _)) (by intro u hu; simp at hu; subst hu; rfl) (by omega) HBB.out.1 HBB.out.2.1 HBB.out.2.2 _ rfl ?_)
      intro g cap w1 hown1 hgr1 hat1 hlt1
      have hrb : ∀ k, (Value.slice a5 acc.length c5).ownBlock = some k → w.heap.size ≤ k := fun k e => (HOW.out.lt k e).1
      have hB1 : Below w.heap.size w w1 := (hBr.alloc hsr _).grown hgr1 (by simp; omega) (fun k e => hrb k e)
      have f1 : w1.cell? ⟨b, 1, none⟩ = some (.slice aS l.length cS) := (hB1.cell (p := ⟨b, 1, none⟩) hbl).trans c1
      obtain ⟨mn, rfl⟩ := Int.eq_ofNat_of_zero_le h0
      have hmn : mn < l.length := by omega
      have hmL : mn < LS.length := by rw [HLEN.out]; exact hmn
      obtain ⟨bs, os, rfl, hbs, es⟩ := (HS.out.keptI (Kp.below (hB1.mono hB))).atI mn hmL
      rw [HLS.out mn hmn hmL] at es
      have HX := mkHid (And.intro hown1 hB1)
      have hi0 : (0 : Int) ≤ mn := by omega
      have hi1 : (mn : Int) < l.length := by omega
      clear hown1 hgr1 hat1 hrb hown d0 hBr hB1
      go_wp2_with fail
      go_roundg f'
      case measure => omega
      case rel =>
        obtain ⟨hown1, hB1⟩ := HX.out
        have hsb := sup_bd l mn
        refine ⟨acc ++ [mn], supAt l mn, rfl, hsb.1, hsb.2, by simp; omega, ?_, ?_, ?_, hB1⟩
        · show _ = _
          rw [HP.out, climb_go f' (by omega)]
          simp
        · exact fun e => by simp at e
        · rw [List.length_append]
          have : ints (acc ++ [mn]) = ints acc ++ [.int .i64 (mn : Int)] := by simp [ints]
          rw [this]
          exact hown1
    · have hne : acc ≠ [] := fun e => by
        have := HE.out e
        subst e
        simp at hf
        omega
      have HA : Hid (climb l (l.length + 1) n = acc) := by
        show _ = _
        rw [HP.out]
        by_cases hm : 0 ≤ m
        · have : f = 0 := by omega
          subst this
          simp [climb]
        · rw [climb_end hm]
          simp
      have hg : a5 = none → False := by
        intro e
        subst e
        rcases hown.2 with ⟨e, h⟩ | ⟨g, _, _, e, _⟩
        · exact hne (List.eq_nil_of_length_eq_zero h)
        · cases e
      obtain ⟨g, hg5, hgw⟩ : ∃ g, a5 = some ⟨g, 0, none⟩ ∧ w.heap.size ≤ g := by
        rcases hown.2 with ⟨e, h⟩ | ⟨g, _, _, e, h, _⟩
        · exact (hg (Value.slice.inj e).1).elim
        · exact ⟨g, (Value.slice.inj e).1, h⟩
      subst hg5
      have HOW := mkHid hown
      have HBr := mkHid hBr
      have hl100 : acc.length ≤ 100 := by omega
      clear hown hg hne hBr
      by_cases hm : 0 ≤ m
      · have hal : ¬ (acc.length : Int) ≤ l.length := by omega
        clear h0
        go_wp2_with fail
        refine (reverse_any _ w.heap.size g c5 acc hl100 HOW.out).mono ?_
        rintro r w2 ⟨rfl, hg2, sv⟩
        have HB2 := mkHid (HBr.out.grown hg2 HBr.out.size (fun k e => by cases e; exact hgw))
        have SV := mkHid sv
        clear hg2 sv
        go_wp2_with fail
        go_ret
        exact ⟨HB2.out, _, rfl, by rw [HCL.out, HA.out]; exact SV.out⟩
      · clear h0
        go_wp2_with fail
        refine (reverse_any _ w.heap.size g c5 acc hl100 HOW.out).mono ?_
        rintro r w2 ⟨rfl, hg2, sv⟩
        have HB2 := mkHid (HBr.out.grown hg2 HBr.out.size (fun k e => by cases e; exact hgw))
        have SV := mkHid sv
        clear hg2 sv
        go_wp2_with fail
        go_ret
        exact ⟨HB2.out, _, rfl, by rw [HCL.out, HA.out]; exact SV.out⟩
end Go.Proofs.YtkpklkhkhhlifacGreat
