/- Making a thing on a heap that was asked after: contracts. -/
import Derived.Test.YtjdnmblggdobgaaGreatHtG
import Derived.Test.YtjdnmblggdobgaaGreatJHmCHmH
import Derived.Laws.OwnMore
namespace Go.Proofs.YtjdnmblggdobgaaGreat
open Go.RowKit Go.Maps

def wishQ (d : LinkD) (h : HeapD) (tag len : Int) (old : Bool) : List QD := [⟨120, 7, isTagB d.classes.length tag⟩, ⟨121, 3, mayHaveB d.fields tag len⟩, ⟨122, 8, roomB h old len⟩]
/-- What is wrong with a thing that is to be made. -/
def makeErr (d : LinkD) (h : HeapD) (tag len : Int) (old : Bool) : Int := if isTagB d.classes.length tag then (if mayHaveB d.fields tag len then (if roomB h old len then 0 else 8) else 3) else 7
theorem wishQ_res (d : LinkD) (h : HeapD) (tag len : Int) (old : Bool) : askRes (wishQ d h tag len old) = makeErr d h tag len old := by
  unfold wishQ makeErr
  simp only [askRes]
theorem wishQ_call (d : LinkD) (h : HeapD) (tag len : Int) (old : Bool) : ∀ q ∈ wishQ d h tag len old, ∀ args w, (callFunc q.g args).run Tryz.prog w = .ok (.enter q.g args) w := by
  intro q hq args w
  simp only [wishQ, List.mem_cons, List.not_mem_nil, or_false] at hq
  rcases hq with rfl | rfl | rfl <;> kernel_rfl
theorem wishQ_err (d : LinkD) (h : HeapD) (tag len : Int) (old : Bool) : ∀ q ∈ wishQ d h tag len old, q.e ≠ 0 := by
  intro q hq
  simp only [wishQ, List.mem_cons, List.not_mem_nil, or_false] at hq
  rcases hq with rfl | rfl | rfl <;> simp
theorem len_small {d : LinkD} {tag len : Int} (hd : Few d) (h : mayHaveB d.fields tag len = true) : 0 ≤ len ∧ len ≤ 500 := by
  rw [← rLen_may (fun f hf => Nat.le_trans (hd.fs f hf) (by omega))] at h
  unfold rLenB btw at h
  simp only [Bool.and_eq_true, decide_eq_true_eq] at h
  exact h.1
theorem top_small {d : LinkD} {h : HeapD} (hz : Sized d h) (old : Bool) : 0 ≤ topOf h old ∧ topOf h old ≤ 1000000 := by
  have z1 := hz.young
  have z2 := hz.old
  have z4 := hz.ytop
  have z5 := hz.otop
  cases old
  · exact ⟨by show 0 ≤ h.ytop; omega, by show h.ytop ≤ 1000000; omega⟩
  · exact ⟨by show 0 ≤ h.otop; omega, by show h.otop ≤ 1000000; omega⟩
theorem wishQ_ans (w : World) (X B : Nat) (vW vO kC kS kF kN kT vA : Value) (h : HeapD) (d : LinkD) (ts : List ThD) (hc : Cht X B w vW vO kC kS kF kN kT vA h d ts) (hz : Sized d h) (hd : Few d) (tag len : Int) (old : Bool) (k : Nat) (hk : k < (wishQ d h tag len old).length) (hall : ∀ (j : Nat) (hj : j < (wishQ d h tag len old).length), j < k → (wishQ d h tag len old)[j].ans = true) :
    Calls Tryz.prog (wishQ d h tag len old)[k].g #[.agg #[.pointer (some ⟨X + 1, 0, none⟩), .int .i64 tag, .int .i64 len, .bool old]] w fun r w' => r = .returned (.bool (wishQ d h tag len old)[k].ans) ∧ Below w.heap.size w w' := by
  match k, hk with
  | 0, _ => exact wishTag_any w X B _ _ _ _ _ _ _ vA h d ts hc tag len old (by have := hd.cn; omega)
  | 1, _ =>
    have h0 : isTagB d.classes.length tag = true := hall 0 (by simp [wishQ]) (by omega)
    unfold isTagB at h0
    simp only [Bool.and_eq_true, decide_eq_true_eq] at h0
    exact wishLen_any w X B _ _ _ _ _ _ _ vA h d ts hc tag len old (by rw [hd.fl]; exact h0.2)
  | 2, _ =>
    have h1 : mayHaveB d.fields tag len = true := hall 1 (by simp [wishQ]) (by omega)
    have hl := len_small hd h1
    exact wishRoom_any w X B _ _ _ _ _ _ _ vA h d ts hc tag len old (by have := hz.young; omega) (top_small hz old) (by omega)
theorem room_in {d : LinkD} {h : HeapD} (hz : Sized d h) {old : Bool} {len : Int} (hr : roomB h old len = true) : topOf h old + 3 + len ≤ h.words.length := by
  unfold roomB at hr
  have hr := of_decide_eq_true hr
  have z1 := hz.young
  have z2 := hz.old
  have z3 := hz.len
  cases old
  · have : endOf h false = h.young + 1 := rfl
    omega
  · have : endOf h true = h.words.length := rfl
    omega
/-- What a wish comes to. -/
def ComeOut (w : World) (h : HeapD) (d : LinkD) (tag len : Int) (old : Bool) (r : Ending) (w' : World) : Prop :=
  (makeErr d h tag len old = 0 ∧ ∃ nW dW nO dO, r = .returned (.agg #[.slice nW (makeD h tag len old).words.length dW, .int .i64 (makeD h tag len old).young, .int .i64 (makeD h tag len old).old, .int .i64 (makeD h tag len old).ytop, .int .i64 (makeD h tag len old).otop, .slice nO (makeD h tag len old).noted.length dO, .int .i64 (makeD h tag len old).next, .int .i64 (topOf h old)]) ∧ OwnV w.heap.size w' (.slice nW (makeD h tag len old).words.length dW) (.slice nO (makeD h tag len old).noted.length dO) (makeD h tag len old)) ∨
    (makeErr d h tag len old ≠ 0 ∧ r = .panicked [wrongV (makeErr d h tag len old) 0])
set_option maxRecDepth 100000 in
set_option maxHeartbeats 4000000 in
theorem come_any (w : World) (X B : Nat) (vW vO kC kS kF kN kT vA : Value) (h : HeapD) (d : LinkD) (ts : List ThD) (hc : Cht X B w vW vO kC kS kF kN kT vA h d ts) (hz : Sized d h) (hd : Few d) (hl2 : h.noted.length ≤ 1000000) (tag len : Int) (old : Bool) :
    Calls Tryz.prog 58 #[.agg #[.pointer (some ⟨X + 1, 0, none⟩), .int .i64 tag, .int .i64 len, .bool old]] w fun r w' => Below w.heap.size w w' ∧ ComeOut w h d tag len old r w' := by
  have hmf : ∀ (fn : Fn) (first cap : Array Value) (w : World), (Instr.makeFunc fn first cap).run Tryz.prog w = .ok (.func fn first cap) w := fun _ _ _ _ => rfl
  obtain ⟨W0, hW0⟩ : ∃ W0, W0 = (w.alloc (.cells #[.pointer (some ⟨X + 1, 0, none⟩), .int .i64 tag, .int .i64 len, .bool old] 96)).alloc (.cells #[.slice none 0 0, .int .i64 0, .int .i64 0, .int .i64 0, .int .i64 0, .slice none 0 0, .int .i64 0, .int .i64 0] 92) := ⟨_, rfl⟩
  have hB0 : Below w.heap.size w W0 := hW0 ▸ ((Below.refl _ _).alloc (Nat.le_refl _) _).alloc (by simp) _
  have hs0 : W0.heap.size = w.heap.size + 1 + 1 := by rw [hW0]; simp
  have hb0 : W0.heap[w.heap.size]? = some (.cells #[.pointer (some ⟨X + 1, 0, none⟩), .int .i64 tag, .int .i64 len, .bool old] 96 (0, 0)) := by rw [hW0]; exact (Below.heap_alloc _ _ _ (by simp)).trans (heap_alloc_new w _)
  have hb1 : W0.heap[w.heap.size + 1]? = some (.cells #[.slice none 0 0, .int .i64 0, .int .i64 0, .int .i64 0, .int .i64 0, .slice none 0 0, .int .i64 0, .int .i64 0] 92 (0, 0)) := by
    have := heap_alloc_new (w.alloc (.cells #[.pointer (some ⟨X + 1, 0, none⟩), .int .i64 tag, .int .i64 len, .bool old] 96)) (.cells #[.slice none 0 0, .int .i64 0, .int .i64 0, .int .i64 0, .int .i64 0, .slice none 0 0, .int .i64 0, .int .i64 0] 92)
    rw [← hW0] at this
    simpa using this
  have hc0 := hc.below hB0
  have HC0 := mkHid hc0
  have HQ : Hid (SL 2 (RQ #[.agg #[.pointer (some ⟨X + 1, 0, none⟩), .int .i64 tag, .int .i64 len, .bool old]]) (· < w.heap.size + 1 + 1 + 1) (W0.alloc (.cells #[.func (.func 120) #[.agg #[.pointer (some ⟨X + 1, 0, none⟩), .int .i64 tag, .int .i64 len, .bool old]] #[], .int .i64 7, .func (.func 121) #[.agg #[.pointer (some ⟨X + 1, 0, none⟩), .int .i64 tag, .int .i64 len, .bool old]] #[], .int .i64 3, .func (.func 122) #[.agg #[.pointer (some ⟨X + 1, 0, none⟩), .int .i64 tag, .int .i64 len, .bool old]] #[], .int .i64 8] 170)) (.slice (some ⟨w.heap.size + 1 + 1, 0, none⟩) 3 3) (wishQ d h tag len old)) := by
    rw [← hs0]
    exact qsSL W0 170 #[.agg #[.pointer (some ⟨X + 1, 0, none⟩), .int .i64 tag, .int .i64 len, .bool old]] (wishQ d h tag len old) (by simp [wishQ])
  have HA := mkHid (fun o => (Below.refl W0.heap.size W0).alloc (Nat.le_refl _) o)
  have HB0 := mkHid hB0
  have HS0 := mkHid hs0
  have HK0 := mkHid (And.intro hb0 hb1)
  have HE0 := mkHid hW0
  have HZ := mkHid hz
  have HD := mkHid hd
  have HL2 := mkHid hl2
  obtain ⟨aC, cC, aS, cS, aF, cF, aN, cN, aT, cT, rfl, rfl, rfl, rfl, rfl⟩ := hc.lk.agg
  have HMB : Hid (B ≤ X ∧ X + 1 < w.heap.size) := ⟨hc.le, lt_of hc.blk⟩
  clear hc hc0 hB0 hs0 hb0 hb1 hW0 hz hd hl2
  go_enter Tryz.func58, Tryz.ntmps58
  go_wp2_with fail
  rw [← HE0.out]
  refine (Ask_any _ (w.heap.size + 1 + 1 + 1) _ _ (wishQ d h tag len old) HQ.out (by rw [HE0.out]; simp) (wishQ_call d h tag len old) (wishQ_err d h tag len old) ?_).mono ?_
  · intro k hk hall V hV
    exact wishQ_ans V X B _ _ _ _ _ _ _ vA h d ts (HC0.out.below ((HA.out _).trans (hV.mono (HA.out _).size))) HZ.out HD.out tag len old k hk hall
  rintro r w1 ⟨⟨hc, rfl⟩ | ⟨hc, rfl⟩, hb1⟩
  · rw [wishQ_res] at hc
    exact ⟨rfl, HB0.out.trans (((HA.out _).trans (hb1.mono (HA.out _).size)).mono HB0.out.size), Or.inr ⟨hc, by rw [wishQ_res]⟩⟩
  · rw [wishQ_res] at hc
    have hb01 : Below W0.heap.size W0 w1 := (HA.out _).trans (hb1.mono (HA.out _).size)
    have HB01 := mkHid hb01
    have HME := mkHid hc
    have hmh : mayHaveB d.fields tag len = true ∧ roomB h old len = true := by
      unfold makeErr at hc
      cases e1 : isTagB d.classes.length tag <;> cases e2 : mayHaveB d.fields tag len <;> cases e3 : roomB h old len <;> simp_all
    have hlen := len_small HD.out hmh.1
    have hrin := room_in HZ.out hmh.2
    have htop := top_small HZ.out old
    have hs1 := hb01.size
    have hc1 := HC0.out.below hb01
    have k0 := (hb01.block _ (lt_of HK0.out.1)).trans HK0.out.1
    have lk0 := lt_of k0
    have c0 := cell_of k0 0 (x := .pointer (some ⟨X + 1, 0, none⟩)) rfl
    have HWL : Hid (h.words.length ≤ 1000000) := by have := HZ.out.len; have := HZ.out.young; have := HZ.out.old; show _ ≤ _; omega
    have HOWN := mkHid (ownW_any w1 X B _ _ _ _ _ _ _ vA h d ts hc1 HWL.out HL2.out)
    clear hb1 hb01 hc hmh hc1 k0 HQ
    go_wp2_with fail
    refine HOWN.out.mono ?_
    rintro r w2 ⟨hb2, nW, dW, nO, dO, rfl, hov⟩
    have hs2 := hb2.size
    have hb02 : Below W0.heap.size W0 w2 := HB01.out.trans (hb2.mono hs1)
    obtain ⟨W3, hW3⟩ : ∃ W3, W3 = w2.alloc (.cells #[.slice nW h.words.length dW, .int .i64 h.young, .int .i64 h.old, .int .i64 h.ytop, .int .i64 h.otop, .slice nO h.noted.length dO, .int .i64 h.next, .slice aC d.classes.length cC, .slice aS d.supers.length cS, .slice aF d.fields.length cF, .slice aN d.names.length cN, .slice aT d.targets.length cT] 129) := ⟨_, rfl⟩
    have hA3 : Below w2.heap.size w2 W3 := hW3 ▸ (Below.refl _ _).alloc (Nat.le_refl _) _
    have hs3 := hA3.size
    have hb03 : Below W0.heap.size W0 W3 := hb02.trans (hA3.mono (by omega))
    have hog : Og w1.heap.size B W3 w2.heap.size (.slice nW h.words.length dW) (.slice nO h.noted.length dO) (.slice aC d.classes.length cC) (.slice aS d.supers.length cS) (.slice aF d.fields.length cF) (.slice aN d.names.length cN) (.slice aT d.targets.length cT) h d := by
      have h0 := HMB.out
      have h1 := HS0.out
      refine ⟨hW3 ▸ heap_alloc_new w2 _, hov.below hA3, (HC0.out.below hb03).lk, by omega, hs2, fun e => by have := (hov.rW.lt _ e).2; omega, fun e => by have := (hov.rO.lt _ e).2; omega⟩
    have HGM := mkHid (gMake_any W3 w1.heap.size B w2.heap.size _ _ _ _ _ _ _ h d hog tag len old (by have := HZ.out.young; omega) HWL.out HL2.out htop.1 hlen.1 hrin)
    have k3 := (hb03.block _ (lt_of HK0.out.1)).trans HK0.out.1
    have lk3 := lt_of k3
    have d0 := cell_of k3 0 (x := .pointer (some ⟨X + 1, 0, none⟩)) rfl
    have d1 := cell_of k3 1 (x := .int .i64 tag) rfl
    have d2 := cell_of k3 2 (x := .int .i64 len) rfl
    have d3 := cell_of k3 3 (x := .bool old) rfl
    have HB03 := mkHid hb03
    have HW3 := mkHid hW3
    have k3' := HK0.out.1
    have e0 := (hb02.block _ (lt_of HK0.out.1)).trans HK0.out.1
    have le0 := lt_of e0
    have f1 := cell_of e0 1 (x := .int .i64 tag) rfl
    have f2 := cell_of e0 2 (x := .int .i64 len) rfl
    have f3 := cell_of e0 3 (x := .bool old) rfl
    clear hb2 hov hb02 hA3 hb03 hog k3 k3' hW3 e0 HOWN
    go_wp2_with fail
    rw [← HW3.out]
    refine HGM.out.mono ?_
    rintro r w4 ⟨rfl, hog4, hb4⟩
    obtain ⟨hm, hhm⟩ : ∃ hm, makeD h tag len old = hm := ⟨_, rfl⟩
    have HHM := mkHid hhm
    rw [hhm] at hog4
    have hwl : hm.words.length = h.words.length := by rw [← hhm]; exact put3_len _ _ _ (by omega)
    have hnl : hm.noted.length = h.noted.length := by rw [← hhm]; rfl
    rw [← hwl, ← hnl] at hog4
    have hs4 := hb4.size
    have hs03 := HB03.out.size
    have hb04 : Below W0.heap.size W0 w4 := HB03.out.trans (hb4.mono hs1)
    have g4 := hog4.blk
    have lg4 := lt_of g4
    have j0 := cell_of g4 0 (x := .slice nW hm.words.length dW) rfl
    have j1 := cell_of g4 1 (x := .int .i64 hm.young) rfl
    have j2 := cell_of g4 2 (x := .int .i64 hm.old) rfl
    have j3 := cell_of g4 3 (x := .int .i64 hm.ytop) rfl
    have j4 := cell_of g4 4 (x := .int .i64 hm.otop) rfl
    have j5 := cell_of g4 5 (x := .slice nO hm.noted.length dO) rfl
    have j6 := cell_of g4 6 (x := .int .i64 hm.next) rfl
    have k4 := (hb04.block _ (lt_of HK0.out.2)).trans HK0.out.2
    have hB4 : Below w.heap.size w w4 := HB0.out.trans (hb04.mono HB0.out.size)
    have hsz := HS0.out
    have r0 := cell_of k4 0 (x := .slice none 0 0) rfl
    have r1 := cell_of k4 1 (x := .int .i64 0) rfl
    have r2 := cell_of k4 2 (x := .int .i64 0) rfl
    have r3 := cell_of k4 3 (x := .int .i64 0) rfl
    have r4 := cell_of k4 4 (x := .int .i64 0) rfl
    have r5 := cell_of k4 5 (x := .slice none 0 0) rfl
    have r6 := cell_of k4 6 (x := .int .i64 0) rfl
    have r7 := cell_of k4 7 (x := .int .i64 0) rfl
    have rz := fun j => frz_of k4 j
    have rl := lt_of k4
    obtain ⟨hgS, hcS, -⟩ := setL_ok (w.heap.size + 1) [.slice nW hm.words.length dW, .int .i64 hm.young, .int .i64 hm.old, .int .i64 hm.ytop, .int .i64 hm.otop, .slice nO hm.noted.length dO, .int .i64 hm.next, .int .i64 (topOf h old)] w4 0 (fun j hj => by
      rw [Nat.zero_add]
      match j, hj with
      | 0, _ => exact ⟨_, r0⟩
      | 1, _ => exact ⟨_, r1⟩
      | 2, _ => exact ⟨_, r2⟩
      | 3, _ => exact ⟨_, r3⟩
      | 4, _ => exact ⟨_, r4⟩
      | 5, _ => exact ⟨_, r5⟩
      | 6, _ => exact ⟨_, r6⟩
      | 7, _ => exact ⟨_, r7⟩
      )
    obtain ⟨W9, h9⟩ : ∃ W9, setL w4 (w.heap.size + 1) 0 [.slice nW hm.words.length dW, .int .i64 hm.young, .int .i64 hm.old, .int .i64 hm.ytop, .int .i64 hm.otop, .slice nO hm.noted.length dO, .int .i64 hm.next, .int .i64 (topOf h old)] = W9 := ⟨_, rfl⟩
    rw [h9] at hgS hcS
    have hw9 := hgS.size
    have q0 : W9.cell? ⟨w.heap.size + 1, 0, none⟩ = some (.slice nW hm.words.length dW) := (hcS 0 (by simp)).trans rfl
    have q1 : W9.cell? ⟨w.heap.size + 1, 1, none⟩ = some (.int .i64 hm.young) := (hcS 1 (by simp)).trans rfl
    have q2 : W9.cell? ⟨w.heap.size + 1, 2, none⟩ = some (.int .i64 hm.old) := (hcS 2 (by simp)).trans rfl
    have q3 : W9.cell? ⟨w.heap.size + 1, 3, none⟩ = some (.int .i64 hm.ytop) := (hcS 3 (by simp)).trans rfl
    have q4 : W9.cell? ⟨w.heap.size + 1, 4, none⟩ = some (.int .i64 hm.otop) := (hcS 4 (by simp)).trans rfl
    have q5 : W9.cell? ⟨w.heap.size + 1, 5, none⟩ = some (.slice nO hm.noted.length dO) := (hcS 5 (by simp)).trans rfl
    have q6 : W9.cell? ⟨w.heap.size + 1, 6, none⟩ = some (.int .i64 hm.next) := (hcS 6 (by simp)).trans rfl
    have q7 : W9.cell? ⟨w.heap.size + 1, 7, none⟩ = some (.int .i64 (topOf h old)) := (hcS 7 (by simp)).trans rfl
    have HB9 := mkHid (below_of_grown (hB4) hgS (by omega))
    have HG9 := mkHid hgS
    have H9 : Hid (((((((((w4.setCell ⟨w.heap.size + 1, 0, none⟩ (.slice nW hm.words.length dW)).setCell ⟨w.heap.size + 1, 1, none⟩ (.int .i64 hm.young)).setCell ⟨w.heap.size + 1, 2, none⟩ (.int .i64 hm.old)).setCell ⟨w.heap.size + 1, 3, none⟩ (.int .i64 hm.ytop)).setCell ⟨w.heap.size + 1, 4, none⟩ (.int .i64 hm.otop)).setCell ⟨w.heap.size + 1, 5, none⟩ (.slice nO hm.noted.length dO)).setCell ⟨w.heap.size + 1, 6, none⟩ (.int .i64 hm.next)).setCell ⟨w.heap.size + 1, 7, none⟩ (.int .i64 (topOf h old))) = W9) := h9
    clear hgS hcS h9
    have HOF : Hid (OwnV w.heap.size W9 (.slice nW hm.words.length dW) (.slice nO hm.noted.length dO) hm) := (hog4.ov.mono (by omega)).grown HG9.out (fun e => by have := (hog4.ov.rW.lt _ e).1; omega) (fun e => by have := (hog4.ov.rO.lt _ e).1; omega)
    clear hog4 hb4 hb04 g4 k4 hB4 hsz hhm hwl hnl HGM HB03 HW3 d0 d1 d2 d3 f1 f2 f3
    go_wp2_with fail
    rw [H9.out]
    refine bodyPost_ret (v := .agg #[.slice nW hm.words.length dW, .int .i64 hm.young, .int .i64 hm.old, .int .i64 hm.ytop, .int .i64 hm.otop, .slice nO hm.noted.length dO, .int .i64 hm.next, .int .i64 (topOf h old)]) (by simp [results, Tryz.results58, go_sem, q0, q1, q2, q3, q4, q5, q6, q7]) rfl ⟨HB9.out, Or.inl ⟨HME.out, nW, dW, nO, dO, ?_, ?_⟩⟩
    · rw [HHM.out]
    · rw [HHM.out]
      exact HOF.out
end Go.Proofs.YtjdnmblggdobgaaGreat

/- The contract of heap's Make. -/
namespace Go.Proofs.YtjdnmblggdobgaaGreat
open Go.RowKit Go.Maps

theorem own_far {lo hi b e n len : Nat} {w w' : World} {v : Value} {xs : List Value} (h : w.ownsRow b e n v len xs) (hf : Far lo hi w w') (hb : hi ≤ b) : w'.ownsRow b e n v len xs := by
  refine ⟨h.1, h.2.imp id ?_⟩
  rintro ⟨g, cap, cur, e1, e2, e3, e4⟩
  exact ⟨g, cap, cur, e1, e2, (hf.block g (lt_of e3) (Or.inr (by omega))).trans e3, e4⟩
theorem OwnV.far {lo hi b : Nat} {w w' : World} {nW nO : Value} {h : HeapD} (o : OwnV b w nW nO h) (hf : Far lo hi w w') (hb : hi ≤ b) : OwnV b w' nW nO h := ⟨own_far o.rW hf hb, own_far o.rO hf hb, o.ne⟩
/-- What a heap that is right is like. -/
theorem heap_right {d : LinkD} {h : HeapD} {ts : List ThD} (h0 : heapErr d h = 0) (hts : bothT d h = some ts) (hw : ∀ x ∈ h.words, (Lit.int .i64 x).wf = true) : Sized d h ∧ Few d ∧ h.noted.length ≤ 1000000 := by
  unfold heapErr at h0
  cases hok : okLk d with
  | false => rw [hok] at h0; simp at h0
  | true =>
    rw [hok] at h0
    simp only [if_true] at h0
    have hd := few_ok hok
    unfold heapRes at h0
    cases h1 : partsB h with
    | false => rw [h1] at h0; simp at h0
    | true =>
      cases h2 : wordsB h with
      | false => rw [h1, h2] at h0; simp at h0
      | true =>
        cases h3 : topsB h with
        | false => rw [h1, h2, h3] at h0; simp at h0
        | true =>
          have hz := sized_of hd h1 h2 h3
          rw [h1, h2, h3, hts] at h0
          simp only [if_true] at h0
          refine ⟨hz, hd, ?_⟩
          have hl := lain_of hd hz hw hts
          unfold thingsErr at h0
          cases e1 : riseB h.noted with
          | false => rw [e1] at h0; revert h0; cases ts.any (badHash h) <;> cases decide ((ts.map ThD.hash).Nodup) <;> cases (ts.any fun x => hasRefB d.fields h.words x fun n => !leadB ts n) <;> cases (restL h).any (· != 0) <;> simp
          | true =>
            cases e2 : h.noted.any (badNote d h ts) with
            | true => rw [e1, e2] at h0; revert h0; cases ts.any (badHash h) <;> cases decide ((ts.map ThD.hash).Nodup) <;> cases (ts.any fun x => hasRefB d.fields h.words x fun n => !leadB ts n) <;> cases (restL h).any (· != 0) <;> simp
            | false => exact noted_len hl e1 e2
def makeRes (d : LinkD) (h : HeapD) (tag len : Int) (old : Bool) : Int := if heapErr d h = 0 then makeErr d h tag len old else heapErr d h
theorem makeRes_bad {d : LinkD} {h : HeapD} {tag len : Int} {old : Bool} (h0 : heapErr d h ≠ 0) : heapErr d h = makeRes d h tag len old := by unfold makeRes; rw [if_neg h0]
theorem makeRes_ok {d : LinkD} {h : HeapD} {tag len : Int} {old : Bool} (h0 : heapErr d h = 0) : makeErr d h tag len old = makeRes d h tag len old := by unfold makeRes; rw [if_pos h0]
/-- A heap with a new thing, as a value. -/
def MadeV (b : Nat) (d : LinkD) (h : HeapD) (tag len : Int) (old : Bool) (v : Value) (w : World) : Prop :=
  makeRes d h tag len old = 0 ∧ ∃ nW dW nO dO, v = .agg #[.slice nW (makeD h tag len old).words.length dW, .int .i64 (makeD h tag len old).young, .int .i64 (makeD h tag len old).old, .int .i64 (makeD h tag len old).ytop, .int .i64 (makeD h tag len old).otop, .slice nO (makeD h tag len old).noted.length dO, .int .i64 (makeD h tag len old).next, .int .i64 (topOf h old)] ∧ OwnV b w (.slice nW (makeD h tag len old).words.length dW) (.slice nO (makeD h tag len old).noted.length dO) (makeD h tag len old)
set_option maxRecDepth 100000 in
set_option maxHeartbeats 4000000 in
theorem make1_any (w : World) (B P0 P1 P2 P3 P4 : Nat) (vW vO kC kS kF kN kT : Value) (h : HeapD) (d : LinkD) (g : Hd B w vW vO kC kS kF kN kT h d) (tag len : Int) (old : Bool) (k0 : w.heap[P0]? = some (.cells #[vW, .int .i64 h.young, .int .i64 h.old, .int .i64 h.ytop, .int .i64 h.otop, vO, .int .i64 h.next] 24 (0, 0))) (k1 : w.heap[P1]? = some (.cells #[kC, kS, kF, kN, kT] 36 (0, 0))) (k2 : w.heap[P2]? = some (.cells #[.int .i64 tag] 3 (0, 0))) (k3 : w.heap[P3]? = some (.cells #[.int .i64 len] 3 (0, 0))) (k4 : w.heap[P4]? = some (.cells #[.bool old] 4 (0, 0))) :
    Calls Tryz.prog 57 #[.pointer (some ⟨P0, 0, none⟩), .pointer (some ⟨P1, 0, none⟩), .pointer (some ⟨P2, 0, none⟩), .pointer (some ⟨P3, 0, none⟩), .pointer (some ⟨P4, 0, none⟩)] w fun r w' => Below w.heap.size w w' ∧ ((∃ v, r = .returned v ∧ IsMd v ∧ MadeV w.heap.size d h tag len old v w') ∨ ∃ e p, r = .panicked [wrongV e p] ∧ e = makeRes d h tag len old ∧ p = 0 ∧ makeRes d h tag len old ≠ 0) := by
  obtain ⟨W0, hW0⟩ : ∃ W0, W0 = w.alloc (.cells #[.slice none 0 0, .int .i64 0, .int .i64 0, .int .i64 0, .int .i64 0, .slice none 0 0, .int .i64 0, .int .i64 0] 92) := ⟨_, rfl⟩
  have hB0 : Below w.heap.size w W0 := hW0 ▸ (Below.refl _ _).alloc (Nat.le_refl _) _
  have hb0 : W0.heap[w.heap.size]? = some (.cells #[.slice none 0 0, .int .i64 0, .int .i64 0, .int .i64 0, .int .i64 0, .slice none 0 0, .int .i64 0, .int .i64 0] 92 (0, 0)) := hW0 ▸ heap_alloc_new w _
  have HS0 : Hid (W0.heap.size = w.heap.size + 1) := by show _ = _; rw [hW0]; simp
  have l0 := lt_of k0
  have k0' := (hB0.block _ l0).trans k0
  have l1 := lt_of k1
  have k1' := (hB0.block _ l1).trans k1
  have l2 := lt_of k2
  have k2' := (hB0.block _ l2).trans k2
  have l3 := lt_of k3
  have k3' := (hB0.block _ l3).trans k3
  have l4 := lt_of k4
  have k4' := (hB0.block _ l4).trans k4
  have c0 := cell_of k0' 0 (x := vW) rfl
  have c1 := cell_of k0' 1 (x := .int .i64 h.young) rfl
  have c2 := cell_of k0' 2 (x := .int .i64 h.old) rfl
  have c3 := cell_of k0' 3 (x := .int .i64 h.ytop) rfl
  have c4 := cell_of k0' 4 (x := .int .i64 h.otop) rfl
  have c5 := cell_of k0' 5 (x := vO) rfl
  have c6 := cell_of k0' 6 (x := .int .i64 h.next) rfl
  have e0 := cell_of k1' 0 (x := kC) rfl
  have e1 := cell_of k1' 1 (x := kS) rfl
  have e2 := cell_of k1' 2 (x := kF) rfl
  have e3 := cell_of k1' 3 (x := kN) rfl
  have e4 := cell_of k1' 4 (x := kT) rfl
  have b2 := cell_of k2' 0 (x := .int .i64 tag) rfl
  have b3 := cell_of k3' 0 (x := .int .i64 len) rfl
  have b4 := cell_of k4' 0 (x := .bool old) rfl
  have HCK : Hid (∀ V, Below W0.heap.size W0 V → Calls Tryz.prog 53 #[.agg #[vW, .int .i64 h.young, .int .i64 h.old, .int .i64 h.ytop, .int .i64 h.otop, vO, .int .i64 h.next], .agg #[kC, kS, kF, kN, kT]] V fun r w' => Below V.heap.size V w' ∧ HeapOut V B vW vO kC kS kF kN kT h d r w') := fun V hV => checkedD_any (g.below ((hB0.trans (hV.mono hB0.size)).mono g.le))
  have HB0 := mkHid hB0
  have HE0 := mkHid hW0
  have HG := mkHid g
  have HK0 := mkHid hb0
  obtain ⟨aW, cW, aO, cO, aC, cC, aS, cS, aF, cF, aN, cN, aT, cT, rfl, rfl, rfl, rfl, rfl, rfl, rfl⟩ := g.agg
  clear g hB0 hW0 hb0 k0 k0' k1 k1' k2 k2' k3 k3' k4 k4'
  go_enter Tryz.func57, Tryz.ntmps57
  go_wp2_with fail
  rw [← HE0.out]
  refine wp_region_held_drew (S := fun W' => ∀ p : Addr, p.block < w.heap.size → W'.cell? p = W0.cell? p) (by kernel_rfl) (fun p hp => rfl) fun hH => ?_
  refine wpAnyH_take (i := 0) (v := .agg #[.slice aW h.words.length cW, .int .i64 h.young, .int .i64 h.old, .int .i64 h.ytop, .int .i64 h.otop, .slice aO h.noted.length cO, .int .i64 h.next]) rfl (by kernel_rfl) (by kernel_rfl) (by kernel_rfl) (fun _ _ _ h => h) (Or.inl ⟨by kernel_rfl, ?_⟩) hH ?_
  · intro w hSw
    go_simp
  refine wpAnyH_take (i := 1) (v := .agg #[.slice aC d.classes.length cC, .slice aS d.supers.length cS, .slice aF d.fields.length cF, .slice aN d.names.length cN, .slice aT d.targets.length cT]) rfl (by kernel_rfl) (by kernel_rfl) (by kernel_rfl) (fun _ _ _ h => h) (Or.inl ⟨by kernel_rfl, ?_⟩) hH ?_
  · intro w hSw
    go_simp
  refine wpAnyH_take (i := 3) (v := .int .i64 tag) rfl (by kernel_rfl) (by kernel_rfl) (by kernel_rfl) (fun _ _ _ h => h) (Or.inl ⟨by kernel_rfl, ?_⟩) hH ?_
  · intro w hSw
    go_simp
  refine wpAnyH_take (i := 4) (v := .int .i64 len) rfl (by kernel_rfl) (by kernel_rfl) (by kernel_rfl) (fun _ _ _ h => h) (Or.inl ⟨by kernel_rfl, ?_⟩) hH ?_
  · intro w hSw
    go_simp
  refine wpAnyH_take (i := 5) (v := .bool old) rfl (by kernel_rfl) (by kernel_rfl) (by kernel_rfl) (fun _ _ _ h => h) (Or.inl ⟨by kernel_rfl, ?_⟩) hH ?_
  · intro w hSw
    go_simp
  refine wpAnyH_ready (rs := [2]) (by kernel_rfl) (by simp) ?_
  refine AllReadyH.cons rfl (fun K2 hK2 => ?_) AllReadyH.nil
  go_simp
  refine (HCK.out _ (Below.refl _ _).drew).mono ?_
  rintro r w5 ⟨hb5, ⟨h0, X, vA, ts, rfl, hts, hX, hcht⟩ | ⟨h0, rfl⟩⟩
  rotate_left
  · exact ⟨rfl, HB0.out.trans (((Below.refl W0.heap.size W0).drew.trans hb5).mono HB0.out.size), Or.inr ⟨_, _, rfl, makeRes_bad h0, rfl, by rw [← makeRes_bad h0]; exact h0⟩⟩
  have hb6 : Below W0.heap.size W0 w5 := (Below.refl W0.heap.size W0).drew.trans hb5
  have HOK := mkHid (heap_right h0 hts HG.out.ww)
  have HCO := mkHid (come_any w5 X B _ _ _ _ _ _ _ vA h d ts hcht HOK.out.1 HOK.out.2.1 HOK.out.2.2 tag len old)
  have hs6 := hb6.size
  refine hK2.out _ _ (fun p hp => hb6.cell (by have := HS0.out; omega)) fun hH => ?_
  refine wpAnyH_take (i := 6) (v := .agg #[.pointer (some ⟨X + 1, 0, none⟩), .int .i64 tag, .int .i64 len, .bool old]) rfl (by kernel_rfl) (by kernel_rfl) (by kernel_rfl) (fun _ _ _ h => h) (Or.inl ⟨by kernel_rfl, ?_⟩) hH ?_
  · intro w hSw
    go_simp
  refine wpAnyH_ready (rs := [7]) (by kernel_rfl) (by simp) ?_
  refine AllReadyH.cons rfl (fun K7 hK7 => ?_) AllReadyH.nil
  go_simp
  refine HCO.out.mono ?_
  rintro r w7 ⟨hb7, ⟨hm0, nW, dW, nO, dO, rfl, hov⟩ | ⟨hm0, rfl⟩⟩
  rotate_left
  · exact ⟨rfl, HB0.out.trans ((hb6.trans (hb7.mono hs6)).mono HB0.out.size), Or.inr ⟨_, _, rfl, makeRes_ok h0, rfl, by rw [← makeRes_ok h0]; exact hm0⟩⟩
  obtain ⟨hm, hhm⟩ : ∃ hm, makeD h tag len old = hm := ⟨_, rfl⟩
  rw [hhm] at hov ⊢
  have hb8 : Below W0.heap.size W0 w7 := hb6.trans (hb7.mono hs6)
  have hs7 := hb7.size
  have k7 := (hb8.block _ (lt_of HK0.out)).trans HK0.out
  have hB7 : Below w.heap.size w w7 := HB0.out.trans (hb8.mono HB0.out.size)
  have hs0 := HS0.out
  have r0 := cell_of k7 0 (x := .slice none 0 0) rfl
  have r1 := cell_of k7 1 (x := .int .i64 0) rfl
  have r2 := cell_of k7 2 (x := .int .i64 0) rfl
  have r3 := cell_of k7 3 (x := .int .i64 0) rfl
  have r4 := cell_of k7 4 (x := .int .i64 0) rfl
  have r5 := cell_of k7 5 (x := .slice none 0 0) rfl
  have r6 := cell_of k7 6 (x := .int .i64 0) rfl
  have r7 := cell_of k7 7 (x := .int .i64 0) rfl
  have rz := fun j => frz_of k7 j
  have rl := lt_of k7
  obtain ⟨hgS, hcS, -⟩ := setL_ok (w.heap.size) [.slice nW hm.words.length dW, .int .i64 hm.young, .int .i64 hm.old, .int .i64 hm.ytop, .int .i64 hm.otop, .slice nO hm.noted.length dO, .int .i64 hm.next, .int .i64 (topOf h old)] w7 0 (fun j hj => by
    rw [Nat.zero_add]
    match j, hj with
    | 0, _ => exact ⟨_, r0⟩
    | 1, _ => exact ⟨_, r1⟩
    | 2, _ => exact ⟨_, r2⟩
    | 3, _ => exact ⟨_, r3⟩
    | 4, _ => exact ⟨_, r4⟩
    | 5, _ => exact ⟨_, r5⟩
    | 6, _ => exact ⟨_, r6⟩
    | 7, _ => exact ⟨_, r7⟩
    )
  obtain ⟨W9, h9⟩ : ∃ W9, setL w7 (w.heap.size) 0 [.slice nW hm.words.length dW, .int .i64 hm.young, .int .i64 hm.old, .int .i64 hm.ytop, .int .i64 hm.otop, .slice nO hm.noted.length dO, .int .i64 hm.next, .int .i64 (topOf h old)] = W9 := ⟨_, rfl⟩
  rw [h9] at hgS hcS
  have hw9 := hgS.size
  have q0 : W9.cell? ⟨w.heap.size, 0, none⟩ = some (.slice nW hm.words.length dW) := (hcS 0 (by simp)).trans rfl
  have q1 : W9.cell? ⟨w.heap.size, 1, none⟩ = some (.int .i64 hm.young) := (hcS 1 (by simp)).trans rfl
  have q2 : W9.cell? ⟨w.heap.size, 2, none⟩ = some (.int .i64 hm.old) := (hcS 2 (by simp)).trans rfl
  have q3 : W9.cell? ⟨w.heap.size, 3, none⟩ = some (.int .i64 hm.ytop) := (hcS 3 (by simp)).trans rfl
  have q4 : W9.cell? ⟨w.heap.size, 4, none⟩ = some (.int .i64 hm.otop) := (hcS 4 (by simp)).trans rfl
  have q5 : W9.cell? ⟨w.heap.size, 5, none⟩ = some (.slice nO hm.noted.length dO) := (hcS 5 (by simp)).trans rfl
  have q6 : W9.cell? ⟨w.heap.size, 6, none⟩ = some (.int .i64 hm.next) := (hcS 6 (by simp)).trans rfl
  have q7 : W9.cell? ⟨w.heap.size, 7, none⟩ = some (.int .i64 (topOf h old)) := (hcS 7 (by simp)).trans rfl
  have HB9 := mkHid (below_of_grown (hB7) hgS (by omega))
  have HG9 := mkHid hgS
  have H9 : Hid (((((((((w7.setCell ⟨w.heap.size, 0, none⟩ (.slice nW hm.words.length dW)).setCell ⟨w.heap.size, 1, none⟩ (.int .i64 hm.young)).setCell ⟨w.heap.size, 2, none⟩ (.int .i64 hm.old)).setCell ⟨w.heap.size, 3, none⟩ (.int .i64 hm.ytop)).setCell ⟨w.heap.size, 4, none⟩ (.int .i64 hm.otop)).setCell ⟨w.heap.size, 5, none⟩ (.slice nO hm.noted.length dO)).setCell ⟨w.heap.size, 6, none⟩ (.int .i64 hm.next)).setCell ⟨w.heap.size, 7, none⟩ (.int .i64 (topOf h old))) = W9) := h9
  clear hgS hcS h9
  have HOF : Hid (OwnV w.heap.size W9 (.slice nW hm.words.length dW) (.slice nO hm.noted.length dO) hm) := (hov.mono (by omega)).grown HG9.out (fun e => by have := (hov.rW.lt _ e).1; omega) (fun e => by have := (hov.rO.lt _ e).1; omega)
  have HCL : Hid (∀ p : Addr, p.block < w.heap.size → W9.cell? p = W0.cell? p) := fun p hp => (World.cell?_of_block (a := p) (HG9.out.block p.block (by omega) (by intro e; injection e; omega))).trans (hb8.cell (by omega))
  have HHM := mkHid hhm
  have HM0 := mkHid (And.intro h0 hm0)
  refine hK7.out _ _ (fun p hp => hb8.cell (by omega)) fun hH => ?_
  clear hb7 hov k7 hB7 hb8 hb6 hb5 hcht hts hX hhm hs0
  refine wpAnyH_ready (rs := [8]) (by kernel_rfl) (by simp) ?_
  refine AllReadyH.cons rfl (fun K8 hK8 => ?_) AllReadyH.nil
  go_simp
  rw [H9.out]
  refine hK8.out _ _ HCL.out fun hH => ?_
  refine wpAnyH_done (by kernel_rfl) ?_ _
  clear hH
  try simp only [Act.put, List.setIfInBounds_toArray, List.set_cons_zero, List.set_cons_succ, List.getElem_toArray, List.getElem_cons_zero, List.getElem_cons_succ]
  go_wp2_with fail
  refine bodyPost_ret (v := .agg #[.slice nW hm.words.length dW, .int .i64 hm.young, .int .i64 hm.old, .int .i64 hm.ytop, .int .i64 hm.otop, .slice nO hm.noted.length dO, .int .i64 hm.next, .int .i64 (topOf h old)]) (by simp [results, Tryz.results57, go_sem, q0, q1, q2, q3, q4, q5, q6, q7]) rfl ⟨HB9.out, Or.inl ⟨_, rfl, ⟨_, _, _, _, _, _, _, _, _, _, _, _, rfl⟩, ?_⟩⟩
  unfold MadeV
  rw [HHM.out, ← makeRes_ok HM0.out.1]
  exact ⟨HM0.out.2, nW, dW, nO, dO, rfl, HOF.out⟩
theorem callMake1 (args : Array Value) (w : World) : (callFunc 57 args).run Tryz.prog w = .ok (.enter 57 args) w := by kernel_rfl
end Go.Proofs.YtjdnmblggdobgaaGreat

/- The contract of heap's Make, as it is called. -/
namespace Go.Proofs.YtjdnmblggdobgaaGreat
open Go.RowKit Go.Maps

/-- What Make comes to. -/
def MakeOut (w : World) (d : LinkD) (h : HeapD) (tag len : Int) (old : Bool) (r : Ending) (w' : World) : Prop :=
  (makeRes d h tag len old = 0 ∧ ∃ nW dW nO dO, r = .returned (.tuple #[.agg #[.slice nW (makeD h tag len old).words.length dW, .int .i64 (makeD h tag len old).young, .int .i64 (makeD h tag len old).old, .int .i64 (makeD h tag len old).ytop, .int .i64 (makeD h tag len old).otop, .slice nO (makeD h tag len old).noted.length dO, .int .i64 (makeD h tag len old).next], .int .i64 (topOf h old), .int .i64 0]) ∧ OwnV w.heap.size w' (.slice nW (makeD h tag len old).words.length dW) (.slice nO (makeD h tag len old).noted.length dO) (makeD h tag len old)) ∨
    (makeRes d h tag len old ≠ 0 ∧ r = .returned (.tuple #[.agg #[.slice none 0 0, .int .i64 0, .int .i64 0, .int .i64 0, .int .i64 0, .slice none 0 0, .int .i64 0], .int .i64 0, .int .i64 (makeRes d h tag len old)]))
set_option maxRecDepth 100000 in
set_option maxHeartbeats 4000000 in
theorem Make_any (w : World) (B : Nat) (vW vO kC kS kF kN kT : Value) (h : HeapD) (d : LinkD) (g : Hd B w vW vO kC kS kF kN kT h d) (tag len : Int) (old : Bool) :
    Calls Tryz.prog 22 #[.agg #[vW, .int .i64 h.young, .int .i64 h.old, .int .i64 h.ytop, .int .i64 h.otop, vO, .int .i64 h.next], .agg #[kC, kS, kF, kN, kT], .int .i64 tag, .int .i64 len, .bool old] w fun r w' => Below w.heap.size w w' ∧ MakeOut w d h tag len old r w' := by
  have hmf : ∀ (fn : Fn) (first cap : Array Value) (w : World), (Instr.makeFunc fn first cap).run Tryz.prog w = .ok (.func fn first cap) w := fun _ _ _ _ => rfl
  have HG := mkHid g
  obtain ⟨aW, cW, aO, cO, aC, cC, aS, cS, aF, cF, aN, cN, aT, cT, rfl, rfl, rfl, rfl, rfl, rfl, rfl⟩ := g.agg
  clear g
  obtain ⟨X1, hX1⟩ : ∃ X, X = w.alloc (.cells #[.slice aW h.words.length cW, .int .i64 h.young, .int .i64 h.old, .int .i64 h.ytop, .int .i64 h.otop, .slice aO h.noted.length cO, .int .i64 h.next] 24) := ⟨_, rfl⟩
  have a0 : X1.heap[w.heap.size]? = some (.cells #[.slice aW h.words.length cW, .int .i64 h.young, .int .i64 h.old, .int .i64 h.ytop, .int .i64 h.otop, .slice aO h.noted.length cO, .int .i64 h.next] 24 (0, 0)) := by rw [hX1]; exact heap_alloc_new w _
  have hz1 : X1.heap.size = w.heap.size + 1 := by rw [hX1]; simp
  have d1 : Below w.heap.size w X1 := hX1 ▸ (Below.refl _ _).alloc (Nat.le_refl _) _
  obtain ⟨X2, hX2⟩ : ∃ X, X = X1.alloc (.cells #[.slice aC d.classes.length cC, .slice aS d.supers.length cS, .slice aF d.fields.length cF, .slice aN d.names.length cN, .slice aT d.targets.length cT] 36) := ⟨_, rfl⟩
  have a1 : X2.heap[w.heap.size + 1]? = some (.cells #[.slice aC d.classes.length cC, .slice aS d.supers.length cS, .slice aF d.fields.length cF, .slice aN d.names.length cN, .slice aT d.targets.length cT] 36 (0, 0)) := by rw [hX2, ← hz1]; exact heap_alloc_new X1 _
  have hz2 : X2.heap.size = w.heap.size + 1 + 1 := by rw [hX2]; simp [hz1]
  have d2 : Below X1.heap.size X1 X2 := hX2 ▸ (Below.refl _ _).alloc (Nat.le_refl _) _
  obtain ⟨X3, hX3⟩ : ∃ X, X = X2.alloc (.cells #[.int .i64 tag] 3) := ⟨_, rfl⟩
  have a2 : X3.heap[w.heap.size + 1 + 1]? = some (.cells #[.int .i64 tag] 3 (0, 0)) := by rw [hX3, ← hz2]; exact heap_alloc_new X2 _
  have hz3 : X3.heap.size = w.heap.size + 1 + 1 + 1 := by rw [hX3]; simp [hz2]
  have d3 : Below X2.heap.size X2 X3 := hX3 ▸ (Below.refl _ _).alloc (Nat.le_refl _) _
  obtain ⟨X4, hX4⟩ : ∃ X, X = X3.alloc (.cells #[.int .i64 len] 3) := ⟨_, rfl⟩
  have a3 : X4.heap[w.heap.size + 1 + 1 + 1]? = some (.cells #[.int .i64 len] 3 (0, 0)) := by rw [hX4, ← hz3]; exact heap_alloc_new X3 _
  have hz4 : X4.heap.size = w.heap.size + 1 + 1 + 1 + 1 := by rw [hX4]; simp [hz3]
  have d4 : Below X3.heap.size X3 X4 := hX4 ▸ (Below.refl _ _).alloc (Nat.le_refl _) _
  obtain ⟨X5, hX5⟩ : ∃ X, X = X4.alloc (.cells #[.bool old] 4) := ⟨_, rfl⟩
  have a4 : X5.heap[w.heap.size + 1 + 1 + 1 + 1]? = some (.cells #[.bool old] 4 (0, 0)) := by rw [hX5, ← hz4]; exact heap_alloc_new X4 _
  have hz5 : X5.heap.size = w.heap.size + 1 + 1 + 1 + 1 + 1 := by rw [hX5]; simp [hz4]
  have d5 : Below X4.heap.size X4 X5 := hX5 ▸ (Below.refl _ _).alloc (Nat.le_refl _) _
  obtain ⟨W0, hX6⟩ : ∃ X, X = X5.alloc (.cells #[.slice none 0 0, .int .i64 0, .int .i64 0, .int .i64 0, .int .i64 0, .slice none 0 0, .int .i64 0] 24) := ⟨_, rfl⟩
  have a5 : W0.heap[w.heap.size + 1 + 1 + 1 + 1 + 1]? = some (.cells #[.slice none 0 0, .int .i64 0, .int .i64 0, .int .i64 0, .int .i64 0, .slice none 0 0, .int .i64 0] 24 (0, 0)) := by rw [hX6, ← hz5]; exact heap_alloc_new X5 _
  have hz6 : W0.heap.size = w.heap.size + 1 + 1 + 1 + 1 + 1 + 1 := by rw [hX6]; simp [hz5]
  have d6 : Below X5.heap.size X5 W0 := hX6 ▸ (Below.refl _ _).alloc (Nat.le_refl _) _
  have f6 : Below W0.heap.size W0 W0 := Below.refl _ _
  have f5 : Below X5.heap.size X5 W0 := d6.trans (f6.mono (by omega))
  have f4 : Below X4.heap.size X4 W0 := d5.trans (f5.mono (by omega))
  have f3 : Below X3.heap.size X3 W0 := d4.trans (f4.mono (by omega))
  have f2 : Below X2.heap.size X2 W0 := d3.trans (f3.mono (by omega))
  have f1 : Below X1.heap.size X1 W0 := d2.trans (f2.mono (by omega))
  have f0 : Below w.heap.size w W0 := d1.trans (f1.mono (by omega))
  have k0 := (f1.block _ (lt_of a0)).trans a0
  have k1 := (f2.block _ (lt_of a1)).trans a1
  have k2 := (f3.block _ (lt_of a2)).trans a2
  have k3 := (f4.block _ (lt_of a3)).trans a3
  have k4 := (f5.block _ (lt_of a4)).trans a4
  have k5 := (f6.block _ (lt_of a5)).trans a5
  have hB0 := f0
  have hs0 : W0.heap.size = w.heap.size + 1 + 1 + 1 + 1 + 1 + 1 := hz6
  have hW0 : W0 = ((((((w.alloc (.cells #[.slice aW h.words.length cW, .int .i64 h.young, .int .i64 h.old, .int .i64 h.ytop, .int .i64 h.otop, .slice aO h.noted.length cO, .int .i64 h.next] 24)).alloc (.cells #[.slice aC d.classes.length cC, .slice aS d.supers.length cS, .slice aF d.fields.length cF, .slice aN d.names.length cN, .slice aT d.targets.length cT] 36)).alloc (.cells #[.int .i64 tag] 3)).alloc (.cells #[.int .i64 len] 3)).alloc (.cells #[.bool old] 4)).alloc (.cells #[.slice none 0 0, .int .i64 0, .int .i64 0, .int .i64 0, .int .i64 0, .slice none 0 0, .int .i64 0] 24)) := by rw [hX6, hX5, hX4, hX3, hX2, hX1]
  clear f0 f1 f2 f3 f4 f5 f6 a0 a1 a2 a3 a4 a5 d1 d2 d3 d4 d5 d6 hz1 hz2 hz3 hz4 hz5 hz6
  clear hX6 hX5 hX4 hX3 hX2 hX1
  clear X5 X4 X3 X2 X1
  have HMD : Hid (Calls Tryz.prog 56 #[.func (.func 57) #[] #[.pointer (some ⟨w.heap.size, 0, none⟩), .pointer (some ⟨w.heap.size + 1, 0, none⟩), .pointer (some ⟨w.heap.size + 1 + 1, 0, none⟩), .pointer (some ⟨w.heap.size + 1 + 1 + 1, 0, none⟩), .pointer (some ⟨w.heap.size + 1 + 1 + 1 + 1, 0, none⟩)]] W0 fun r w' => Below W0.heap.size W0 w' ∧ W0.heap.size + 5 ≤ w'.heap.size ∧
      ((∃ v, r = .returned (.tuple #[v, .agg #[.int .i64 0, .int .i64 0]]) ∧ IsMd v ∧ MadeV (W0.heap.size + 5) d h tag len old v w') ∨
       (∃ e p, r = .returned (.tuple #[.agg #[.slice none 0 0, .int .i64 0, .int .i64 0, .int .i64 0, .int .i64 0, .slice none 0 0, .int .i64 0, .int .i64 0], .agg #[.int .i64 e, .int .i64 p]]) ∧ (e = makeRes d h tag len old ∧ p = 0 ∧ makeRes d h tag len old ≠ 0)))) := by
    refine madeMd_any W0 57 _ (MadeV (W0.heap.size + 5) d h tag len old) (fun e p => e = makeRes d h tag len old ∧ p = 0 ∧ makeRes d h tag len old ≠ 0) callMake1 ?_ ?_
    · intro W hW hs
      have hk : ∀ (b : Nat) (ob : Obj), W0.heap[b]? = some ob → W.heap[b]? = some ob := fun b ob e => (hW.block b (by
        rcases Nat.lt_or_ge b W0.heap.size with hlt | hge
        · exact hlt
        · rw [Array.getElem?_eq_none hge] at e; cases e)).trans e
      have := make1_any W B _ _ _ _ _ _ _ _ _ _ _ _ h d (HG.out.below ((hB0.trans (hW.mono hB0.size)).mono HG.out.le)) tag len old (hk _ _ k0) (hk _ _ k1) (hk _ _ k2) (hk _ _ k3) (hk _ _ k4)
      rw [← hs]
      exact this
    · rintro v W W' hs hf ⟨h0, nW, dW, nO, dO, e, ho⟩
      exact ⟨h0, nW, dW, nO, dO, e, ho.far hf (Nat.le_refl _)⟩
  have HK5 := mkHid k5
  have HB0 := mkHid hB0
  have HE0 := mkHid hW0
  have HS0 := mkHid hs0
  rw [HE0.out] at HMD
  clear k0 k1 k2 k3 k4 k5 hB0 hW0 hs0
  go_enter Tryz.func22, Tryz.ntmps22
  go_wp2_with fail
  refine HMD.out.mono ?_
  rw [← HE0.out]
  rintro r w1 ⟨hb1, hs1, ⟨v, rfl, -, h0, nW, dW, nO, dO, rfl, hov⟩ | ⟨e, p, rfl, rfl, rfl, h0⟩⟩
  · obtain ⟨hm, hhm⟩ : ∃ hm, makeD h tag len old = hm := ⟨_, rfl⟩
    rw [hhm] at hov ⊢
    have hs0 := HS0.out
    have HHM := mkHid hhm
    have HM0 := mkHid h0
    clear hhm HMD
    obtain ⟨W2, hW2⟩ : ∃ W2, W2 = ((w1.alloc (.cells #[.slice nW hm.words.length dW, .int .i64 hm.young, .int .i64 hm.old, .int .i64 hm.ytop, .int .i64 hm.otop, .slice nO hm.noted.length dO, .int .i64 hm.next, .int .i64 (topOf h old)] 92)).alloc (.cells #[.int .i64 0, .int .i64 0] 84)) := ⟨_, rfl⟩
    have hA2 : Below w1.heap.size w1 W2 := hW2 ▸ ((Below.refl _ _).alloc (Nat.le_refl _) _).alloc (by simp) _
    have hs2 := hA2.size
    have m0 : W2.heap[w1.heap.size]? = some (.cells #[.slice nW hm.words.length dW, .int .i64 hm.young, .int .i64 hm.old, .int .i64 hm.ytop, .int .i64 hm.otop, .slice nO hm.noted.length dO, .int .i64 hm.next, .int .i64 (topOf h old)] 92 (0, 0)) := by rw [hW2]; exact (Below.heap_alloc _ _ _ (by simp)).trans (heap_alloc_new w1 _)
    have m1 : W2.heap[w1.heap.size + 1]? = some (.cells #[.int .i64 0, .int .i64 0] 84 (0, 0)) := by
      have := heap_alloc_new (w1.alloc (.cells #[.slice nW hm.words.length dW, .int .i64 hm.young, .int .i64 hm.old, .int .i64 hm.ytop, .int .i64 hm.otop, .slice nO hm.noted.length dO, .int .i64 hm.next, .int .i64 (topOf h old)] 92)) (.cells #[.int .i64 0, .int .i64 0] 84)
      rw [← hW2] at this
      simpa using this
    have k2 : W2.heap[w.heap.size + 1 + 1 + 1 + 1 + 1]? = some (.cells #[.slice none 0 0, .int .i64 0, .int .i64 0, .int .i64 0, .int .i64 0, .slice none 0 0, .int .i64 0] 24 (0, 0)) := (hA2.block _ (by omega)).trans ((hb1.block _ (lt_of HK5.out)).trans HK5.out)
    have hB2 : Below w.heap.size w W2 := (HB0.out.trans (hb1.mono HB0.out.size)).trans (hA2.mono (by omega))
    have r0 := cell_of k2 0 (x := .slice none 0 0) rfl
    have r1 := cell_of k2 1 (x := .int .i64 0) rfl
    have r2 := cell_of k2 2 (x := .int .i64 0) rfl
    have r3 := cell_of k2 3 (x := .int .i64 0) rfl
    have r4 := cell_of k2 4 (x := .int .i64 0) rfl
    have r5 := cell_of k2 5 (x := .slice none 0 0) rfl
    have r6 := cell_of k2 6 (x := .int .i64 0) rfl
    have rz := fun j => frz_of k2 j
    have rl := lt_of k2
    obtain ⟨hgS, hcS, -⟩ := setL_ok (w.heap.size + 1 + 1 + 1 + 1 + 1) [.slice nW hm.words.length dW, .int .i64 hm.young, .int .i64 hm.old, .int .i64 hm.ytop, .int .i64 hm.otop, .slice nO hm.noted.length dO, .int .i64 hm.next] W2 0 (fun j hj => by
      rw [Nat.zero_add]
      match j, hj with
      | 0, _ => exact ⟨_, r0⟩
      | 1, _ => exact ⟨_, r1⟩
      | 2, _ => exact ⟨_, r2⟩
      | 3, _ => exact ⟨_, r3⟩
      | 4, _ => exact ⟨_, r4⟩
      | 5, _ => exact ⟨_, r5⟩
      | 6, _ => exact ⟨_, r6⟩
      )
    obtain ⟨W9, h9⟩ : ∃ W9, setL W2 (w.heap.size + 1 + 1 + 1 + 1 + 1) 0 [.slice nW hm.words.length dW, .int .i64 hm.young, .int .i64 hm.old, .int .i64 hm.ytop, .int .i64 hm.otop, .slice nO hm.noted.length dO, .int .i64 hm.next] = W9 := ⟨_, rfl⟩
    rw [h9] at hgS hcS
    have hw9 := hgS.size
    have q0 : W9.cell? ⟨w.heap.size + 1 + 1 + 1 + 1 + 1, 0, none⟩ = some (.slice nW hm.words.length dW) := (hcS 0 (by simp)).trans rfl
    have q1 : W9.cell? ⟨w.heap.size + 1 + 1 + 1 + 1 + 1, 1, none⟩ = some (.int .i64 hm.young) := (hcS 1 (by simp)).trans rfl
    have q2 : W9.cell? ⟨w.heap.size + 1 + 1 + 1 + 1 + 1, 2, none⟩ = some (.int .i64 hm.old) := (hcS 2 (by simp)).trans rfl
    have q3 : W9.cell? ⟨w.heap.size + 1 + 1 + 1 + 1 + 1, 3, none⟩ = some (.int .i64 hm.ytop) := (hcS 3 (by simp)).trans rfl
    have q4 : W9.cell? ⟨w.heap.size + 1 + 1 + 1 + 1 + 1, 4, none⟩ = some (.int .i64 hm.otop) := (hcS 4 (by simp)).trans rfl
    have q5 : W9.cell? ⟨w.heap.size + 1 + 1 + 1 + 1 + 1, 5, none⟩ = some (.slice nO hm.noted.length dO) := (hcS 5 (by simp)).trans rfl
    have q6 : W9.cell? ⟨w.heap.size + 1 + 1 + 1 + 1 + 1, 6, none⟩ = some (.int .i64 hm.next) := (hcS 6 (by simp)).trans rfl
    have HB9 := mkHid (below_of_grown (hB2) hgS (by omega))
    have HG9 := mkHid hgS
    have H9 : Hid ((((((((W2.setCell ⟨w.heap.size + 1 + 1 + 1 + 1 + 1, 0, none⟩ (.slice nW hm.words.length dW)).setCell ⟨w.heap.size + 1 + 1 + 1 + 1 + 1, 1, none⟩ (.int .i64 hm.young)).setCell ⟨w.heap.size + 1 + 1 + 1 + 1 + 1, 2, none⟩ (.int .i64 hm.old)).setCell ⟨w.heap.size + 1 + 1 + 1 + 1 + 1, 3, none⟩ (.int .i64 hm.ytop)).setCell ⟨w.heap.size + 1 + 1 + 1 + 1 + 1, 4, none⟩ (.int .i64 hm.otop)).setCell ⟨w.heap.size + 1 + 1 + 1 + 1 + 1, 5, none⟩ (.slice nO hm.noted.length dO)).setCell ⟨w.heap.size + 1 + 1 + 1 + 1 + 1, 6, none⟩ (.int .i64 hm.next)) = W9) := h9
    clear hgS hcS h9
    have v0 := cell_of m0 0 (x := .slice nW hm.words.length dW) rfl
    have v1 := cell_of m0 1 (x := .int .i64 hm.young) rfl
    have v2 := cell_of m0 2 (x := .int .i64 hm.old) rfl
    have v3 := cell_of m0 3 (x := .int .i64 hm.ytop) rfl
    have v4 := cell_of m0 4 (x := .int .i64 hm.otop) rfl
    have v5 := cell_of m0 5 (x := .slice nO hm.noted.length dO) rfl
    have v6 := cell_of m0 6 (x := .int .i64 hm.next) rfl
    have v7 := cell_of m0 7 (x := .int .i64 (topOf h old)) rfl
    have u0 := cell_of m1 0 (x := .int .i64 0) rfl
    have lm0 := lt_of m0
    have lm1 := lt_of m1
    have ne0 : ¬ w1.heap.size = w.heap.size + 1 + 1 + 1 + 1 + 1 := by omega
    have ne1 : ¬ w1.heap.size + 1 = w.heap.size + 1 + 1 + 1 + 1 + 1 := by omega
    have ne2 : ¬ w1.heap.size = w.heap.size + 1 + 1 + 1 + 1 := by omega
    have ne3 : ¬ w1.heap.size = w.heap.size + 4 := by omega
    have HCL : Hid (∀ p : Addr, p.block < W2.heap.size → p.block ≠ w.heap.size + 1 + 1 + 1 + 1 + 1 → W9.cell? p = W2.cell? p) := fun p hp hne => World.cell?_of_block (a := p) (HG9.out.block p.block hp (fun e => hne (Option.some.inj e)))
    have HOF : Hid (OwnV w.heap.size W9 (.slice nW hm.words.length dW) (.slice nO hm.noted.length dO) hm) := ((hov.below hA2).mono (by omega)).grown HG9.out (fun e => by have := (hov.rW.lt _ e).1; omega) (fun e => by have := (hov.rO.lt _ e).1; omega)
    clear hov h0 hs0
    have HW2 := mkHid hW2
    clear hA2 m0 m1 k2 hB2 hb1 hW2
    go_wp2_with fail
    rw [← HW2.out]
    refine wp_region_held_drew (S := fun W' => ∀ p : Addr, p.block < W2.heap.size → p.block ≠ w.heap.size + 1 + 1 + 1 + 1 + 1 → W'.cell? p = W2.cell? p) (by kernel_rfl) (fun p hp _ => rfl) fun hH => ?_
    refine wpAnyH_take (i := 0) (v := .pointer (some ⟨w1.heap.size, 0, none⟩)) rfl (by kernel_rfl) (by kernel_rfl) (by kernel_rfl) (fun _ _ _ h => h) (Or.inl ⟨by kernel_rfl, ?_⟩) hH ?_
    · intro w hSw
      go_simp
    refine wpAnyH_take (i := 1) (v := .agg #[.slice nW hm.words.length dW, .int .i64 hm.young, .int .i64 hm.old, .int .i64 hm.ytop, .int .i64 hm.otop, .slice nO hm.noted.length dO, .int .i64 hm.next]) rfl (by kernel_rfl) (by kernel_rfl) (by kernel_rfl) (fun _ _ _ h => h) (Or.inl ⟨by kernel_rfl, ?_⟩) hH ?_
    · intro w hSw
      go_simp
    refine wpAnyH_take (i := 2) (v := .pointer (some ⟨w1.heap.size, 7, none⟩)) rfl (by kernel_rfl) (by kernel_rfl) (by kernel_rfl) (fun _ _ _ h => h) (Or.inl ⟨by kernel_rfl, ?_⟩) hH ?_
    · intro w hSw
      go_simp
    refine wpAnyH_take (i := 3) (v := .int .i64 (topOf h old)) rfl (by kernel_rfl) (by kernel_rfl) (by kernel_rfl) (fun _ _ _ h => h) (Or.inl ⟨by kernel_rfl, ?_⟩) hH ?_
    · intro w hSw
      go_simp
    refine wpAnyH_take (i := 4) (v := .pointer (some ⟨w1.heap.size + 1, 0, none⟩)) rfl (by kernel_rfl) (by kernel_rfl) (by kernel_rfl) (fun _ _ _ h => h) (Or.inl ⟨by kernel_rfl, ?_⟩) hH ?_
    · intro w hSw
      go_simp
    refine wpAnyH_take (i := 5) (v := .int .i64 0) rfl (by kernel_rfl) (by kernel_rfl) (by kernel_rfl) (fun _ _ _ h => h) (Or.inl ⟨by kernel_rfl, ?_⟩) hH ?_
    · intro w hSw
      go_simp
    refine wpAnyH_ready (rs := [6]) (by kernel_rfl) (by simp) ?_
    refine AllReadyH.cons rfl (fun K6 hK6 => ?_) AllReadyH.nil
    go_simp
    rw [H9.out]
    refine hK6.out _ _ HCL.out fun hH => ?_
    refine wpAnyH_take (i := 7) (v := .int .i64 (topOf h old)) rfl (by kernel_rfl) (by kernel_rfl) (by kernel_rfl) (fun _ _ _ h => h) (Or.inl ⟨by kernel_rfl, ?_⟩) hH ?_
    · intro w hSw
      go_simp
    refine wpAnyH_take (i := 8) (v := .int .i64 0) rfl (by kernel_rfl) (by kernel_rfl) (by kernel_rfl) (fun _ _ _ h => h) (Or.inl ⟨by kernel_rfl, ?_⟩) hH ?_
    · intro w hSw
      go_simp
    refine wpAnyH_done (by kernel_rfl) ?_ _
    clear hH
    try simp only [Act.put, List.setIfInBounds_toArray, List.set_cons_zero, List.set_cons_succ, List.getElem_toArray, List.getElem_cons_zero, List.getElem_cons_succ]
    go_wp2_with fail
    refine bodyPost_ret (v := .tuple #[.agg #[.slice nW hm.words.length dW, .int .i64 hm.young, .int .i64 hm.old, .int .i64 hm.ytop, .int .i64 hm.otop, .slice nO hm.noted.length dO, .int .i64 hm.next], .int .i64 (topOf h old), .int .i64 0]) (by simp [results, Tryz.results22, go_sem, q0, q1, q2, q3, q4, q5, q6]) rfl ⟨HB9.out.drew, Or.inl ⟨HM0.out, nW, dW, nO, dO, ?_, ?_⟩⟩
    · rw [HHM.out]
    · rw [HHM.out]
      exact HOF.out.below (Below.refl _ _).drew
  · have hs0 := HS0.out
    have HM0 := mkHid h0
    generalize hmr : makeRes d h tag len old = mr at *
    have HMR := mkHid hmr
    clear hmr HMD
    obtain ⟨W2, hW2⟩ : ∃ W2, W2 = ((w1.alloc (.cells #[.slice none 0 0, .int .i64 0, .int .i64 0, .int .i64 0, .int .i64 0, .slice none 0 0, .int .i64 0, .int .i64 0] 92)).alloc (.cells #[.int .i64 mr, .int .i64 0] 84)) := ⟨_, rfl⟩
    have hA2 : Below w1.heap.size w1 W2 := hW2 ▸ ((Below.refl _ _).alloc (Nat.le_refl _) _).alloc (by simp) _
    have hs2 := hA2.size
    have m0 : W2.heap[w1.heap.size]? = some (.cells #[.slice none 0 0, .int .i64 0, .int .i64 0, .int .i64 0, .int .i64 0, .slice none 0 0, .int .i64 0, .int .i64 0] 92 (0, 0)) := by rw [hW2]; exact (Below.heap_alloc _ _ _ (by simp)).trans (heap_alloc_new w1 _)
    have m1 : W2.heap[w1.heap.size + 1]? = some (.cells #[.int .i64 mr, .int .i64 0] 84 (0, 0)) := by
      have := heap_alloc_new (w1.alloc (.cells #[.slice none 0 0, .int .i64 0, .int .i64 0, .int .i64 0, .int .i64 0, .slice none 0 0, .int .i64 0, .int .i64 0] 92)) (.cells #[.int .i64 mr, .int .i64 0] 84)
      rw [← hW2] at this
      simpa using this
    have k2 : W2.heap[w.heap.size + 1 + 1 + 1 + 1 + 1]? = some (.cells #[.slice none 0 0, .int .i64 0, .int .i64 0, .int .i64 0, .int .i64 0, .slice none 0 0, .int .i64 0] 24 (0, 0)) := (hA2.block _ (by omega)).trans ((hb1.block _ (lt_of HK5.out)).trans HK5.out)
    have hB2 : Below w.heap.size w W2 := (HB0.out.trans (hb1.mono HB0.out.size)).trans (hA2.mono (by omega))
    have r0 := cell_of k2 0 (x := .slice none 0 0) rfl
    have r1 := cell_of k2 1 (x := .int .i64 0) rfl
    have r2 := cell_of k2 2 (x := .int .i64 0) rfl
    have r3 := cell_of k2 3 (x := .int .i64 0) rfl
    have r4 := cell_of k2 4 (x := .int .i64 0) rfl
    have r5 := cell_of k2 5 (x := .slice none 0 0) rfl
    have r6 := cell_of k2 6 (x := .int .i64 0) rfl
    have rz := fun j => frz_of k2 j
    have rl := lt_of k2
    obtain ⟨hgS, hcS, -⟩ := setL_ok (w.heap.size + 1 + 1 + 1 + 1 + 1) [.slice none 0 0, .int .i64 0, .int .i64 0, .int .i64 0, .int .i64 0, .slice none 0 0, .int .i64 0] W2 0 (fun j hj => by
      rw [Nat.zero_add]
      match j, hj with
      | 0, _ => exact ⟨_, r0⟩
      | 1, _ => exact ⟨_, r1⟩
      | 2, _ => exact ⟨_, r2⟩
      | 3, _ => exact ⟨_, r3⟩
      | 4, _ => exact ⟨_, r4⟩
      | 5, _ => exact ⟨_, r5⟩
      | 6, _ => exact ⟨_, r6⟩
      )
    obtain ⟨W9, h9⟩ : ∃ W9, setL W2 (w.heap.size + 1 + 1 + 1 + 1 + 1) 0 [.slice none 0 0, .int .i64 0, .int .i64 0, .int .i64 0, .int .i64 0, .slice none 0 0, .int .i64 0] = W9 := ⟨_, rfl⟩
    rw [h9] at hgS hcS
    have hw9 := hgS.size
    have q0 : W9.cell? ⟨w.heap.size + 1 + 1 + 1 + 1 + 1, 0, none⟩ = some (.slice none 0 0) := (hcS 0 (by simp)).trans rfl
    have q1 : W9.cell? ⟨w.heap.size + 1 + 1 + 1 + 1 + 1, 1, none⟩ = some (.int .i64 0) := (hcS 1 (by simp)).trans rfl
    have q2 : W9.cell? ⟨w.heap.size + 1 + 1 + 1 + 1 + 1, 2, none⟩ = some (.int .i64 0) := (hcS 2 (by simp)).trans rfl
    have q3 : W9.cell? ⟨w.heap.size + 1 + 1 + 1 + 1 + 1, 3, none⟩ = some (.int .i64 0) := (hcS 3 (by simp)).trans rfl
    have q4 : W9.cell? ⟨w.heap.size + 1 + 1 + 1 + 1 + 1, 4, none⟩ = some (.int .i64 0) := (hcS 4 (by simp)).trans rfl
    have q5 : W9.cell? ⟨w.heap.size + 1 + 1 + 1 + 1 + 1, 5, none⟩ = some (.slice none 0 0) := (hcS 5 (by simp)).trans rfl
    have q6 : W9.cell? ⟨w.heap.size + 1 + 1 + 1 + 1 + 1, 6, none⟩ = some (.int .i64 0) := (hcS 6 (by simp)).trans rfl
    have HB9 := mkHid (below_of_grown (hB2) hgS (by omega))
    have HG9 := mkHid hgS
    have H9 : Hid ((((((((W2.setCell ⟨w.heap.size + 1 + 1 + 1 + 1 + 1, 0, none⟩ (.slice none 0 0)).setCell ⟨w.heap.size + 1 + 1 + 1 + 1 + 1, 1, none⟩ (.int .i64 0)).setCell ⟨w.heap.size + 1 + 1 + 1 + 1 + 1, 2, none⟩ (.int .i64 0)).setCell ⟨w.heap.size + 1 + 1 + 1 + 1 + 1, 3, none⟩ (.int .i64 0)).setCell ⟨w.heap.size + 1 + 1 + 1 + 1 + 1, 4, none⟩ (.int .i64 0)).setCell ⟨w.heap.size + 1 + 1 + 1 + 1 + 1, 5, none⟩ (.slice none 0 0)).setCell ⟨w.heap.size + 1 + 1 + 1 + 1 + 1, 6, none⟩ (.int .i64 0)) = W9) := h9
    clear hgS hcS h9
    have v0 := cell_of m0 0 (x := .slice none 0 0) rfl
    have v1 := cell_of m0 1 (x := .int .i64 0) rfl
    have v2 := cell_of m0 2 (x := .int .i64 0) rfl
    have v3 := cell_of m0 3 (x := .int .i64 0) rfl
    have v4 := cell_of m0 4 (x := .int .i64 0) rfl
    have v5 := cell_of m0 5 (x := .slice none 0 0) rfl
    have v6 := cell_of m0 6 (x := .int .i64 0) rfl
    have v7 := cell_of m0 7 (x := .int .i64 0) rfl
    have u0 := cell_of m1 0 (x := .int .i64 mr) rfl
    have lm0 := lt_of m0
    have lm1 := lt_of m1
    have ne0 : ¬ w1.heap.size = w.heap.size + 1 + 1 + 1 + 1 + 1 := by omega
    have ne1 : ¬ w1.heap.size + 1 = w.heap.size + 1 + 1 + 1 + 1 + 1 := by omega
    have ne2 : ¬ w1.heap.size = w.heap.size + 1 + 1 + 1 + 1 := by omega
    have ne3 : ¬ w1.heap.size = w.heap.size + 4 := by omega
    have HCL : Hid (∀ p : Addr, p.block < W2.heap.size → p.block ≠ w.heap.size + 1 + 1 + 1 + 1 + 1 → W9.cell? p = W2.cell? p) := fun p hp hne => World.cell?_of_block (a := p) (HG9.out.block p.block hp (fun e => hne (Option.some.inj e)))
    clear h0 hs0
    have HW2 := mkHid hW2
    clear hA2 m0 m1 k2 hB2 hb1 hW2
    go_wp2_with fail
    rw [← HW2.out]
    refine wp_region_held_drew (S := fun W' => ∀ p : Addr, p.block < W2.heap.size → p.block ≠ w.heap.size + 1 + 1 + 1 + 1 + 1 → W'.cell? p = W2.cell? p) (by kernel_rfl) (fun p hp _ => rfl) fun hH => ?_
    refine wpAnyH_take (i := 0) (v := .pointer (some ⟨w1.heap.size, 0, none⟩)) rfl (by kernel_rfl) (by kernel_rfl) (by kernel_rfl) (fun _ _ _ h => h) (Or.inl ⟨by kernel_rfl, ?_⟩) hH ?_
    · intro w hSw
      go_simp
    refine wpAnyH_take (i := 1) (v := .agg #[.slice none 0 0, .int .i64 0, .int .i64 0, .int .i64 0, .int .i64 0, .slice none 0 0, .int .i64 0]) rfl (by kernel_rfl) (by kernel_rfl) (by kernel_rfl) (fun _ _ _ h => h) (Or.inl ⟨by kernel_rfl, ?_⟩) hH ?_
    · intro w hSw
      go_simp
    refine wpAnyH_take (i := 2) (v := .pointer (some ⟨w1.heap.size, 7, none⟩)) rfl (by kernel_rfl) (by kernel_rfl) (by kernel_rfl) (fun _ _ _ h => h) (Or.inl ⟨by kernel_rfl, ?_⟩) hH ?_
    · intro w hSw
      go_simp
    refine wpAnyH_take (i := 3) (v := .int .i64 0) rfl (by kernel_rfl) (by kernel_rfl) (by kernel_rfl) (fun _ _ _ h => h) (Or.inl ⟨by kernel_rfl, ?_⟩) hH ?_
    · intro w hSw
      go_simp
    refine wpAnyH_take (i := 4) (v := .pointer (some ⟨w1.heap.size + 1, 0, none⟩)) rfl (by kernel_rfl) (by kernel_rfl) (by kernel_rfl) (fun _ _ _ h => h) (Or.inl ⟨by kernel_rfl, ?_⟩) hH ?_
    · intro w hSw
      go_simp
    refine wpAnyH_take (i := 5) (v := .int .i64 mr) rfl (by kernel_rfl) (by kernel_rfl) (by kernel_rfl) (fun _ _ _ h => h) (Or.inl ⟨by kernel_rfl, ?_⟩) hH ?_
    · intro w hSw
      go_simp
    refine wpAnyH_ready (rs := [6]) (by kernel_rfl) (by simp) ?_
    refine AllReadyH.cons rfl (fun K6 hK6 => ?_) AllReadyH.nil
    go_simp
    rw [H9.out]
    refine hK6.out _ _ HCL.out fun hH => ?_
    refine wpAnyH_take (i := 7) (v := .int .i64 0) rfl (by kernel_rfl) (by kernel_rfl) (by kernel_rfl) (fun _ _ _ h => h) (Or.inl ⟨by kernel_rfl, ?_⟩) hH ?_
    · intro w hSw
      go_simp
    refine wpAnyH_take (i := 8) (v := .int .i64 mr) rfl (by kernel_rfl) (by kernel_rfl) (by kernel_rfl) (fun _ _ _ h => h) (Or.inl ⟨by kernel_rfl, ?_⟩) hH ?_
    · intro w hSw
      go_simp
    refine wpAnyH_done (by kernel_rfl) ?_ _
    clear hH
    try simp only [Act.put, List.setIfInBounds_toArray, List.set_cons_zero, List.set_cons_succ, List.getElem_toArray, List.getElem_cons_zero, List.getElem_cons_succ]
    go_wp2_with fail
    refine bodyPost_ret (v := .tuple #[.agg #[.slice none 0 0, .int .i64 0, .int .i64 0, .int .i64 0, .int .i64 0, .slice none 0 0, .int .i64 0], .int .i64 0, .int .i64 mr]) (by simp [results, Tryz.results22, go_sem, q0, q1, q2, q3, q4, q5, q6]) rfl ⟨HB9.out.drew, Or.inr ⟨by rw [HMR.out]; exact HM0.out, by rw [HMR.out]⟩⟩
end Go.Proofs.YtjdnmblggdobgaaGreat

/- The contract of heap's Get. -/
namespace Go.Proofs.YtjdnmblggdobgaaGreat
open Go.RowKit Go.Maps

def tsOf (d : LinkD) (h : HeapD) : List ThD := (bothT d h).getD []
/-- What is wrong with an address of a thing. -/
def thErr (d : LinkD) (h : HeapD) (loc : Int) : Int := if heapErr d h = 0 then (if (plAt (tsOf d h) loc).isSome then 0 else 5) else heapErr d h
/-- What is wrong with a word of a thing. -/
def getErr (d : LinkD) (h : HeapD) (loc n : Int) : Int := if thErr d h loc = 0 then (if 0 ≤ n ∧ n < (atOr (tsOf d h) loc).len then 0 else 3) else thErr d h loc
def getVal (d : LinkD) (h : HeapD) (loc n : Int) : Int := if getErr d h loc n = 0 then wd h.words (loc + 3 + n) else 0
theorem thErr_bad {d : LinkD} {h : HeapD} {loc : Int} (h0 : heapErr d h ≠ 0) : heapErr d h = thErr d h loc := by unfold thErr; rw [if_neg h0]
theorem thErr_none {d : LinkD} {h : HeapD} {loc : Int} {ts : List ThD} (h0 : heapErr d h = 0) (hts : bothT d h = some ts) (hp : plAt ts loc = none) : thErr d h loc = 5 := by
  unfold thErr tsOf
  rw [if_pos h0, hts]
  simp [hp]
theorem thErr_ok {d : LinkD} {h : HeapD} {loc : Int} {ts : List ThD} {t : ThD} (h0 : heapErr d h = 0) (hts : bothT d h = some ts) (hp : plAt ts loc = some t) : thErr d h loc = 0 ∧ atOr (tsOf d h) loc = t := by
  unfold thErr tsOf atOr
  rw [if_pos h0, hts]
  simp [hp]
theorem getErr_bad {d : LinkD} {h : HeapD} {loc n : Int} (h0 : heapErr d h ≠ 0) : heapErr d h = getErr d h loc n := by
  unfold getErr
  rw [← thErr_bad h0, if_neg h0]
theorem getErr_none {d : LinkD} {h : HeapD} {loc n : Int} {ts : List ThD} (h0 : heapErr d h = 0) (hts : bothT d h = some ts) (hp : plAt ts loc = none) : getErr d h loc n = 5 := by
  unfold getErr
  rw [thErr_none h0 hts hp, if_neg (by decide)]
theorem getErr_far {d : LinkD} {h : HeapD} {loc n : Int} {ts : List ThD} {t : ThD} (h0 : heapErr d h = 0) (hts : bothT d h = some ts) (hp : plAt ts loc = some t) (hn : ¬ (0 ≤ n ∧ n < t.len)) : getErr d h loc n = 3 := by
  unfold getErr
  rw [(thErr_ok h0 hts hp).1, (thErr_ok h0 hts hp).2, if_pos rfl, if_neg hn]
theorem getErr_ok {d : LinkD} {h : HeapD} {loc n : Int} {ts : List ThD} {t : ThD} (h0 : heapErr d h = 0) (hts : bothT d h = some ts) (hp : plAt ts loc = some t) (h1 : 0 ≤ n) (h2 : n < t.len) : getErr d h loc n = 0 := by
  unfold getErr
  rw [(thErr_ok h0 hts hp).1, (thErr_ok h0 hts hp).2, if_pos rfl, if_pos ⟨h1, h2⟩]
theorem getOk {d : LinkD} {h : HeapD} {loc n : Int} {ts : List ThD} {t : ThD} {m : Nat} (h0 : heapErr d h = 0) (hts : bothT d h = some ts) (hp : plAt ts loc = some t) (h1 : 0 ≤ n) (h2 : n < t.len) (hl : t.loc = loc) (hm : t.loc + 3 + n = (m : Int)) (hml : m < h.words.length) : getErr d h loc n = 0 ∧ getVal d h loc n = h.words[m] := by
  have e := getErr_ok h0 hts hp h1 h2
  refine ⟨e, ?_⟩
  unfold getVal
  rw [if_pos e, ← hl, hm, wd_get hml]
set_option maxRecDepth 100000 in
set_option maxHeartbeats 4000000 in
theorem get1_any (w : World) (B P0 P1 P2 P3 : Nat) (vW vO kC kS kF kN kT : Value) (h : HeapD) (d : LinkD) (g : Hd B w vW vO kC kS kF kN kT h d) (loc n : Int) (hwf : (Lit.int .i64 loc).wf = true) (k0 : w.heap[P0]? = some (.cells #[vW, .int .i64 h.young, .int .i64 h.old, .int .i64 h.ytop, .int .i64 h.otop, vO, .int .i64 h.next] 24 (0, 0))) (k1 : w.heap[P1]? = some (.cells #[kC, kS, kF, kN, kT] 36 (0, 0))) (k2 : w.heap[P2]? = some (.cells #[.int .i64 loc] 3 (0, 0))) (k3 : w.heap[P3]? = some (.cells #[.int .i64 n] 3 (0, 0))) :
    Calls Tryz.prog 66 #[.pointer (some ⟨P0, 0, none⟩), .pointer (some ⟨P1, 0, none⟩), .pointer (some ⟨P2, 0, none⟩), .pointer (some ⟨P3, 0, none⟩)] w fun r w' => Below w.heap.size w w' ∧ ((∃ v, r = .returned v ∧ (∃ n, v = .int .i64 n) ∧ v = .int .i64 (getVal d h loc n) ∧ getErr d h loc n = 0) ∨ ∃ e p, r = .panicked [wrongV e p] ∧ e = getErr d h loc n ∧ p = 0 ∧ getErr d h loc n ≠ 0) := by
  have HWF := mkHid hwf
  clear hwf
  have hB0 : Below w.heap.size w w := Below.refl _ _
  have HS0 : Hid (w.heap.size = w.heap.size) := Eq.refl w.heap.size
  have l0 := lt_of k0
  have k0' := (hB0.block _ l0).trans k0
  have l1 := lt_of k1
  have k1' := (hB0.block _ l1).trans k1
  have l2 := lt_of k2
  have k2' := (hB0.block _ l2).trans k2
  have l3 := lt_of k3
  have k3' := (hB0.block _ l3).trans k3
  have c0 := cell_of k0' 0 (x := vW) rfl
  have c1 := cell_of k0' 1 (x := .int .i64 h.young) rfl
  have c2 := cell_of k0' 2 (x := .int .i64 h.old) rfl
  have c3 := cell_of k0' 3 (x := .int .i64 h.ytop) rfl
  have c4 := cell_of k0' 4 (x := .int .i64 h.otop) rfl
  have c5 := cell_of k0' 5 (x := vO) rfl
  have c6 := cell_of k0' 6 (x := .int .i64 h.next) rfl
  have e0 := cell_of k1' 0 (x := kC) rfl
  have e1 := cell_of k1' 1 (x := kS) rfl
  have e2 := cell_of k1' 2 (x := kF) rfl
  have e3 := cell_of k1' 3 (x := kN) rfl
  have e4 := cell_of k1' 4 (x := kT) rfl
  have b2 := cell_of k2' 0 (x := .int .i64 loc) rfl
  have b3 := cell_of k3' 0 (x := .int .i64 n) rfl
  have HCK : Hid (∀ V, Below w.heap.size w V → Calls Tryz.prog 53 #[.agg #[vW, .int .i64 h.young, .int .i64 h.old, .int .i64 h.ytop, .int .i64 h.otop, vO, .int .i64 h.next], .agg #[kC, kS, kF, kN, kT]] V fun r w' => Below V.heap.size V w' ∧ HeapOut V B vW vO kC kS kF kN kT h d r w') := fun V hV => checkedD_any (g.below ((hB0.trans (hV.mono hB0.size)).mono g.le))
  have HB0 := mkHid hB0
  have HG := mkHid g
  obtain ⟨aW, cW, aO, cO, aC, cC, aS, cS, aF, cF, aN, cN, aT, cT, rfl, rfl, rfl, rfl, rfl, rfl, rfl⟩ := g.agg
  clear g hB0 k0 k0' k1 k1' k2 k2' k3 k3'
  go_enter Tryz.func66, Tryz.ntmps66
  go_wp2_with fail
  refine wp_region_held_drew (S := fun W' => ∀ p : Addr, p.block < w.heap.size → W'.cell? p = w.cell? p) (by kernel_rfl) (fun p hp => rfl) fun hH => ?_
  refine wpAnyH_take (i := 0) (v := .pointer (some ⟨P0, 0, none⟩)) rfl (by kernel_rfl) (by kernel_rfl) (by kernel_rfl) (fun _ _ _ h => h) (Or.inl ⟨by kernel_rfl, ?_⟩) hH ?_
  · intro w hSw
    go_simp
  refine wpAnyH_take (i := 1) (v := .slice aW h.words.length cW) rfl (by kernel_rfl) (by kernel_rfl) (by kernel_rfl) (fun _ _ _ h => h) (Or.inl ⟨by kernel_rfl, ?_⟩) hH ?_
  · intro w hSw
    go_simp
  refine wpAnyH_take (i := 2) (v := .agg #[.slice aW h.words.length cW, .int .i64 h.young, .int .i64 h.old, .int .i64 h.ytop, .int .i64 h.otop, .slice aO h.noted.length cO, .int .i64 h.next]) rfl (by kernel_rfl) (by kernel_rfl) (by kernel_rfl) (fun _ _ _ h => h) (Or.inl ⟨by kernel_rfl, ?_⟩) hH ?_
  · intro w hSw
    go_simp
  refine wpAnyH_take (i := 3) (v := .agg #[.slice aC d.classes.length cC, .slice aS d.supers.length cS, .slice aF d.fields.length cF, .slice aN d.names.length cN, .slice aT d.targets.length cT]) rfl (by kernel_rfl) (by kernel_rfl) (by kernel_rfl) (fun _ _ _ h => h) (Or.inl ⟨by kernel_rfl, ?_⟩) hH ?_
  · intro w hSw
    go_simp
  refine wpAnyH_take (i := 5) (v := .int .i64 loc) rfl (by kernel_rfl) (by kernel_rfl) (by kernel_rfl) (fun _ _ _ h => h) (Or.inl ⟨by kernel_rfl, ?_⟩) hH ?_
  · intro w hSw
    go_simp
  refine wpAnyH_take (i := 6) (v := .int .i64 n) rfl (by kernel_rfl) (by kernel_rfl) (by kernel_rfl) (fun _ _ _ h => h) (Or.inl ⟨by kernel_rfl, ?_⟩) hH ?_
  · intro w hSw
    go_simp
  refine wpAnyH_take (i := 8) (v := .int .i64 n) rfl (by kernel_rfl) (by kernel_rfl) (by kernel_rfl) (fun _ _ _ h => h) (Or.inl ⟨by kernel_rfl, ?_⟩) hH ?_
  · intro w hSw
    go_simp
  refine wpAnyH_ready (rs := [4]) (by kernel_rfl) (by simp) ?_
  refine AllReadyH.cons rfl (fun K4 hK4 => ?_) AllReadyH.nil
  go_simp
  refine (HCK.out _ (Below.refl _ _).drew).mono ?_
  rintro r w5 ⟨hb5, ⟨h0, X, vA, ts, rfl, hts, hX, hcht⟩ | ⟨h0, rfl⟩⟩
  rotate_left
  · exact ⟨rfl, HB0.out.trans (((Below.refl w.heap.size w).drew.trans hb5).mono HB0.out.size), Or.inr ⟨_, _, rfl, getErr_bad h0, rfl, by rw [← getErr_bad h0]; exact h0⟩⟩
  have hb6 : Below w.heap.size w w5 := (Below.refl w.heap.size w).drew.trans hb5
  have HOK := mkHid (heap_right h0 hts HG.out.ww)
  have HLN := mkHid (lain_of HOK.out.2.1 HOK.out.1 HG.out.ww hts)
  have HTW := mkHid (thingWith_any w5 X B _ _ _ _ _ _ _ vA h d ts hcht loc n HWF.out)
  have HTS := mkHid hts
  have H00 := mkHid h0
  have hs6 := hb6.size
  refine hK4.out _ _ (fun p hp => hb6.cell (by have := HS0.out; omega)) fun hH => ?_
  refine wpAnyH_ready (rs := [7]) (by kernel_rfl) (by simp) ?_
  refine AllReadyH.cons rfl (fun K7 hK7 => ?_) AllReadyH.nil
  go_simp
  refine HTW.out.mono ?_
  rintro r w7 ⟨hb7, ⟨t, hpl, h1, h2, rfl⟩ | ⟨hpl, rfl⟩ | ⟨t, hpl, h12, rfl⟩⟩
  rotate_left
  · exact ⟨rfl, HB0.out.trans ((hb6.trans (hb7.mono hs6)).mono HB0.out.size), Or.inr ⟨_, _, rfl, (getErr_none H00.out HTS.out hpl).symm, rfl, by rw [getErr_none H00.out HTS.out hpl]; decide⟩⟩
  · exact ⟨rfl, HB0.out.trans ((hb6.trans (hb7.mono hs6)).mono HB0.out.size), Or.inr ⟨_, _, rfl, (getErr_far H00.out HTS.out hpl h12).symm, rfl, by rw [getErr_far H00.out HTS.out hpl h12]; decide⟩⟩
  have hb8 : Below w.heap.size w w7 := hb6.trans (hb7.mono hs6)
  obtain ⟨ht, hloc⟩ := plAt_mem ts hpl
  obtain ⟨-, hl0, hl1⟩ := HLN.out.fit t ht
  have hl2 := HLN.out.words
  unfold ThD.fin at hl1
  have hsl : small t.loc := by unfold small; omega
  have hsn : small n := by unfold small; omega
  obtain ⟨m, hm⟩ : ∃ m : Nat, t.loc + 3 + n = (m : Int) := ⟨(t.loc + 3 + n).toNat, by omega⟩
  have hml : m < h.words.length := by omega
  obtain ⟨bW, oW, rfl, hbl, hcW⟩ := HG.out.sW.atI m hml
  have hcw := (HB0.out.cell (p := ⟨bW, oW + m, none⟩) hbl).trans hcW
  have HRES : Hid (getErr d h loc n = 0 ∧ getVal d h loc n = h.words[m]) := getOk H00.out HTS.out hpl h1 h2 hloc hm hml
  generalize h.words[m] = x at *
  refine hK7.out _ _ (fun p hp => hb8.cell (by have := HS0.out; omega)) fun hH => ?_
  clear hl0 hl1 hl2 hcW h1 h2 hloc hpl hb7 hb6 hb5 hcht hts hX ht
  refine wpAnyH_ready (rs := [9]) (by kernel_rfl) (by simp) ?_
  refine AllReadyH.cons rfl (fun K9 hK9 => ?_) AllReadyH.nil
  go_simp
  refine (word_any _ t n hsl hsn).mono ?_
  rintro r w8 ⟨rfl, hb9⟩
  rw [hm]
  have hb10 : Below w.heap.size w w8 := hb8.trans (hb9.mono hb8.size)
  refine hK9.out _ _ (fun p hp => hb10.cell (by have := HS0.out; omega)) fun hH => ?_
  clear hb9 hb8
  refine wpAnyH_take (i := 10) (v := .pointer (some ⟨bW, oW + m, none⟩)) rfl (by kernel_rfl) (by kernel_rfl) (by kernel_rfl) (fun _ _ _ h => h) (Or.inl ⟨by kernel_rfl, ?_⟩) hH ?_
  · intro w hSw
    go_simp
  refine wpAnyH_take (i := 11) (v := .int .i64 x) rfl (by kernel_rfl) (by kernel_rfl) (by kernel_rfl) (fun _ _ _ h => h) (Or.inl ⟨by kernel_rfl, ?_⟩) hH ?_
  · intro w hSw
    go_simp
  refine wpAnyH_take (i := 12) (v := .int .i64 x) rfl (by kernel_rfl) (by kernel_rfl) (by kernel_rfl) (fun _ _ _ h => h) (Or.inl ⟨by kernel_rfl, ?_⟩) hH ?_
  · intro w hSw
    go_simp
  refine wpAnyH_done (by kernel_rfl) ?_ _
  clear hH
  try simp only [Act.put, List.setIfInBounds_toArray, List.set_cons_zero, List.set_cons_succ, List.getElem_toArray, List.getElem_cons_zero, List.getElem_cons_succ]
  go_wp2_with fail
  go_ret
  exact ⟨HB0.out.trans (hb10.mono HB0.out.size), Or.inl ⟨.int .i64 x, rfl, ⟨x, rfl⟩, by rw [HRES.out.2], HRES.out.1⟩⟩
theorem callGet1 (args : Array Value) (w : World) : (callFunc 66 args).run Tryz.prog w = .ok (.enter 66 args) w := by kernel_rfl
set_option maxRecDepth 100000 in
set_option maxHeartbeats 4000000 in
theorem Get_any (w : World) (B : Nat) (vW vO kC kS kF kN kT : Value) (h : HeapD) (d : LinkD) (g : Hd B w vW vO kC kS kF kN kT h d) (loc n : Int) (hwf : (Lit.int .i64 loc).wf = true) :
    Calls Tryz.prog 26 #[.agg #[vW, .int .i64 h.young, .int .i64 h.old, .int .i64 h.ytop, .int .i64 h.otop, vO, .int .i64 h.next], .agg #[kC, kS, kF, kN, kT], .int .i64 loc, .int .i64 n] w fun r w' => Below w.heap.size w w' ∧ r = .returned (.tuple #[.int .i64 (getVal d h loc n), .int .i64 (getErr d h loc n)]) := by
  have hmf : ∀ (fn : Fn) (first cap : Array Value) (w : World), (Instr.makeFunc fn first cap).run Tryz.prog w = .ok (.func fn first cap) w := fun _ _ _ _ => rfl
  have HG := mkHid g
  obtain ⟨aW, cW, aO, cO, aC, cC, aS, cS, aF, cF, aN, cN, aT, cT, rfl, rfl, rfl, rfl, rfl, rfl, rfl⟩ := g.agg
  clear g
  obtain ⟨X1, hX1⟩ : ∃ X, X = w.alloc (.cells #[.slice aW h.words.length cW, .int .i64 h.young, .int .i64 h.old, .int .i64 h.ytop, .int .i64 h.otop, .slice aO h.noted.length cO, .int .i64 h.next] 24) := ⟨_, rfl⟩
  have a0 : X1.heap[w.heap.size]? = some (.cells #[.slice aW h.words.length cW, .int .i64 h.young, .int .i64 h.old, .int .i64 h.ytop, .int .i64 h.otop, .slice aO h.noted.length cO, .int .i64 h.next] 24 (0, 0)) := by rw [hX1]; exact heap_alloc_new w _
  have hz1 : X1.heap.size = w.heap.size + 1 := by rw [hX1]; simp
  have d1 : Below w.heap.size w X1 := hX1 ▸ (Below.refl _ _).alloc (Nat.le_refl _) _
  obtain ⟨X2, hX2⟩ : ∃ X, X = X1.alloc (.cells #[.slice aC d.classes.length cC, .slice aS d.supers.length cS, .slice aF d.fields.length cF, .slice aN d.names.length cN, .slice aT d.targets.length cT] 36) := ⟨_, rfl⟩
  have a1 : X2.heap[w.heap.size + 1]? = some (.cells #[.slice aC d.classes.length cC, .slice aS d.supers.length cS, .slice aF d.fields.length cF, .slice aN d.names.length cN, .slice aT d.targets.length cT] 36 (0, 0)) := by rw [hX2, ← hz1]; exact heap_alloc_new X1 _
  have hz2 : X2.heap.size = w.heap.size + 1 + 1 := by rw [hX2]; simp [hz1]
  have d2 : Below X1.heap.size X1 X2 := hX2 ▸ (Below.refl _ _).alloc (Nat.le_refl _) _
  obtain ⟨X3, hX3⟩ : ∃ X, X = X2.alloc (.cells #[.int .i64 loc] 3) := ⟨_, rfl⟩
  have a2 : X3.heap[w.heap.size + 1 + 1]? = some (.cells #[.int .i64 loc] 3 (0, 0)) := by rw [hX3, ← hz2]; exact heap_alloc_new X2 _
  have hz3 : X3.heap.size = w.heap.size + 1 + 1 + 1 := by rw [hX3]; simp [hz2]
  have d3 : Below X2.heap.size X2 X3 := hX3 ▸ (Below.refl _ _).alloc (Nat.le_refl _) _
  obtain ⟨W0, hX4⟩ : ∃ X, X = X3.alloc (.cells #[.int .i64 n] 3) := ⟨_, rfl⟩
  have a3 : W0.heap[w.heap.size + 1 + 1 + 1]? = some (.cells #[.int .i64 n] 3 (0, 0)) := by rw [hX4, ← hz3]; exact heap_alloc_new X3 _
  have hz4 : W0.heap.size = w.heap.size + 1 + 1 + 1 + 1 := by rw [hX4]; simp [hz3]
  have d4 : Below X3.heap.size X3 W0 := hX4 ▸ (Below.refl _ _).alloc (Nat.le_refl _) _
  have f4 : Below W0.heap.size W0 W0 := Below.refl _ _
  have f3 : Below X3.heap.size X3 W0 := d4.trans (f4.mono (by omega))
  have f2 : Below X2.heap.size X2 W0 := d3.trans (f3.mono (by omega))
  have f1 : Below X1.heap.size X1 W0 := d2.trans (f2.mono (by omega))
  have f0 : Below w.heap.size w W0 := d1.trans (f1.mono (by omega))
  have k0 := (f1.block _ (lt_of a0)).trans a0
  have k1 := (f2.block _ (lt_of a1)).trans a1
  have k2 := (f3.block _ (lt_of a2)).trans a2
  have k3 := (f4.block _ (lt_of a3)).trans a3
  have hB0 := f0
  have hs0 : W0.heap.size = w.heap.size + 1 + 1 + 1 + 1 := hz4
  have hW0 : W0 = ((((w.alloc (.cells #[.slice aW h.words.length cW, .int .i64 h.young, .int .i64 h.old, .int .i64 h.ytop, .int .i64 h.otop, .slice aO h.noted.length cO, .int .i64 h.next] 24)).alloc (.cells #[.slice aC d.classes.length cC, .slice aS d.supers.length cS, .slice aF d.fields.length cF, .slice aN d.names.length cN, .slice aT d.targets.length cT] 36)).alloc (.cells #[.int .i64 loc] 3)).alloc (.cells #[.int .i64 n] 3)) := by rw [hX4, hX3, hX2, hX1]
  clear f0 f1 f2 f3 f4 a0 a1 a2 a3 d1 d2 d3 d4 hz1 hz2 hz3 hz4
  clear hX4 hX3 hX2 hX1
  clear X3 X2 X1
  have HMD : Hid (Calls Tryz.prog 65 #[.func (.func 66) #[] #[.pointer (some ⟨w.heap.size, 0, none⟩), .pointer (some ⟨w.heap.size + 1, 0, none⟩), .pointer (some ⟨w.heap.size + 1 + 1, 0, none⟩), .pointer (some ⟨w.heap.size + 1 + 1 + 1, 0, none⟩)]] W0 fun r w' => Below W0.heap.size W0 w' ∧ W0.heap.size + 4 ≤ w'.heap.size ∧
      ((∃ v, r = .returned (.tuple #[v, .agg #[.int .i64 0, .int .i64 0]]) ∧ (∃ n, v = .int .i64 n) ∧ (v = .int .i64 (getVal d h loc n) ∧ getErr d h loc n = 0)) ∨
       (∃ e p, r = .returned (.tuple #[.int .i64 0, .agg #[.int .i64 e, .int .i64 p]]) ∧ (e = getErr d h loc n ∧ p = 0 ∧ getErr d h loc n ≠ 0)))) := by
    refine madeI_any W0 66 _ (fun v _ => v = .int .i64 (getVal d h loc n) ∧ getErr d h loc n = 0) (fun e p => e = getErr d h loc n ∧ p = 0 ∧ getErr d h loc n ≠ 0) callGet1 ?_ ?_
    · intro W hW hs
      have hk : ∀ (b : Nat) (ob : Obj), W0.heap[b]? = some ob → W.heap[b]? = some ob := fun b ob e => (hW.block b (by
        rcases Nat.lt_or_ge b W0.heap.size with hlt | hge
        · exact hlt
        · rw [Array.getElem?_eq_none hge] at e; cases e)).trans e
      exact get1_any W B _ _ _ _ _ _ _ _ _ _ _ h d (HG.out.below ((hB0.trans (hW.mono hB0.size)).mono HG.out.le)) loc n hwf (hk _ _ k0) (hk _ _ k1) (hk _ _ k2) (hk _ _ k3)
    · exact fun _ _ _ _ _ e => e
  have HB0 := mkHid hB0
  have HE0 := mkHid hW0
  rw [HE0.out] at HMD
  clear k0 k1 k2 k3 hB0 hW0 hs0 hwf
  go_enter Tryz.func26, Tryz.ntmps26
  go_wp2_with fail
  refine HMD.out.mono ?_
  rw [← HE0.out]
  rintro r w1 ⟨hb1, hs1, ⟨v, rfl, -, rfl, h0⟩ | ⟨e, p, rfl, rfl, rfl, h0⟩⟩
  · have HM0 := mkHid h0
    generalize hx : getVal d h loc n = x at *
    have HX := mkHid hx
    clear h0 HMD hx
    obtain ⟨W2, hW2⟩ : ∃ W2, W2 = (w1.alloc (.cells #[.int .i64 0, .int .i64 0] 84)) := ⟨_, rfl⟩
    have hA2 : Below w1.heap.size w1 W2 := hW2 ▸ (Below.refl _ _).alloc (Nat.le_refl _) _
    have m1 : W2.heap[w1.heap.size]? = some (.cells #[.int .i64 0, .int .i64 0] 84 (0, 0)) := by rw [hW2]; exact heap_alloc_new w1 _
    have HB2 := mkHid ((HB0.out.trans (hb1.mono HB0.out.size)).trans (hA2.mono (by have := HB0.out.size; have := hb1.size; omega)))
    have u0 := cell_of m1 0 (x := .int .i64 0) rfl
    have lm1 := lt_of m1
    have HW2 := mkHid hW2
    clear hA2 m1 hb1 hW2 hs1
    go_wp2_with fail
    rw [← HW2.out]
    refine wp_region_held_drew (S := fun W' => ∀ p : Addr, p.block < W2.heap.size → W'.cell? p = W2.cell? p) (by kernel_rfl) (fun p hp => rfl) fun hH => ?_
    refine wpAnyH_take (i := 0) (v := .int .i64 x) rfl (by kernel_rfl) (by kernel_rfl) (by kernel_rfl) (fun _ _ _ h => h) (Or.inl ⟨by kernel_rfl, ?_⟩) hH ?_
    · intro w hSw
      go_simp
    refine wpAnyH_take (i := 1) (v := .pointer (some ⟨w1.heap.size, 0, none⟩)) rfl (by kernel_rfl) (by kernel_rfl) (by kernel_rfl) (fun _ _ _ h => h) (Or.inl ⟨by kernel_rfl, ?_⟩) hH ?_
    · intro w hSw
      go_simp
    refine wpAnyH_take (i := 2) (v := .int .i64 0) rfl (by kernel_rfl) (by kernel_rfl) (by kernel_rfl) (fun _ _ _ h => h) (Or.inl ⟨by kernel_rfl, ?_⟩) hH ?_
    · intro w hSw
      go_simp
    refine wpAnyH_take (i := 3) (v := .int .i64 x) rfl (by kernel_rfl) (by kernel_rfl) (by kernel_rfl) (fun _ _ _ h => h) (Or.inl ⟨by kernel_rfl, ?_⟩) hH ?_
    · intro w hSw
      go_simp
    refine wpAnyH_take (i := 4) (v := .int .i64 0) rfl (by kernel_rfl) (by kernel_rfl) (by kernel_rfl) (fun _ _ _ h => h) (Or.inl ⟨by kernel_rfl, ?_⟩) hH ?_
    · intro w hSw
      go_simp
    refine wpAnyH_done (by kernel_rfl) ?_ _
    clear hH
    try simp only [Act.put, List.setIfInBounds_toArray, List.set_cons_zero, List.set_cons_succ, List.getElem_toArray, List.getElem_cons_zero, List.getElem_cons_succ]
    go_wp2_with fail
    refine bodyPost_ret (v := .tuple #[.int .i64 x, .int .i64 0]) (by simp [results, Tryz.results26, go_sem]) rfl ⟨HB2.out.drew, by rw [HX.out, HM0.out]⟩
  · have HM0 : Hid (getVal d h loc n = 0) := by show _ = _; unfold getVal; rw [if_neg h0]
    generalize hx : getErr d h loc n = x at *
    have HX := mkHid hx
    clear h0 HMD hx
    obtain ⟨W2, hW2⟩ : ∃ W2, W2 = (w1.alloc (.cells #[.int .i64 x, .int .i64 0] 84)) := ⟨_, rfl⟩
    have hA2 : Below w1.heap.size w1 W2 := hW2 ▸ (Below.refl _ _).alloc (Nat.le_refl _) _
    have m1 : W2.heap[w1.heap.size]? = some (.cells #[.int .i64 x, .int .i64 0] 84 (0, 0)) := by rw [hW2]; exact heap_alloc_new w1 _
    have HB2 := mkHid ((HB0.out.trans (hb1.mono HB0.out.size)).trans (hA2.mono (by have := HB0.out.size; have := hb1.size; omega)))
    have u0 := cell_of m1 0 (x := .int .i64 x) rfl
    have lm1 := lt_of m1
    have HW2 := mkHid hW2
    clear hA2 m1 hb1 hW2 hs1
    go_wp2_with fail
    rw [← HW2.out]
    refine wp_region_held_drew (S := fun W' => ∀ p : Addr, p.block < W2.heap.size → W'.cell? p = W2.cell? p) (by kernel_rfl) (fun p hp => rfl) fun hH => ?_
    refine wpAnyH_take (i := 0) (v := .int .i64 0) rfl (by kernel_rfl) (by kernel_rfl) (by kernel_rfl) (fun _ _ _ h => h) (Or.inl ⟨by kernel_rfl, ?_⟩) hH ?_
    · intro w hSw
      go_simp
    refine wpAnyH_take (i := 1) (v := .pointer (some ⟨w1.heap.size, 0, none⟩)) rfl (by kernel_rfl) (by kernel_rfl) (by kernel_rfl) (fun _ _ _ h => h) (Or.inl ⟨by kernel_rfl, ?_⟩) hH ?_
    · intro w hSw
      go_simp
    refine wpAnyH_take (i := 2) (v := .int .i64 x) rfl (by kernel_rfl) (by kernel_rfl) (by kernel_rfl) (fun _ _ _ h => h) (Or.inl ⟨by kernel_rfl, ?_⟩) hH ?_
    · intro w hSw
      go_simp
    refine wpAnyH_take (i := 3) (v := .int .i64 0) rfl (by kernel_rfl) (by kernel_rfl) (by kernel_rfl) (fun _ _ _ h => h) (Or.inl ⟨by kernel_rfl, ?_⟩) hH ?_
    · intro w hSw
      go_simp
    refine wpAnyH_take (i := 4) (v := .int .i64 x) rfl (by kernel_rfl) (by kernel_rfl) (by kernel_rfl) (fun _ _ _ h => h) (Or.inl ⟨by kernel_rfl, ?_⟩) hH ?_
    · intro w hSw
      go_simp
    refine wpAnyH_done (by kernel_rfl) ?_ _
    clear hH
    try simp only [Act.put, List.setIfInBounds_toArray, List.set_cons_zero, List.set_cons_succ, List.getElem_toArray, List.getElem_cons_zero, List.getElem_cons_succ]
    go_wp2_with fail
    refine bodyPost_ret (v := .tuple #[.int .i64 0, .int .i64 x]) (by simp [results, Tryz.results26, go_sem]) rfl ⟨HB2.out.drew, by rw [HX.out, HM0.out]⟩
end Go.Proofs.YtjdnmblggdobgaaGreat

/- The contract of what sets a word of a heap of one's own. -/
namespace Go.Proofs.YtjdnmblggdobgaaGreat
open Go.RowKit Go.Maps

theorem intV_get {l : List Int} {k : Nat} (h : k < l.length) : (intV l)[k]? = some (.int .i64 l[k]) := by simp [intV, h]
def setW (h : HeapD) (m : Nat) (v : Int) : HeapD := ⟨h.words.set m v, h.young, h.old, h.ytop, h.otop, h.noted, h.next⟩
/-- Is a thing to be noted, with a word of it set? -/
def noteB (d : LinkD) (h : HeapD) (t : ThD) (n : Nat) (v : Int) : Bool := refI d.fields t n && (decide (h.young < t.loc) && youngB h v)
def insN (l : List Int) (x : Int) : List Int := if l.contains x then l else l.takeWhile (fun y => decide (y < x)) ++ x :: l.dropWhile (fun y => decide (y < x))
def setD (d : LinkD) (h : HeapD) (t : ThD) (n : Nat) (v : Int) : HeapD := ⟨h.words.set (t.loc + 3 + n).toNat v, h.young, h.old, h.ytop, h.otop, if noteB d h t n v then insN h.noted t.loc else h.noted, h.next⟩
theorem setD_no {d : LinkD} {h : HeapD} {t : ThD} {n : Nat} {v : Int} (e : noteB d h t n v = false) : setD d h t n v = setW h (t.loc + 3 + n).toNat v := by unfold setD setW; rw [e]; rfl
theorem Og.set {b B G gW dW : Nat} {w : World} {nO kC kS kF kN kT : Value} {h : HeapD} {d : LinkD} (o : Og b B w G (.slice (some ⟨gW, 0, none⟩) h.words.length dW) nO kC kS kF kN kT h d) (m : Nat) (v : Int) :
    Og b B (w.setCell ⟨gW, m, none⟩ (.int .i64 v)) G (.slice (some ⟨gW, 0, none⟩) h.words.length dW) nO kC kS kF kN kT (setW h m v) d ∧ Below b w (w.setCell ⟨gW, m, none⟩ (.int .i64 v)) := by
  obtain ⟨r1, hg⟩ := o.ov.rW.stored m (.int .i64 v)
  have hl := lt_of o.blk
  have hgw := o.ov.rW.lt gW rfl
  have hgG : ¬ G = gW := fun e => o.neW (by rw [e]; rfl)
  refine ⟨⟨(hg.block G hl (fun e => hgG (Option.some.inj e))).trans o.blk, ⟨?_, o.ov.rO.kept hg (Or.inr (o.ov.ne gW rfl)), o.ov.ne⟩, o.lk.kept ⟨hg.size, fun k hk hl => hg.block k hl (by have := o.le; have := hk; intro e; injection e; omega)⟩, o.le, o.gb, o.neW, o.neO⟩, (Below.refl b w).grown hg (by have := o.gb; omega) (fun k e => by cases e; exact hgw.1)⟩
  show World.ownsRow _ b 3 1 _ (h.words.set m v).length (intV (h.words.set m v))
  rw [List.length_set, intV, List.map_set]
  exact r1
set_option maxRecDepth 100000 in
set_option maxHeartbeats 4000000 in
theorem gSet_any (w : World) (b B G : Nat) (nW nO kC kS kF kN kT : Value) (h : HeapD) (d : LinkD) (og : Og b B w G nW nO kC kS kF kN kT h d) (t : ThD) (hf : FitT d t) (n : Nat) (hn : (n : Int) < t.len) (v : Int) (h1 : h.words.length ≤ 1000000) (h2 : h.noted.length ≤ 1000000) (h3 : 0 ≤ t.loc) (h4 : t.fin ≤ h.words.length)
    (hnt : noteB d h t n v = true → ∀ W, Og b B W G nW nO kC kS kF kN kT (setW h (t.loc + 3 + n).toNat v) d → Calls Tryz.prog 188 #[.pointer (some ⟨G, 0, none⟩), .int .i64 t.loc] W fun r w' => r = .returned (.tuple #[]) ∧ (∃ nO', Og b B w' G nW nO' kC kS kF kN kT (setD d h t n v) d) ∧ Below b W w') :
    Calls Tryz.prog 133 #[.pointer (some ⟨G, 0, none⟩), thV t, .int .i64 (n : Int), .int .i64 v] w fun r w' => r = .returned (.tuple #[]) ∧ (∃ nO', Og b B w' G nW nO' kC kS kF kN kT (setD d h t n v) d) ∧ Below b w w' := by
  unfold ThD.fin at h4
  obtain ⟨gW, dW, hnW⟩ : ∃ gW dW, nW = .slice (some ⟨gW, 0, none⟩) h.words.length dW := by
    rcases og.ov.rW.2 with ⟨e, h0⟩ | ⟨g, cap, cur, e, -, -, hc, -⟩
    · omega
    · exact ⟨g, cap, e⟩
  subst hnW
  obtain ⟨m, hm⟩ : ∃ m : Nat, t.loc + 3 + n = (m : Int) := ⟨(t.loc + 3 + n).toNat, by omega⟩
  have hml : m < h.words.length := by omega
  have hmm : (t.loc + 3 + n).toNat = m := by omega
  rw [hmm] at hnt
  obtain ⟨W0, hW0⟩ : ∃ W0, W0 = w.alloc (.cells #[.int .i64 t.loc, .int .i64 t.tag, .int .i64 t.len, .int .i64 t.hash] 101) := ⟨_, rfl⟩
  have hB0 : Below w.heap.size w W0 := hW0 ▸ (Below.refl _ _).alloc (Nat.le_refl _) _
  have kb : W0.heap[w.heap.size]? = some (.cells #[.int .i64 t.loc, .int .i64 t.tag, .int .i64 t.len, .int .i64 t.hash] 101 (0, 0)) := hW0 ▸ heap_alloc_new w _
  have og0 := og.below hB0
  have hgw := (og.ov.rW.lt gW rfl).2
  have hgG : ¬ G = gW := fun e => og.neW (by rw [e]; rfl)
  have hGl := lt_of og.blk
  have hbw : b ≤ w.heap.size := by have := og.gb; omega
  have hneB : ¬ w.heap.size = gW := by omega
  have c0 := cell_of og0.blk 0 (x := .slice (some ⟨gW, 0, none⟩) h.words.length dW) rfl
  have e0 := cell_of kb 0 (x := .int .i64 t.loc) rfl
  have e1 := cell_of kb 1 (x := .int .i64 t.tag) rfl
  have e2 := cell_of kb 2 (x := .int .i64 t.len) rfl
  have e3 := cell_of kb 3 (x := .int .i64 t.hash) rfl
  have lG := lt_of og0.blk
  have lB := lt_of kb
  have HWD : Hid (Calls Tryz.prog 68 #[.agg #[.int .i64 t.loc, .int .i64 t.tag, .int .i64 t.len, .int .i64 t.hash], .int .i64 (n : Int)] W0.drew fun r w' => r = .returned (.int .i64 (t.loc + 3 + n)) ∧ Below W0.drew.heap.size W0.drew w') := word_any _ t n (by unfold small; omega) (by unfold small; omega)
  have HIR : Hid (∀ V, Og b B V G (.slice (some ⟨gW, 0, none⟩) h.words.length dW) nO kC kS kF kN kT (setW h m v) d → Calls Tryz.prog 131 #[.pointer (some ⟨G, 0, none⟩), .agg #[.int .i64 t.loc, .int .i64 t.tag, .int .i64 t.len, .int .i64 t.hash], .int .i64 (n : Int)] V fun r w' => r = .returned (.bool (refI d.fields t n)) ∧ Below V.heap.size V w') := fun V o => isRef_any V _ G _ _ _ _ _ _ _ _ d (o.gd (by show (h.words.set m v).length ≤ _; rw [List.length_set]; exact h1) h2) t hf n hn
  have HIO : Hid (∀ V, Og b B V G (.slice (some ⟨gW, 0, none⟩) h.words.length dW) nO kC kS kF kN kT (setW h m v) d → Calls Tryz.prog 177 #[.pointer (some ⟨G, 0, none⟩), .int .i64 t.loc] V fun r w' => r = .returned (.bool (decide (h.young < t.loc))) ∧ w' = V) := fun V o => isOld_any V _ G _ _ _ _ _ _ _ _ d (o.gd (by show (h.words.set m v).length ≤ _; rw [List.length_set]; exact h1) h2) t.loc
  have HIY : Hid (∀ V, Og b B V G (.slice (some ⟨gW, 0, none⟩) h.words.length dW) nO kC kS kF kN kT (setW h m v) d → Calls Tryz.prog 153 #[.pointer (some ⟨G, 0, none⟩), .int .i64 v] V fun r w' => r = .returned (.bool (youngB h v)) ∧ w' = V) := fun V o => isYoung_any V _ G _ _ _ _ _ _ _ _ d (o.gd (by show (h.words.set m v).length ≤ _; rw [List.length_set]; exact h1) h2) v
  have HNT := mkHid hnt
  have HE0 := mkHid hW0
  have HB0 := mkHid hB0
  have HO0 := mkHid og0
  have HND : Hid (noteB d h t n v = false → setD d h t n v = setW h m v) := fun e => by rw [setD_no e, hmm]
  unfold thV
  clear hnt hW0 hB0 og0 og kb hf hn h2 h3 h4 hmm
  go_enter Tryz.func133, Tryz.ntmps133
  go_wp2_with fail
  rw [← HE0.out]
  refine wp_region_held_drew (S := fun W' => ∀ p : Addr, p.block < W0.heap.size → p.block ≠ gW → W'.cell? p = W0.cell? p) (by kernel_rfl) (fun p hp _ => rfl) fun hH => ?_
  refine wpAnyH_take (i := 0) (v := .pointer (some ⟨G, 0, none⟩)) rfl (by kernel_rfl) (by kernel_rfl) (by kernel_rfl) (fun _ _ _ h => h) (Or.inl ⟨by kernel_rfl, ?_⟩) hH ?_
  · intro w hSw
    go_simp
  refine wpAnyH_take (i := 1) (v := .pointer (some ⟨G, 0, none⟩)) rfl (by kernel_rfl) (by kernel_rfl) (by kernel_rfl) (fun _ _ _ h => h) (Or.inl ⟨by kernel_rfl, ?_⟩) hH ?_
  · intro w hSw
    go_simp
  refine wpAnyH_take (i := 2) (v := .pointer (some ⟨G, 0, none⟩)) rfl (by kernel_rfl) (by kernel_rfl) (by kernel_rfl) (fun _ _ _ h => h) (Or.inl ⟨by kernel_rfl, ?_⟩) hH ?_
  · intro w hSw
    go_simp
  refine wpAnyH_take (i := 3) (v := .pointer (some ⟨G, 0, none⟩)) rfl (by kernel_rfl) (by kernel_rfl) (by kernel_rfl) (fun _ _ _ h => h) (Or.inl ⟨by kernel_rfl, ?_⟩) hH ?_
  · intro w hSw
    go_simp
  refine wpAnyH_take (i := 4) (v := .slice (some ⟨gW, 0, none⟩) h.words.length dW) rfl (by kernel_rfl) (by kernel_rfl) (by kernel_rfl) (fun _ _ _ h => h) (Or.inl ⟨by kernel_rfl, ?_⟩) hH ?_
  · intro w hSw
    go_simp
  refine wpAnyH_take (i := 5) (v := .agg #[.int .i64 t.loc, .int .i64 t.tag, .int .i64 t.len, .int .i64 t.hash]) rfl (by kernel_rfl) (by kernel_rfl) (by kernel_rfl) (fun _ _ _ h => h) (Or.inl ⟨by kernel_rfl, ?_⟩) hH ?_
  · intro w hSw
    go_simp
  refine wpAnyH_take (i := 6) (v := .int .i64 (n : Int)) rfl (by kernel_rfl) (by kernel_rfl) (by kernel_rfl) (fun _ _ _ h => h) (Or.inl ⟨by kernel_rfl, ?_⟩) hH ?_
  · intro w hSw
    go_simp
  refine wpAnyH_take (i := 8) (v := .int .i64 v) rfl (by kernel_rfl) (by kernel_rfl) (by kernel_rfl) (fun _ _ _ h => h) (Or.inl ⟨by kernel_rfl, ?_⟩) hH ?_
  · intro w hSw
    go_simp
  refine wpAnyH_ready (rs := [7]) (by kernel_rfl) (by simp) ?_
  refine AllReadyH.cons rfl (fun K7 hK7 => ?_) AllReadyH.nil
  go_simp
  refine HWD.out.mono ?_
  rintro r w5 ⟨rfl, hb5⟩
  rw [hm]
  have hb6 : Below W0.heap.size W0 w5 := (Below.refl W0.heap.size W0).drew.trans hb5
  have og5 := HO0.out.below hb6
  have x0 := (og5.ov.rW.cellAt m (by rw [Nat.mul_one]; exact hml)).trans (intV_get hml)
  have x1 := og5.ov.rW.frozenAt m
  obtain ⟨og7, hb7⟩ := og5.set m v
  refine hK7.out _ _ (fun p hp hne => hb6.cell hp) fun hH => ?_
  refine wpAnyH_take (i := 9) (v := .pointer (some ⟨gW, m, none⟩)) rfl (by kernel_rfl) (by kernel_rfl) (by kernel_rfl) (fun _ _ _ h => h) (Or.inl ⟨by kernel_rfl, ?_⟩) hH ?_
  · intro w hSw
    go_simp
  refine wpAnyH_ready (rs := [10]) (by kernel_rfl) (by simp) ?_
  refine AllReadyH.cons rfl (fun K10 hK10 => ?_) AllReadyH.nil
  go_simp
  refine hK10.out _ _ (fun p hp hne => (World.cell?_of_block (a := p) (heap_setCell_other w5 ⟨gW, m, none⟩ p.block _ hne)).trans (hb6.cell hp)) fun hH => ?_
  refine wpAnyH_done (by kernel_rfl) ?_ _
  clear hH
  try simp only [Act.put, List.setIfInBounds_toArray, List.set_cons_zero, List.set_cons_succ, List.getElem_toArray, List.getElem_cons_zero, List.getElem_cons_succ]
  have HB7 : Hid (Below b w (w5.setCell ⟨gW, m, none⟩ (.int .i64 v))) := ((HB0.out.mono hbw).trans (hb6.mono (by have := HB0.out.size; omega))).trans hb7
  have y0 := (World.cell?_of_block (a := ⟨w.heap.size, 0, none⟩) (heap_setCell_other w5 ⟨gW, m, none⟩ w.heap.size (.int .i64 v) hneB)).trans ((hb6.cell (p := ⟨w.heap.size, 0, none⟩) lB).trans e0)
  have y1 := (World.cell?_of_block (a := ⟨w.heap.size, 1, none⟩) (heap_setCell_other w5 ⟨gW, m, none⟩ w.heap.size (.int .i64 v) hneB)).trans ((hb6.cell (p := ⟨w.heap.size, 1, none⟩) lB).trans e1)
  have y2 := (World.cell?_of_block (a := ⟨w.heap.size, 2, none⟩) (heap_setCell_other w5 ⟨gW, m, none⟩ w.heap.size (.int .i64 v) hneB)).trans ((hb6.cell (p := ⟨w.heap.size, 2, none⟩) lB).trans e2)
  have y3 := (World.cell?_of_block (a := ⟨w.heap.size, 3, none⟩) (heap_setCell_other w5 ⟨gW, m, none⟩ w.heap.size (.int .i64 v) hneB)).trans ((hb6.cell (p := ⟨w.heap.size, 3, none⟩) lB).trans e3)
  have l7 : w.heap.size < (w5.setCell ⟨gW, m, none⟩ (.int .i64 v)).heap.size := by have := hb6.size; have := hb7.size; omega
  have HO7 := mkHid og7
  generalize w5.setCell ⟨gW, m, none⟩ (.int .i64 v) = W7 at *
  clear hb7 hb6 hb5 og5 og7 x0 x1 e0 e1 e2 e3 c0 HWD HO0 HB0 HE0 lB lG
  go_wp2_with fail
  refine (HIR.out _ HO7.out).mono ?_
  rintro r w8 ⟨rfl, hb8⟩
  have HO8 := mkHid (HO7.out.below hb8)
  have HB8 : Hid (Below b w w8) := HB7.out.trans (hb8.mono (by have := HB7.out.size; omega))
  have z0 := (hb8.cell (p := ⟨w.heap.size, 0, none⟩) l7).trans y0
  have l8 : w.heap.size < w8.heap.size := by have := hb8.size; omega
  clear hb8 HO7 HB7 HIR
  cases hr : refI d.fields t n with
  | false =>
    have HN0 := mkHid (HND.out (by unfold noteB; rw [hr]; rfl))
    clear hr
    go_wp2_with fail
    go_end0
    exact ⟨rfl, ⟨nO, by rw [HN0.out]; exact HO8.out⟩, HB8.out⟩
  | true =>
    go_wp2_with fail
    refine (HIO.out _ HO8.out).mono ?_
    rintro r _ ⟨rfl, rfl⟩
    cases ho : decide (h.young < t.loc) with
    | false =>
      have HN0 := mkHid (HND.out (by unfold noteB; rw [hr, ho]; rfl))
      clear hr ho
      go_wp2_with fail
      go_end0
      exact ⟨rfl, ⟨nO, by rw [HN0.out]; exact HO8.out⟩, HB8.out⟩
    | true =>
      go_wp2_with fail
      refine (HIY.out _ HO8.out).mono ?_
      rintro r _ ⟨rfl, rfl⟩
      cases hy : youngB h v with
      | false =>
        have HN0 := mkHid (HND.out (by unfold noteB; rw [hr, ho, hy]; rfl))
        clear hr ho hy
        go_wp2_with fail
        go_end0
        exact ⟨rfl, ⟨nO, by rw [HN0.out]; exact HO8.out⟩, HB8.out⟩
      | true =>
        have HN1 := mkHid (HNT.out (by unfold noteB; rw [hr, ho, hy]; rfl) _ HO8.out)
        clear hr ho hy
        go_wp2_with fail
        refine HN1.out.mono ?_
        rintro r w9 ⟨rfl, hO9, hb9⟩
        have HO9 := mkHid hO9
        have HB9 := mkHid (HB8.out.trans hb9)
        clear hO9 hb9
        go_wp2_with fail
        go_end0
        exact ⟨rfl, HO9.out, HB9.out⟩
end Go.Proofs.YtjdnmblggdobgaaGreat

/- Setting a word of a heap that was asked after: the contract. -/
namespace Go.Proofs.YtjdnmblggdobgaaGreat
open Go.RowKit Go.Maps

theorem own_slice {b e n len : Nat} {w : World} {v : Value} {xs : List Value} (h : w.ownsRow b e n v len xs) : ∃ a c, v = .slice a len c := by
  rcases h.2 with ⟨e1, e2⟩ | ⟨g, cap, cur, e1, -⟩
  · exact ⟨none, 0, by rw [e1, e2]⟩
  · exact ⟨_, _, e1⟩
/-- Noting a thing is right. -/
def NoteOk (B : Nat) (kC kS kF kN kT : Value) (d : LinkD) (h : HeapD) (loc : Int) (h' : HeapD) : Prop :=
  ∀ (W : World) (b G : Nat) (nW nO : Value), Og b B W G nW nO kC kS kF kN kT h d → Calls Tryz.prog 188 #[.pointer (some ⟨G, 0, none⟩), .int .i64 loc] W fun r w' => r = .returned (.tuple #[]) ∧ (∃ nO', Og b B w' G nW nO' kC kS kF kN kT h' d) ∧ Below b W w'
/-- What setting a word comes to. -/
def SetWOut (w : World) (h : HeapD) (d : LinkD) (ts : List ThD) (loc n v : Int) (r : Ending) (w' : World) : Prop :=
  (∃ (t : ThD) (k : Nat), plAt ts loc = some t ∧ n = (k : Int) ∧ (k : Int) < t.len ∧ (refI d.fields t k = false ∨ leadB ts v = true) ∧ ∃ nW dW nO dO, r = .returned (.agg #[.slice nW (setD d h t k v).words.length dW, .int .i64 (setD d h t k v).young, .int .i64 (setD d h t k v).old, .int .i64 (setD d h t k v).ytop, .int .i64 (setD d h t k v).otop, .slice nO (setD d h t k v).noted.length dO, .int .i64 (setD d h t k v).next]) ∧ OwnV w.heap.size w' (.slice nW (setD d h t k v).words.length dW) (.slice nO (setD d h t k v).noted.length dO) (setD d h t k v)) ∨
    (plAt ts loc = none ∧ r = .panicked [wrongV 5 0]) ∨ (∃ t, plAt ts loc = some t ∧ ¬ (0 ≤ n ∧ n < t.len) ∧ r = .panicked [wrongV 3 0]) ∨
    (∃ t, plAt ts loc = some t ∧ 0 ≤ n ∧ n < t.len ∧ refI d.fields t n.toNat = true ∧ leadB ts v = false ∧ r = .panicked [wrongV 5 0])
set_option maxRecDepth 100000 in
set_option maxHeartbeats 4000000 in
theorem setW_any (w : World) (X B : Nat) (vW vO kC kS kF kN kT vA : Value) (h : HeapD) (d : LinkD) (ts : List ThD) (hc : Cht X B w vW vO kC kS kF kN kT vA h d ts) (hl : Lain d h ts) (hl2 : h.noted.length ≤ 1000000) (loc n v : Int) (hwl : (Lit.int .i64 loc).wf = true) (hwv : (Lit.int .i64 v).wf = true)
    (hnt : ∀ (t : ThD) (k : Nat), plAt ts loc = some t → n = (k : Int) → (k : Int) < t.len → noteB d h t k v = true → NoteOk B kC kS kF kN kT d (setW h (t.loc + 3 + k).toNat v) t.loc (setD d h t k v)) :
    Calls Tryz.prog 77 #[.agg #[.pointer (some ⟨X + 1, 0, none⟩)], .int .i64 loc, .int .i64 n, .int .i64 v] w fun r w' => Below w.heap.size w w' ∧ SetWOut w h d ts loc n v r w' := by
  obtain ⟨X1, hX1⟩ : ∃ Xq, Xq = w.alloc (.cells #[.pointer (some ⟨X + 1, 0, none⟩)] 88) := ⟨_, rfl⟩
  have a0 : X1.heap[w.heap.size]? = some (.cells #[.pointer (some ⟨X + 1, 0, none⟩)] 88 (0, 0)) := by rw [hX1]; exact heap_alloc_new w _
  have hz1 : X1.heap.size = w.heap.size + 1 := by rw [hX1]; simp
  have d1 : Below w.heap.size w X1 := hX1 ▸ (Below.refl _ _).alloc (Nat.le_refl _) _
  obtain ⟨W0, hX2⟩ : ∃ Xq, Xq = X1.alloc (.cells #[.slice none 0 0, .int .i64 0, .int .i64 0, .int .i64 0, .int .i64 0, .slice none 0 0, .int .i64 0] 24) := ⟨_, rfl⟩
  have a1 : W0.heap[w.heap.size + 1]? = some (.cells #[.slice none 0 0, .int .i64 0, .int .i64 0, .int .i64 0, .int .i64 0, .slice none 0 0, .int .i64 0] 24 (0, 0)) := by rw [hX2, ← hz1]; exact heap_alloc_new X1 _
  have hz2 : W0.heap.size = w.heap.size + 1 + 1 := by rw [hX2]; simp [hz1]
  have d2 : Below X1.heap.size X1 W0 := hX2 ▸ (Below.refl _ _).alloc (Nat.le_refl _) _
  have f2 : Below W0.heap.size W0 W0 := Below.refl _ _
  have f1 : Below X1.heap.size X1 W0 := d2.trans (f2.mono (by omega))
  have f0 : Below w.heap.size w W0 := d1.trans (f1.mono (by omega))
  have k0 := (f1.block _ (lt_of a0)).trans a0
  have k1 := (f2.block _ (lt_of a1)).trans a1
  have hB0 := f0
  have hs0 : W0.heap.size = w.heap.size + 1 + 1 := hz2
  have hW0 : W0 = ((w.alloc (.cells #[.pointer (some ⟨X + 1, 0, none⟩)] 88)).alloc (.cells #[.slice none 0 0, .int .i64 0, .int .i64 0, .int .i64 0, .int .i64 0, .slice none 0 0, .int .i64 0] 24)) := by rw [hX2, hX1]
  clear f0 f1 f2 a0 a1 d1 d2 hz1 hz2
  clear hX2 hX1
  clear X1
  have hc0 := hc.below hB0
  have c0 := cell_of k0 0 (x := .pointer (some ⟨X + 1, 0, none⟩)) rfl
  have HTW := mkHid (thingWith_any W0 X B _ _ _ _ _ _ _ vA h d ts hc0 loc n hwl)
  have HC0 := mkHid hc0
  have HWL : Hid (h.words.length ≤ 1000000) := by have := hl.words; show _ ≤ _; omega
  have HL2 := mkHid hl2
  have HL := mkHid hl
  have HWV := mkHid hwv
  have HNT0 := mkHid hnt
  have HE0 := mkHid hW0
  have HB0 := mkHid hB0
  have HS0 := mkHid hs0
  have HK0 := mkHid (And.intro k0 k1)
  obtain ⟨aC, cC, aS, cS, aF, cF, aN, cN, aT, cT, rfl, rfl, rfl, rfl, rfl⟩ := hc.lk.agg
  have HMB : Hid (B ≤ X ∧ X + 1 < w.heap.size) := ⟨hc.le, lt_of hc.blk⟩
  rw [HE0.out] at HTW
  clear hc hc0 hB0 hs0 k0 k1 hW0 hl hl2 hwl hwv hnt c0
  go_enter Tryz.func77, Tryz.ntmps77
  go_wp2_with fail
  refine HTW.out.mono ?_
  rw [← HE0.out]
  rintro r w1 ⟨hb1, ⟨t, hpl, hk0, hkl, rfl⟩ | ⟨hpl, rfl⟩ | ⟨t, hpl, h12, rfl⟩⟩
  rotate_left
  · exact ⟨rfl, HB0.out.trans (hb1.mono HB0.out.size), Or.inr (Or.inl ⟨hpl, rfl⟩)⟩
  · exact ⟨rfl, HB0.out.trans (hb1.mono HB0.out.size), Or.inr (Or.inr (Or.inl ⟨t, hpl, h12, rfl⟩))⟩
  obtain ⟨k, rfl⟩ : ∃ k : Nat, n = (k : Int) := ⟨n.toNat, by omega⟩
  have hs1 := hb1.size
  obtain ⟨ht, hloc⟩ := plAt_mem ts hpl
  have HFT := mkHid (HL.out.fit t ht)
  have HNT := mkHid (HNT0.out t k hpl rfl hkl)
  have HPL := mkHid hpl
  obtain ⟨W3, hW3⟩ : ∃ W3, W3 = w1.alloc (.cells #[.int .i64 t.loc, .int .i64 t.tag, .int .i64 t.len, .int .i64 t.hash] 101) := ⟨_, rfl⟩
  have hA3 : Below w1.heap.size w1 W3 := hW3 ▸ (Below.refl _ _).alloc (Nat.le_refl _) _
  have hs3 := hA3.size
  have hb3 : Below W0.heap.size W0 W3 := hb1.trans (hA3.mono hs1)
  have HS3 : Hid (w.heap.size + 1 + 1 ≤ w1.heap.size ∧ w1.heap.size + 1 = W3.heap.size) := ⟨by have := HS0.out; omega, by rw [hW3]; simp⟩
  have HB3 : Hid (Below w.heap.size w W3) := HB0.out.trans (hb3.mono HB0.out.size)
  have HC3 := mkHid (HC0.out.below hb3)
  have k3 := (hb3.block _ (lt_of HK0.out.1)).trans HK0.out.1
  have m3 : W3.heap[w1.heap.size]? = some (.cells #[.int .i64 t.loc, .int .i64 t.tag, .int .i64 t.len, .int .i64 t.hash] 101 (0, 0)) := hW3 ▸ heap_alloc_new w1 _
  have HK3 := mkHid (And.intro k3 m3)
  have HKR := mkHid ((hb3.block _ (lt_of HK0.out.2)).trans HK0.out.2)
  have lk3 := lt_of k3
  have lm3 := lt_of m3
  have b0 := cell_of k3 0 (x := .pointer (some ⟨X + 1, 0, none⟩)) rfl
  have e0 := cell_of m3 0 (x := .int .i64 t.loc) rfl
  have e1 := cell_of m3 1 (x := .int .i64 t.tag) rfl
  have e2 := cell_of m3 2 (x := .int .i64 t.len) rfl
  have e3 := cell_of m3 3 (x := .int .i64 t.hash) rfl
  have HIR : Hid (∀ V, Below W3.heap.size W3 V → Calls Tryz.prog 131 #[.pointer (some ⟨X + 1, 0, none⟩), .agg #[.int .i64 t.loc, .int .i64 t.tag, .int .i64 t.len, .int .i64 t.hash], .int .i64 (k : Int)] V fun r w' => r = .returned (.bool (refI d.fields t k)) ∧ Below V.heap.size V w') := fun V hV => isRef_any V B (X + 1) _ _ _ _ _ _ _ h d (HC3.out.below hV).gd t HFT.out.1 k hkl
  have HML : Hid (∀ V, Below W3.heap.size W3 V → Calls Tryz.prog 132 #[.pointer (some ⟨X + 1, 0, none⟩), .int .i64 v] V fun r w' => r = .returned (.bool (leadB ts v)) ∧ Below V.heap.size V w') := fun V hV => mayLead_any V X B _ _ _ _ _ _ _ vA h d ts (HC3.out.below hV) v HWV.out
  have HW3 := mkHid hW3
  unfold thV
  clear hpl hb1 ht hloc hW3 hA3 hb3 k3 m3 HTW HL HNT0
  cases hrf : refI d.fields t k with
  | false =>
    go_wp2_with fail
    rw [← HW3.out]
    refine wp_region_held_drew (S := fun W' => ∀ p : Addr, p.block < W3.heap.size → W'.cell? p = W3.cell? p) (by kernel_rfl) (fun p hp => rfl) fun hH => ?_
    refine wpAnyH_take (i := 0) (v := .pointer (some ⟨w.heap.size, 0, none⟩)) rfl (by kernel_rfl) (by kernel_rfl) (by kernel_rfl) (fun _ _ _ h => h) (Or.inl ⟨by kernel_rfl, ?_⟩) hH ?_
    · intro w hSw
      go_simp
    refine wpAnyH_take (i := 1) (v := .pointer (some ⟨X + 1, 0, none⟩)) rfl (by kernel_rfl) (by kernel_rfl) (by kernel_rfl) (fun _ _ _ h => h) (Or.inl ⟨by kernel_rfl, ?_⟩) hH ?_
    · intro w hSw
      go_simp
    refine wpAnyH_take (i := 2) (v := .pointer (some ⟨X + 1, 0, none⟩)) rfl (by kernel_rfl) (by kernel_rfl) (by kernel_rfl) (fun _ _ _ h => h) (Or.inl ⟨by kernel_rfl, ?_⟩) hH ?_
    · intro w hSw
      go_simp
    refine wpAnyH_take (i := 3) (v := .pointer (some ⟨X + 1, 0, none⟩)) rfl (by kernel_rfl) (by kernel_rfl) (by kernel_rfl) (fun _ _ _ h => h) (Or.inl ⟨by kernel_rfl, ?_⟩) hH ?_
    · intro w hSw
      go_simp
    refine wpAnyH_take (i := 4) (v := .agg #[.int .i64 t.loc, .int .i64 t.tag, .int .i64 t.len, .int .i64 t.hash]) rfl (by kernel_rfl) (by kernel_rfl) (by kernel_rfl) (fun _ _ _ h => h) (Or.inl ⟨by kernel_rfl, ?_⟩) hH ?_
    · intro w hSw
      go_simp
    refine wpAnyH_take (i := 5) (v := .int .i64 (k : Int)) rfl (by kernel_rfl) (by kernel_rfl) (by kernel_rfl) (fun _ _ _ h => h) (Or.inl ⟨by kernel_rfl, ?_⟩) hH ?_
    · intro w hSw
      go_simp
    refine wpAnyH_ready (rs := [6]) (by kernel_rfl) (by simp) ?_
    refine AllReadyH.cons rfl (fun K6 hK6 => ?_) AllReadyH.nil
    go_simp
    refine (HIR.out _ (Below.refl _ _).drew).mono ?_
    rintro r w5 ⟨rfl, hb5⟩
    rw [hrf]
    have hb6 : Below W3.heap.size W3 w5 := (Below.refl W3.heap.size W3).drew.trans hb5
    refine hK6.out _ _ (fun p hp => hb6.cell hp) fun hH => ?_
    refine wpAnyH_take (i := 7) (v := .bool true) rfl (by kernel_rfl) (by kernel_rfl) (by kernel_rfl) (fun _ _ _ h => h) (Or.inl ⟨by kernel_rfl, ?_⟩) hH ?_
    · intro w hSw
      go_simp
    refine wpAnyH_take (i := 8) (v := .bool true) rfl (by kernel_rfl) (by kernel_rfl) (by kernel_rfl) (fun _ _ _ h => h) (Or.inl ⟨by kernel_rfl, ?_⟩) hH ?_
    · intro w hSw
      go_simp
    refine wpAnyH_take (i := 9) (v := undef) rfl (by kernel_rfl) (by kernel_rfl) (by kernel_rfl) (fun _ _ _ h => h) (Or.inr ⟨by kernel_rfl, rfl⟩) hH ?_
    refine wpAnyH_take (i := 10) (v := undef) rfl (by kernel_rfl) (by kernel_rfl) (by kernel_rfl) (fun _ _ _ h => h) (Or.inr ⟨by kernel_rfl, rfl⟩) hH ?_
    refine wpAnyH_take (i := 11) (v := undef) rfl (by kernel_rfl) (by kernel_rfl) (by kernel_rfl) (fun _ _ _ h => h) (Or.inr ⟨by kernel_rfl, rfl⟩) hH ?_
    refine wpAnyH_take (i := 12) (v := undef) rfl (by kernel_rfl) (by kernel_rfl) (by kernel_rfl) (fun _ _ _ h => h) (Or.inr ⟨by kernel_rfl, rfl⟩) hH ?_
    refine wpAnyH_take (i := 13) (v := .bool true) rfl (by kernel_rfl) (by kernel_rfl) (by kernel_rfl) (fun _ _ _ h => h) (Or.inl ⟨by kernel_rfl, ?_⟩) hH ?_
    · intro w hSw
      go_simp
    refine wpAnyH_ready (rs := [14]) (by kernel_rfl) (by simp) ?_
    refine AllReadyH.cons rfl (fun K14 hK14 => ?_) AllReadyH.nil
    go_simp
    refine (demand_any _ _ _).mono ?_
    rintro r w8 ⟨rfl, ⟨hb, rfl⟩ | ⟨hb, rfl⟩⟩
    · exact absurd hb (by simp)
    clear hb
    refine hK14.out _ _ (fun p hp => hb6.cell hp) fun hH => ?_
    refine wpAnyH_done (by kernel_rfl) ?_ _
    clear hH
    try simp only [Act.put, List.setIfInBounds_toArray, List.set_cons_zero, List.set_cons_succ, List.getElem_toArray, List.getElem_cons_zero, List.getElem_cons_succ]
    have hB4 : Below W3.heap.size W3 w8 := hb6
    generalize w8 = w4 at *
    have hs4 := hB4.size
    have hc4 := HC3.out.below hB4
    have k4 := (hB4.block _ (lt_of HK3.out.1)).trans HK3.out.1
    have lk4 := lt_of k4
    have c0 := cell_of k4 0 (x := .pointer (some ⟨X + 1, 0, none⟩)) rfl
    have HOWN := mkHid (ownW_any w4 X B _ _ _ _ _ _ _ vA h d ts hc4 HWL.out HL2.out)
    have HB4 := mkHid hB4
    clear hB4 hc4 k4 hb5 hb6
    go_wp2_with fail
    refine HOWN.out.mono ?_
    rintro r w6 ⟨hb6, nW, dW, nO, dO, rfl, hov⟩
    have hs6 := hb6.size
    obtain ⟨W7, hW7⟩ : ∃ W7, W7 = w6.alloc (.cells #[.slice nW h.words.length dW, .int .i64 h.young, .int .i64 h.old, .int .i64 h.ytop, .int .i64 h.otop, .slice nO h.noted.length dO, .int .i64 h.next, .slice aC d.classes.length cC, .slice aS d.supers.length cS, .slice aF d.fields.length cF, .slice aN d.names.length cN, .slice aT d.targets.length cT] 129) := ⟨_, rfl⟩
    have hA7 : Below w6.heap.size w6 W7 := hW7 ▸ (Below.refl _ _).alloc (Nat.le_refl _) _
    have hs7 := hA7.size
    have hs3 := HS3.out
    have hb37 : Below W3.heap.size W3 W7 := (HB4.out.trans (hb6.mono hs4)).trans (hA7.mono (by omega))
    have hog : Og w4.heap.size B W7 w6.heap.size (.slice nW h.words.length dW) (.slice nO h.noted.length dO) (.slice aC d.classes.length cC) (.slice aS d.supers.length cS) (.slice aF d.fields.length cF) (.slice aN d.names.length cN) (.slice aT d.targets.length cT) h d := by
      have h0 := HMB.out
      refine ⟨hW7 ▸ heap_alloc_new w6 _, hov.below hA7, (HC3.out.below hb37).lk, by omega, hs6, fun e => by have := (hov.rW.lt _ e).2; omega, fun e => by have := (hov.rO.lt _ e).2; omega⟩
    have HGS := mkHid (gSet_any W7 w4.heap.size B w6.heap.size _ _ _ _ _ _ _ h d hog t HFT.out.1 k hkl v HWL.out HL2.out HFT.out.2.1 HFT.out.2.2 (fun e W o => HNT.out e W _ _ _ _ o))
    have m1 := ((HB4.out.trans (hb6.mono hs4)).block _ (lt_of HK3.out.2)).trans HK3.out.2
    have lm1 := lt_of m1
    have d0 := cell_of m1 0 (x := .int .i64 t.loc) rfl
    have d1 := cell_of m1 1 (x := .int .i64 t.tag) rfl
    have d2 := cell_of m1 2 (x := .int .i64 t.len) rfl
    have d3 := cell_of m1 3 (x := .int .i64 t.hash) rfl
    have HB37 := mkHid hb37
    have HW7 := mkHid hW7
    unfold thV at HGS
    clear hb6 hov hb37 hog m1 hA7 hW7 HOWN
    go_wp2_with fail
    rw [← HW7.out]
    refine HGS.out.mono ?_
    rintro r w8 ⟨rfl, ⟨nO', hog8⟩, hb8⟩
    obtain ⟨nO2, dO2, rfl⟩ := own_slice hog8.ov.rO
    obtain ⟨hm, hhm⟩ : ∃ hm, setD d h t k v = hm := ⟨_, rfl⟩
    have HHM := mkHid hhm
    have hwl : hm.words.length = h.words.length := by rw [← hhm]; simp [setD]
    rw [hhm, ← hwl] at hog8
    have g8 := hog8.blk
    have lg8 := lt_of g8
    have j0 := cell_of g8 0 (x := .slice nW hm.words.length dW) rfl
    have j1 := cell_of g8 1 (x := .int .i64 hm.young) rfl
    have j2 := cell_of g8 2 (x := .int .i64 hm.old) rfl
    have j3 := cell_of g8 3 (x := .int .i64 hm.ytop) rfl
    have j4 := cell_of g8 4 (x := .int .i64 hm.otop) rfl
    have j5 := cell_of g8 5 (x := .slice nO2 hm.noted.length dO2) rfl
    have j6 := cell_of g8 6 (x := .int .i64 hm.next) rfl
    have hsz := HB37.out.size
    have hb38 : Below W3.heap.size W3 w8 := HB37.out.trans (hb8.mono (by omega))
    have k8 := (hb38.block _ (lt_of HKR.out)).trans HKR.out
    have hB8 : Below w.heap.size w w8 := HB3.out.trans (hb38.mono HB3.out.size)
    have r0 := cell_of k8 0 (x := .slice none 0 0) rfl
    have r1 := cell_of k8 1 (x := .int .i64 0) rfl
    have r2 := cell_of k8 2 (x := .int .i64 0) rfl
    have r3 := cell_of k8 3 (x := .int .i64 0) rfl
    have r4 := cell_of k8 4 (x := .int .i64 0) rfl
    have r5 := cell_of k8 5 (x := .slice none 0 0) rfl
    have r6 := cell_of k8 6 (x := .int .i64 0) rfl
    have rz := fun j => frz_of k8 j
    have rl := lt_of k8
    obtain ⟨hgS, hcS, -⟩ := setL_ok (w.heap.size + 1) [.slice nW hm.words.length dW, .int .i64 hm.young, .int .i64 hm.old, .int .i64 hm.ytop, .int .i64 hm.otop, .slice nO2 hm.noted.length dO2, .int .i64 hm.next] w8 0 (fun j hj => by
      rw [Nat.zero_add]
      match j, hj with
      | 0, _ => exact ⟨_, r0⟩
      | 1, _ => exact ⟨_, r1⟩
      | 2, _ => exact ⟨_, r2⟩
      | 3, _ => exact ⟨_, r3⟩
      | 4, _ => exact ⟨_, r4⟩
      | 5, _ => exact ⟨_, r5⟩
      | 6, _ => exact ⟨_, r6⟩
      )
    obtain ⟨W9, h9⟩ : ∃ W9, setL w8 (w.heap.size + 1) 0 [.slice nW hm.words.length dW, .int .i64 hm.young, .int .i64 hm.old, .int .i64 hm.ytop, .int .i64 hm.otop, .slice nO2 hm.noted.length dO2, .int .i64 hm.next] = W9 := ⟨_, rfl⟩
    rw [h9] at hgS hcS
    have hw9 := hgS.size
    have q0 : W9.cell? ⟨w.heap.size + 1, 0, none⟩ = some (.slice nW hm.words.length dW) := (hcS 0 (by simp)).trans rfl
    have q1 : W9.cell? ⟨w.heap.size + 1, 1, none⟩ = some (.int .i64 hm.young) := (hcS 1 (by simp)).trans rfl
    have q2 : W9.cell? ⟨w.heap.size + 1, 2, none⟩ = some (.int .i64 hm.old) := (hcS 2 (by simp)).trans rfl
    have q3 : W9.cell? ⟨w.heap.size + 1, 3, none⟩ = some (.int .i64 hm.ytop) := (hcS 3 (by simp)).trans rfl
    have q4 : W9.cell? ⟨w.heap.size + 1, 4, none⟩ = some (.int .i64 hm.otop) := (hcS 4 (by simp)).trans rfl
    have q5 : W9.cell? ⟨w.heap.size + 1, 5, none⟩ = some (.slice nO2 hm.noted.length dO2) := (hcS 5 (by simp)).trans rfl
    have q6 : W9.cell? ⟨w.heap.size + 1, 6, none⟩ = some (.int .i64 hm.next) := (hcS 6 (by simp)).trans rfl
    have HB9 := mkHid (below_of_grown (hB8) hgS (by omega))
    have HG9 := mkHid hgS
    have H9 : Hid ((((((((w8.setCell ⟨w.heap.size + 1, 0, none⟩ (.slice nW hm.words.length dW)).setCell ⟨w.heap.size + 1, 1, none⟩ (.int .i64 hm.young)).setCell ⟨w.heap.size + 1, 2, none⟩ (.int .i64 hm.old)).setCell ⟨w.heap.size + 1, 3, none⟩ (.int .i64 hm.ytop)).setCell ⟨w.heap.size + 1, 4, none⟩ (.int .i64 hm.otop)).setCell ⟨w.heap.size + 1, 5, none⟩ (.slice nO2 hm.noted.length dO2)).setCell ⟨w.heap.size + 1, 6, none⟩ (.int .i64 hm.next)) = W9) := h9
    clear hgS hcS h9
    have HOF : Hid (OwnV w.heap.size W9 (.slice nW hm.words.length dW) (.slice nO2 hm.noted.length dO2) hm) := (hog8.ov.mono (by omega)).grown HG9.out (fun e => by have := (hog8.ov.rW.lt _ e).1; omega) (fun e => by have := (hog8.ov.rO.lt _ e).1; omega)
    clear hog8 hb8 hb38 g8 k8 hB8 hhm hwl HGS HB37 HW7 d0 d1 d2 d3
    go_wp2_with fail
    rw [H9.out]
    refine bodyPost_ret (v := .agg #[.slice nW hm.words.length dW, .int .i64 hm.young, .int .i64 hm.old, .int .i64 hm.ytop, .int .i64 hm.otop, .slice nO2 hm.noted.length dO2, .int .i64 hm.next]) (by simp [results, Tryz.results77, go_sem, q0, q1, q2, q3, q4, q5, q6]) rfl ⟨HB9.out, Or.inl ⟨t, k, HPL.out, rfl, hkl, Or.inl hrf, nW, dW, nO2, dO2, ?_, ?_⟩⟩
    · rw [HHM.out]
    · rw [HHM.out]
      exact HOF.out
  | true =>
    cases hle : leadB ts v with
    | false =>
      go_wp2_with fail
      rw [← HW3.out]
      refine wp_region_held_drew (S := fun W' => ∀ p : Addr, p.block < W3.heap.size → W'.cell? p = W3.cell? p) (by kernel_rfl) (fun p hp => rfl) fun hH => ?_
      refine wpAnyH_take (i := 0) (v := .pointer (some ⟨w.heap.size, 0, none⟩)) rfl (by kernel_rfl) (by kernel_rfl) (by kernel_rfl) (fun _ _ _ h => h) (Or.inl ⟨by kernel_rfl, ?_⟩) hH ?_
      · intro w hSw
        go_simp
      refine wpAnyH_take (i := 1) (v := .pointer (some ⟨X + 1, 0, none⟩)) rfl (by kernel_rfl) (by kernel_rfl) (by kernel_rfl) (fun _ _ _ h => h) (Or.inl ⟨by kernel_rfl, ?_⟩) hH ?_
      · intro w hSw
        go_simp
      refine wpAnyH_take (i := 2) (v := .pointer (some ⟨X + 1, 0, none⟩)) rfl (by kernel_rfl) (by kernel_rfl) (by kernel_rfl) (fun _ _ _ h => h) (Or.inl ⟨by kernel_rfl, ?_⟩) hH ?_
      · intro w hSw
        go_simp
      refine wpAnyH_take (i := 3) (v := .pointer (some ⟨X + 1, 0, none⟩)) rfl (by kernel_rfl) (by kernel_rfl) (by kernel_rfl) (fun _ _ _ h => h) (Or.inl ⟨by kernel_rfl, ?_⟩) hH ?_
      · intro w hSw
        go_simp
      refine wpAnyH_take (i := 4) (v := .agg #[.int .i64 t.loc, .int .i64 t.tag, .int .i64 t.len, .int .i64 t.hash]) rfl (by kernel_rfl) (by kernel_rfl) (by kernel_rfl) (fun _ _ _ h => h) (Or.inl ⟨by kernel_rfl, ?_⟩) hH ?_
      · intro w hSw
        go_simp
      refine wpAnyH_take (i := 5) (v := .int .i64 (k : Int)) rfl (by kernel_rfl) (by kernel_rfl) (by kernel_rfl) (fun _ _ _ h => h) (Or.inl ⟨by kernel_rfl, ?_⟩) hH ?_
      · intro w hSw
        go_simp
      refine wpAnyH_ready (rs := [6]) (by kernel_rfl) (by simp) ?_
      refine AllReadyH.cons rfl (fun K6 hK6 => ?_) AllReadyH.nil
      go_simp
      refine (HIR.out _ (Below.refl _ _).drew).mono ?_
      rintro r w5 ⟨rfl, hb5⟩
      rw [hrf]
      have hb6 : Below W3.heap.size W3 w5 := (Below.refl W3.heap.size W3).drew.trans hb5
      refine hK6.out _ _ (fun p hp => hb6.cell hp) fun hH => ?_
      refine wpAnyH_take (i := 7) (v := .bool false) rfl (by kernel_rfl) (by kernel_rfl) (by kernel_rfl) (fun _ _ _ h => h) (Or.inl ⟨by kernel_rfl, ?_⟩) hH ?_
      · intro w hSw
        go_simp
      refine wpAnyH_take (i := 8) (v := .bool false) rfl (by kernel_rfl) (by kernel_rfl) (by kernel_rfl) (fun _ _ _ h => h) (Or.inl ⟨by kernel_rfl, ?_⟩) hH ?_
      · intro w hSw
        go_simp
      refine wpAnyH_take (i := 9) (v := .pointer (some ⟨w.heap.size, 0, none⟩)) rfl (by kernel_rfl) (by kernel_rfl) (by kernel_rfl) (fun _ _ _ h => h) (Or.inl ⟨by kernel_rfl, ?_⟩) hH ?_
      · intro w hSw
        go_simp
      refine wpAnyH_take (i := 10) (v := .pointer (some ⟨X + 1, 0, none⟩)) rfl (by kernel_rfl) (by kernel_rfl) (by kernel_rfl) (fun _ _ _ h => h) (Or.inl ⟨by kernel_rfl, ?_⟩) hH ?_
      · intro w hSw
        go_simp
      refine wpAnyH_take (i := 11) (v := .int .i64 v) rfl (by kernel_rfl) (by kernel_rfl) (by kernel_rfl) (fun _ _ _ h => h) (Or.inl ⟨by kernel_rfl, ?_⟩) hH ?_
      · intro w hSw
        go_simp
      refine wpAnyH_ready (rs := [12]) (by kernel_rfl) (by simp) ?_
      refine AllReadyH.cons rfl (fun K12 hK12 => ?_) AllReadyH.nil
      go_simp
      refine (HML.out _ hb6).mono ?_
      rintro r w6 ⟨rfl, hb7⟩
      rw [hle]
      have hb8 : Below W3.heap.size W3 w6 := hb6.trans (hb7.mono hb6.size)
      refine hK12.out _ _ (fun p hp => hb8.cell hp) fun hH => ?_
      refine wpAnyH_take (i := 13) (v := .bool false) rfl (by kernel_rfl) (by kernel_rfl) (by kernel_rfl) (fun _ _ _ h => h) (Or.inl ⟨by kernel_rfl, ?_⟩) hH ?_
      · intro w hSw
        go_simp
      refine wpAnyH_ready (rs := [14]) (by kernel_rfl) (by simp) ?_
      refine AllReadyH.cons rfl (fun K14 hK14 => ?_) AllReadyH.nil
      go_simp
      refine (demand_any _ _ _).mono ?_
      rintro r w8 ⟨rfl, ⟨hb, rfl⟩ | ⟨hb, rfl⟩⟩
      rotate_left
      · exact absurd hb (by simp)
      exact ⟨rfl, HB3.out.trans (hb8.mono HB3.out.size), Or.inr (Or.inr (Or.inr ⟨t, HPL.out, hk0, hkl, by simpa using hrf, hle, rfl⟩))⟩
    | true =>
      go_wp2_with fail
      rw [← HW3.out]
      refine wp_region_held_drew (S := fun W' => ∀ p : Addr, p.block < W3.heap.size → W'.cell? p = W3.cell? p) (by kernel_rfl) (fun p hp => rfl) fun hH => ?_
      refine wpAnyH_take (i := 0) (v := .pointer (some ⟨w.heap.size, 0, none⟩)) rfl (by kernel_rfl) (by kernel_rfl) (by kernel_rfl) (fun _ _ _ h => h) (Or.inl ⟨by kernel_rfl, ?_⟩) hH ?_
      · intro w hSw
        go_simp
      refine wpAnyH_take (i := 1) (v := .pointer (some ⟨X + 1, 0, none⟩)) rfl (by kernel_rfl) (by kernel_rfl) (by kernel_rfl) (fun _ _ _ h => h) (Or.inl ⟨by kernel_rfl, ?_⟩) hH ?_
      · intro w hSw
        go_simp
      refine wpAnyH_take (i := 2) (v := .pointer (some ⟨X + 1, 0, none⟩)) rfl (by kernel_rfl) (by kernel_rfl) (by kernel_rfl) (fun _ _ _ h => h) (Or.inl ⟨by kernel_rfl, ?_⟩) hH ?_
      · intro w hSw
        go_simp
      refine wpAnyH_take (i := 3) (v := .pointer (some ⟨X + 1, 0, none⟩)) rfl (by kernel_rfl) (by kernel_rfl) (by kernel_rfl) (fun _ _ _ h => h) (Or.inl ⟨by kernel_rfl, ?_⟩) hH ?_
      · intro w hSw
        go_simp
      refine wpAnyH_take (i := 4) (v := .agg #[.int .i64 t.loc, .int .i64 t.tag, .int .i64 t.len, .int .i64 t.hash]) rfl (by kernel_rfl) (by kernel_rfl) (by kernel_rfl) (fun _ _ _ h => h) (Or.inl ⟨by kernel_rfl, ?_⟩) hH ?_
      · intro w hSw
        go_simp
      refine wpAnyH_take (i := 5) (v := .int .i64 (k : Int)) rfl (by kernel_rfl) (by kernel_rfl) (by kernel_rfl) (fun _ _ _ h => h) (Or.inl ⟨by kernel_rfl, ?_⟩) hH ?_
      · intro w hSw
        go_simp
      refine wpAnyH_ready (rs := [6]) (by kernel_rfl) (by simp) ?_
      refine AllReadyH.cons rfl (fun K6 hK6 => ?_) AllReadyH.nil
      go_simp
      refine (HIR.out _ (Below.refl _ _).drew).mono ?_
      rintro r w5 ⟨rfl, hb5⟩
      rw [hrf]
      have hb6 : Below W3.heap.size W3 w5 := (Below.refl W3.heap.size W3).drew.trans hb5
      refine hK6.out _ _ (fun p hp => hb6.cell hp) fun hH => ?_
      refine wpAnyH_take (i := 7) (v := .bool false) rfl (by kernel_rfl) (by kernel_rfl) (by kernel_rfl) (fun _ _ _ h => h) (Or.inl ⟨by kernel_rfl, ?_⟩) hH ?_
      · intro w hSw
        go_simp
      refine wpAnyH_take (i := 8) (v := .bool false) rfl (by kernel_rfl) (by kernel_rfl) (by kernel_rfl) (fun _ _ _ h => h) (Or.inl ⟨by kernel_rfl, ?_⟩) hH ?_
      · intro w hSw
        go_simp
      refine wpAnyH_take (i := 9) (v := .pointer (some ⟨w.heap.size, 0, none⟩)) rfl (by kernel_rfl) (by kernel_rfl) (by kernel_rfl) (fun _ _ _ h => h) (Or.inl ⟨by kernel_rfl, ?_⟩) hH ?_
      · intro w hSw
        go_simp
      refine wpAnyH_take (i := 10) (v := .pointer (some ⟨X + 1, 0, none⟩)) rfl (by kernel_rfl) (by kernel_rfl) (by kernel_rfl) (fun _ _ _ h => h) (Or.inl ⟨by kernel_rfl, ?_⟩) hH ?_
      · intro w hSw
        go_simp
      refine wpAnyH_take (i := 11) (v := .int .i64 v) rfl (by kernel_rfl) (by kernel_rfl) (by kernel_rfl) (fun _ _ _ h => h) (Or.inl ⟨by kernel_rfl, ?_⟩) hH ?_
      · intro w hSw
        go_simp
      refine wpAnyH_ready (rs := [12]) (by kernel_rfl) (by simp) ?_
      refine AllReadyH.cons rfl (fun K12 hK12 => ?_) AllReadyH.nil
      go_simp
      refine (HML.out _ hb6).mono ?_
      rintro r w6 ⟨rfl, hb7⟩
      rw [hle]
      have hb8 : Below W3.heap.size W3 w6 := hb6.trans (hb7.mono hb6.size)
      refine hK12.out _ _ (fun p hp => hb8.cell hp) fun hH => ?_
      refine wpAnyH_take (i := 13) (v := .bool true) rfl (by kernel_rfl) (by kernel_rfl) (by kernel_rfl) (fun _ _ _ h => h) (Or.inl ⟨by kernel_rfl, ?_⟩) hH ?_
      · intro w hSw
        go_simp
      refine wpAnyH_ready (rs := [14]) (by kernel_rfl) (by simp) ?_
      refine AllReadyH.cons rfl (fun K14 hK14 => ?_) AllReadyH.nil
      go_simp
      refine (demand_any _ _ _).mono ?_
      rintro r w8 ⟨rfl, ⟨hb, rfl⟩ | ⟨hb, rfl⟩⟩
      · exact absurd hb (by simp)
      clear hb
      refine hK14.out _ _ (fun p hp => hb8.cell hp) fun hH => ?_
      refine wpAnyH_done (by kernel_rfl) ?_ _
      clear hH
      try simp only [Act.put, List.setIfInBounds_toArray, List.set_cons_zero, List.set_cons_succ, List.getElem_toArray, List.getElem_cons_zero, List.getElem_cons_succ]
      have hB4 : Below W3.heap.size W3 w8 := hb8
      generalize w8 = w4 at *
      have hs4 := hB4.size
      have hc4 := HC3.out.below hB4
      have k4 := (hB4.block _ (lt_of HK3.out.1)).trans HK3.out.1
      have lk4 := lt_of k4
      have c0 := cell_of k4 0 (x := .pointer (some ⟨X + 1, 0, none⟩)) rfl
      have HOWN := mkHid (ownW_any w4 X B _ _ _ _ _ _ _ vA h d ts hc4 HWL.out HL2.out)
      have HB4 := mkHid hB4
      clear hB4 hc4 k4 hb5 hb6 hb7 hb8
      go_wp2_with fail
      refine HOWN.out.mono ?_
      rintro r w6 ⟨hb6, nW, dW, nO, dO, rfl, hov⟩
      have hs6 := hb6.size
      obtain ⟨W7, hW7⟩ : ∃ W7, W7 = w6.alloc (.cells #[.slice nW h.words.length dW, .int .i64 h.young, .int .i64 h.old, .int .i64 h.ytop, .int .i64 h.otop, .slice nO h.noted.length dO, .int .i64 h.next, .slice aC d.classes.length cC, .slice aS d.supers.length cS, .slice aF d.fields.length cF, .slice aN d.names.length cN, .slice aT d.targets.length cT] 129) := ⟨_, rfl⟩
      have hA7 : Below w6.heap.size w6 W7 := hW7 ▸ (Below.refl _ _).alloc (Nat.le_refl _) _
      have hs7 := hA7.size
      have hs3 := HS3.out
      have hb37 : Below W3.heap.size W3 W7 := (HB4.out.trans (hb6.mono hs4)).trans (hA7.mono (by omega))
      have hog : Og w4.heap.size B W7 w6.heap.size (.slice nW h.words.length dW) (.slice nO h.noted.length dO) (.slice aC d.classes.length cC) (.slice aS d.supers.length cS) (.slice aF d.fields.length cF) (.slice aN d.names.length cN) (.slice aT d.targets.length cT) h d := by
        have h0 := HMB.out
        refine ⟨hW7 ▸ heap_alloc_new w6 _, hov.below hA7, (HC3.out.below hb37).lk, by omega, hs6, fun e => by have := (hov.rW.lt _ e).2; omega, fun e => by have := (hov.rO.lt _ e).2; omega⟩
      have HGS := mkHid (gSet_any W7 w4.heap.size B w6.heap.size _ _ _ _ _ _ _ h d hog t HFT.out.1 k hkl v HWL.out HL2.out HFT.out.2.1 HFT.out.2.2 (fun e W o => HNT.out e W _ _ _ _ o))
      have m1 := ((HB4.out.trans (hb6.mono hs4)).block _ (lt_of HK3.out.2)).trans HK3.out.2
      have lm1 := lt_of m1
      have d0 := cell_of m1 0 (x := .int .i64 t.loc) rfl
      have d1 := cell_of m1 1 (x := .int .i64 t.tag) rfl
      have d2 := cell_of m1 2 (x := .int .i64 t.len) rfl
      have d3 := cell_of m1 3 (x := .int .i64 t.hash) rfl
      have HB37 := mkHid hb37
      have HW7 := mkHid hW7
      unfold thV at HGS
      clear hb6 hov hb37 hog m1 hA7 hW7 HOWN
      go_wp2_with fail
      rw [← HW7.out]
      refine HGS.out.mono ?_
      rintro r w8 ⟨rfl, ⟨nO', hog8⟩, hb8⟩
      obtain ⟨nO2, dO2, rfl⟩ := own_slice hog8.ov.rO
      obtain ⟨hm, hhm⟩ : ∃ hm, setD d h t k v = hm := ⟨_, rfl⟩
      have HHM := mkHid hhm
      have hwl : hm.words.length = h.words.length := by rw [← hhm]; simp [setD]
      rw [hhm, ← hwl] at hog8
      have g8 := hog8.blk
      have lg8 := lt_of g8
      have j0 := cell_of g8 0 (x := .slice nW hm.words.length dW) rfl
      have j1 := cell_of g8 1 (x := .int .i64 hm.young) rfl
      have j2 := cell_of g8 2 (x := .int .i64 hm.old) rfl
      have j3 := cell_of g8 3 (x := .int .i64 hm.ytop) rfl
      have j4 := cell_of g8 4 (x := .int .i64 hm.otop) rfl
      have j5 := cell_of g8 5 (x := .slice nO2 hm.noted.length dO2) rfl
      have j6 := cell_of g8 6 (x := .int .i64 hm.next) rfl
      have hsz := HB37.out.size
      have hb38 : Below W3.heap.size W3 w8 := HB37.out.trans (hb8.mono (by omega))
      have k8 := (hb38.block _ (lt_of HKR.out)).trans HKR.out
      have hB8 : Below w.heap.size w w8 := HB3.out.trans (hb38.mono HB3.out.size)
      have r0 := cell_of k8 0 (x := .slice none 0 0) rfl
      have r1 := cell_of k8 1 (x := .int .i64 0) rfl
      have r2 := cell_of k8 2 (x := .int .i64 0) rfl
      have r3 := cell_of k8 3 (x := .int .i64 0) rfl
      have r4 := cell_of k8 4 (x := .int .i64 0) rfl
      have r5 := cell_of k8 5 (x := .slice none 0 0) rfl
      have r6 := cell_of k8 6 (x := .int .i64 0) rfl
      have rz := fun j => frz_of k8 j
      have rl := lt_of k8
      obtain ⟨hgS, hcS, -⟩ := setL_ok (w.heap.size + 1) [.slice nW hm.words.length dW, .int .i64 hm.young, .int .i64 hm.old, .int .i64 hm.ytop, .int .i64 hm.otop, .slice nO2 hm.noted.length dO2, .int .i64 hm.next] w8 0 (fun j hj => by
        rw [Nat.zero_add]
        match j, hj with
        | 0, _ => exact ⟨_, r0⟩
        | 1, _ => exact ⟨_, r1⟩
        | 2, _ => exact ⟨_, r2⟩
        | 3, _ => exact ⟨_, r3⟩
        | 4, _ => exact ⟨_, r4⟩
        | 5, _ => exact ⟨_, r5⟩
        | 6, _ => exact ⟨_, r6⟩
        )
      obtain ⟨W9, h9⟩ : ∃ W9, setL w8 (w.heap.size + 1) 0 [.slice nW hm.words.length dW, .int .i64 hm.young, .int .i64 hm.old, .int .i64 hm.ytop, .int .i64 hm.otop, .slice nO2 hm.noted.length dO2, .int .i64 hm.next] = W9 := ⟨_, rfl⟩
      rw [h9] at hgS hcS
      have hw9 := hgS.size
      have q0 : W9.cell? ⟨w.heap.size + 1, 0, none⟩ = some (.slice nW hm.words.length dW) := (hcS 0 (by simp)).trans rfl
      have q1 : W9.cell? ⟨w.heap.size + 1, 1, none⟩ = some (.int .i64 hm.young) := (hcS 1 (by simp)).trans rfl
      have q2 : W9.cell? ⟨w.heap.size + 1, 2, none⟩ = some (.int .i64 hm.old) := (hcS 2 (by simp)).trans rfl
      have q3 : W9.cell? ⟨w.heap.size + 1, 3, none⟩ = some (.int .i64 hm.ytop) := (hcS 3 (by simp)).trans rfl
      have q4 : W9.cell? ⟨w.heap.size + 1, 4, none⟩ = some (.int .i64 hm.otop) := (hcS 4 (by simp)).trans rfl
      have q5 : W9.cell? ⟨w.heap.size + 1, 5, none⟩ = some (.slice nO2 hm.noted.length dO2) := (hcS 5 (by simp)).trans rfl
      have q6 : W9.cell? ⟨w.heap.size + 1, 6, none⟩ = some (.int .i64 hm.next) := (hcS 6 (by simp)).trans rfl
      have HB9 := mkHid (below_of_grown (hB8) hgS (by omega))
      have HG9 := mkHid hgS
      have H9 : Hid ((((((((w8.setCell ⟨w.heap.size + 1, 0, none⟩ (.slice nW hm.words.length dW)).setCell ⟨w.heap.size + 1, 1, none⟩ (.int .i64 hm.young)).setCell ⟨w.heap.size + 1, 2, none⟩ (.int .i64 hm.old)).setCell ⟨w.heap.size + 1, 3, none⟩ (.int .i64 hm.ytop)).setCell ⟨w.heap.size + 1, 4, none⟩ (.int .i64 hm.otop)).setCell ⟨w.heap.size + 1, 5, none⟩ (.slice nO2 hm.noted.length dO2)).setCell ⟨w.heap.size + 1, 6, none⟩ (.int .i64 hm.next)) = W9) := h9
      clear hgS hcS h9
      have HOF : Hid (OwnV w.heap.size W9 (.slice nW hm.words.length dW) (.slice nO2 hm.noted.length dO2) hm) := (hog8.ov.mono (by omega)).grown HG9.out (fun e => by have := (hog8.ov.rW.lt _ e).1; omega) (fun e => by have := (hog8.ov.rO.lt _ e).1; omega)
      clear hog8 hb8 hb38 g8 k8 hB8 hhm hwl HGS HB37 HW7 d0 d1 d2 d3
      go_wp2_with fail
      rw [H9.out]
      refine bodyPost_ret (v := .agg #[.slice nW hm.words.length dW, .int .i64 hm.young, .int .i64 hm.old, .int .i64 hm.ytop, .int .i64 hm.otop, .slice nO2 hm.noted.length dO2, .int .i64 hm.next]) (by simp [results, Tryz.results77, go_sem, q0, q1, q2, q3, q4, q5, q6]) rfl ⟨HB9.out, Or.inl ⟨t, k, HPL.out, rfl, hkl, Or.inr hle, nW, dW, nO2, dO2, ?_, ?_⟩⟩
      · rw [HHM.out]
      · rw [HHM.out]
        exact HOF.out
end Go.Proofs.YtjdnmblggdobgaaGreat
