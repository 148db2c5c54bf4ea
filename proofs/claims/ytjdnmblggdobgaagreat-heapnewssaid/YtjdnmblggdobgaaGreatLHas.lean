/- Is there a class of a name? -/
import Derived.Test.YtjdnmblggdobgaaGreatLEv
namespace Go.Proofs.YtjdnmblggdobgaaGreat
open Go.RowKit

/-- The numbers of classes, in a web's block. -/
def Nums (w : World) (b : Nat) (l : List ClassD) : Prop := ∃ Bm, w.cell? ⟨b, 5, none⟩ = some (.map (some Bm)) ∧ NumMap w Bm l
theorem Nums.lt {w : World} {b : Nat} {l : List ClassD} (h : Nums w b l) : b < w.heap.size := by
  obtain ⟨Bm, h, _⟩ := h
  exact World.block_lt_of_cell? w _ h
theorem Nums.below {w w' : World} {b : Nat} {l : List ClassD} (h : Nums w b l) (hb : Below w.heap.size w w') : Nums w' b l := by
  have hl := h.lt
  obtain ⟨Bm, h, hn⟩ := h
  exact ⟨Bm, (hb.cell (p := ⟨b, 5, none⟩) hl).trans h, hn.below hb hn.lt⟩
theorem numberN (w : World) (b : Nat) (l : List ClassD) (s : ByteArray) (hN : Nums w b l) (hs : s.size ≤ maxLen) :
    Calls Tryz.prog 199 #[.pointer (some ⟨b, 0, none⟩), .string s] w fun r w' => r = .returned (.int .i64 (num l s)) ∧ w' = w := by
  obtain ⟨Bm, h, hn⟩ := hN
  exact number_any w b Bm l s h hn hs

theorem has1_any (w : World) (b P : Nat) (l : List ClassD) (s : ByteArray) (hN : Nums w b l) (hP : w.cell? ⟨P, 0, none⟩ = some (.pointer (some ⟨b, 0, none⟩))) (hs : s.size ≤ maxLen) :
    Calls Tryz.prog 285 #[.string s, .pointer (some ⟨P, 0, none⟩)] w fun r w' => r = .returned (.bool (hasC l s)) ∧ w' = w := by
  have HN := mkHid hN
  clear hN
  go_enter Tryz.func285, Tryz.ntmps285
  go_wp2_with fail
  refine (numberN _ b l s HN.out hs).mono ?_
  rintro r w1 ⟨rfl, rfl⟩
  clear hs hP
  go_wp2_with fail
  go_ret
  exact ⟨rfl, rfl⟩

set_option maxHeartbeats 1000000 in
theorem has_any (w : World) (b B : Nat) (l : List ClassD) (v : Value) (ns : List ByteArray) (hN : Nums w b l) (hv : SL 1 RS (· < B) w v ns) (hB : B ≤ w.heap.size) :
    Calls Tryz.prog 235 #[.pointer (some ⟨b, 0, none⟩), v] w fun r w' => r = .returned (.bool (ns.all (hasC l))) ∧ Below w.heap.size w w' := by
  have hmf : ∀ (fn : Fn) (first cap : Array Value) (w : World), (Instr.makeFunc fn first cap).run Tryz.prog w = .ok (.func fn first cap) w := fun _ _ _ _ => rfl
  have HV := mkHid hv
  obtain ⟨ao, cl, rfl, -⟩ := hv
  have HN := mkHid hN
  have HB0 := mkHid (fun o => (Below.refl w.heap.size w).alloc (Nat.le_refl _) o)
  clear hN
  go_enter Tryz.func235, Tryz.ntmps235
  go_wp2_with fail
  refine (everyS_any _ B _ ns (HV.out.keptS (Kp.below ((HB0.out _).mono hB))) (by simp; omega) 285 #[] _ (hasC l) (fun args w => by kernel_rfl) ?_).mono ?_
  · rintro x hx u W hW ⟨rfl, hs⟩
    refine (has1_any W b w.heap.size l x ((HN.out.below (HB0.out _)).below hW) ((hW.cell (p := ⟨w.heap.size, 0, none⟩) (by simp)).trans (by simp [go_sem])) hs).mono ?_
    rintro r w' ⟨rfl, rfl⟩
    exact ⟨rfl, Below.refl _ _⟩
  rintro r w1 ⟨rfl, hb⟩
  have hb2 : Below w.heap.size w w1 := (HB0.out _).trans (hb.mono (by simp))
  clear hb
  go_wp2_with fail
  go_ret
  exact ⟨rfl, hb2⟩

/-- One name, in a slice of its own. -/
theorem one_S (w : World) (s : ByteArray) (t g : Nat) (hs : s.size ≤ maxLen) (hg : w.heap.size = g) : SL 1 RS (· < g + 1) (w.alloc (.cells #[.string s] t)) (.slice (some ⟨g, 0, none⟩) 1 1) [s] := by
  subst hg
  refine ⟨some ⟨w.heap.size, 0, none⟩, 1, rfl, Nat.le_refl _, by unfold maxLen; simp, fun k hk => ?_⟩
  have : k = 0 := by simpa using hk
  subst this
  refine ⟨w.heap.size, 0, [.string s], rfl, by simp, by simp, rfl, fun j hj => ?_, rfl, hs⟩
  have : j = 0 := by omega
  subst this
  simp [go_sem]
theorem one_K (w : World) (k : KindD) (t g : Nat) (hs : k.cls.size ≤ maxLen) (hg : w.heap.size = g) : SL 2 RK (· < g + 1) (w.alloc (.cells #[.int .i64 k.kind, .string k.cls] t)) (.slice (some ⟨g, 0, none⟩) 1 1) [k] := by
  subst hg
  refine ⟨some ⟨w.heap.size, 0, none⟩, 1, rfl, Nat.le_refl _, by unfold maxLen; simp, fun i hi => ?_⟩
  have : i = 0 := by simpa using hi
  subst this
  refine ⟨w.heap.size, 0, [.int .i64 k.kind, .string k.cls], rfl, by simp, by simp, rfl, fun j hj => ?_, rfl, hs⟩
  rcases (by omega : j = 0 ∨ j = 1) with rfl | rfl <;> simp [go_sem]

set_option maxHeartbeats 1000000 in
theorem knows1_any (w : World) (b P : Nat) (l : List ClassD) (k : KindD) (hN : Nums w b l) (hP : w.cell? ⟨P, 0, none⟩ = some (.pointer (some ⟨b, 0, none⟩))) (hs : k.cls.size ≤ maxLen) :
    Calls Tryz.prog 293 #[.agg #[.int .i64 k.kind, .string k.cls], .pointer (some ⟨P, 0, none⟩)] w fun r w' => r = .returned (.bool (knowsK l k)) ∧ Below w.heap.size w w' := by
  have HN := mkHid hN
  have hPl := World.block_lt_of_cell? w _ hP
  have HB0 := mkHid (fun o => (Below.refl w.heap.size w).alloc (Nat.le_refl _) o)
  clear hN
  by_cases h : k.cls = ⟨#[]⟩
  · have HK : Hid (knowsK l k = true) := by show knowsK l k = true; simp [knowsK, h]
    have h' := nil_tl h
    clear h hs
    go_enter Tryz.func293, Tryz.ntmps293
    go_wp2_with fail
    go_ret
    exact ⟨by rw [HK.out]; rfl, HB0.out _⟩
  · have HK : Hid (knowsK l k = hasC l k.cls) := by show knowsK l k = _; simp [knowsK, h]
    have h' : ¬ k.cls.toList = [] := fun e => h (tl_nil e)
    have HS := mkHid hs
    clear h hs
    go_enter Tryz.func293, Tryz.ntmps293
    go_wp2_with fail
    have hB1 := HB0.out (.cells #[.int .i64 k.kind, .string k.cls] 123)
    have hB2 := hB1.alloc hB1.size (.cells #[.string k.cls] 9)
    refine (has_any _ b (w.heap.size + 1 + 1) l _ [k.cls] (HN.out.below hB2) (one_S _ k.cls _ (w.heap.size + 1) HS.out (by simp)) (by simp)).mono ?_
    rintro r w1 ⟨rfl, hb⟩
    have hB3 := hB2.trans (hb.mono (by simp; omega))
    clear hb hB1 hB2
    go_wp2_with fail
    go_ret
    exact ⟨by rw [HK.out]; simp [h'], hB3⟩

set_option maxHeartbeats 1000000 in
theorem knows_any (w : World) (b B : Nat) (l : List ClassD) (v : Value) (ks : List KindD) (hN : Nums w b l) (hv : SL 2 RK (· < B) w v ks) (hB : B ≤ w.heap.size) :
    Calls Tryz.prog 244 #[.pointer (some ⟨b, 0, none⟩), v] w fun r w' => r = .returned (.bool (ks.all (knowsK l))) ∧ Below w.heap.size w w' := by
  have hmf : ∀ (fn : Fn) (first cap : Array Value) (w : World), (Instr.makeFunc fn first cap).run Tryz.prog w = .ok (.func fn first cap) w := fun _ _ _ _ => rfl
  have HV := mkHid hv
  obtain ⟨ao, cl, rfl, -⟩ := hv
  have HN := mkHid hN
  have HB0 := mkHid (fun o => (Below.refl w.heap.size w).alloc (Nat.le_refl _) o)
  clear hN
  go_enter Tryz.func244, Tryz.ntmps244
  go_wp2_with fail
  refine (everyK_any _ B _ ks (HV.out.keptK (Kp.below ((HB0.out _).mono hB))) (by simp; omega) 293 #[] _ (knowsK l) (fun args w => by kernel_rfl) ?_).mono ?_
  · rintro x hx u W hW ⟨rfl, hs⟩
    exact knows1_any W b w.heap.size l x ((HN.out.below (HB0.out _)).below hW) ((hW.cell (p := ⟨w.heap.size, 0, none⟩) (by simp)).trans (by simp [go_sem])) hs
  rintro r w1 ⟨rfl, hb⟩
  have hb2 : Below w.heap.size w w1 := (HB0.out _).trans (hb.mono (by simp))
  clear hb
  go_wp2_with fail
  go_ret
  exact ⟨rfl, hb2⟩
end Go.Proofs.YtjdnmblggdobgaaGreat
