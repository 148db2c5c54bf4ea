/- The contracts of the document's small functions on bytes. -/
import Derived.Test.YtkpklkhkhhlifaaWrAll
import Derived.Test.YtkpklkhkhhlifaaGrow
namespace Go.Proofs.Ytkpklkhkhhlifaa
open Go.RowKit

theorem countOf_any (w : World) (n : Int) : Calls Try.prog 22 #[.int .i64 n] w fun r w' => r = .returned (.string ⟨[toB n].toArray⟩) ∧ Below w.heap.size w w' := by
  have ew : IntKind.u8.wrap n = n % 256 := by
    simp [IntKind.wrap, IntKind.bits, IntKind.signed]
  have hcv := run_convert_bytes_back (P := Try.prog) (w.alloc (.cells #[.int .u8 (n % 256)] 5)) 36 9 5 ⟨w.heap.size, 0, none⟩ 1 [toB n] Try.underlying36 Try.underlying5 Try.underlying9 (fun j hj => by
    have h0 : j = 0 := by simp at hj; omega
    subst h0
    simp [Addr.add, toB_toNat])
  have hcv' : (convert 36 9 (.slice (some ⟨w.heap.size, 0, none⟩) 1 1)).run Try.prog (w.alloc (.cells #[.int .u8 (n % 256)] 5)) = .ok (.string ⟨[toB n].toArray⟩) (w.alloc (.cells #[.int .u8 (n % 256)] 5)) := hcv
  clear hcv
  go_enter Try.func22, Try.ntmps22
  go_wp2
  go_ret
  exact ⟨rfl, (Below.refl _ _).alloc (Nat.le_refl _) _⟩

theorem twoOf_any (w : World) (n : Int) (h0 : 0 ≤ n) (h1 : n ≤ 65535) : Calls Try.prog 25 #[.int .i64 n] w fun r w' => r = .returned (.string ⟨[toB (n / 256), toB n].toArray⟩) ∧ Below w.heap.size w w' := by
  have hcv := run_convert_bytes_back (P := Try.prog) (w.alloc (.cells #[.int .u8 (n / 256), .int .u8 (n % 256)] 5)) 36 9 5 ⟨w.heap.size, 0, none⟩ 2 [toB (n / 256), toB n] Try.underlying36 Try.underlying5 Try.underlying9 (fun j hj => by
    have hj2 : j < 2 := by simpa using hj
    match j, hj2 with
    | 0, _ => simp [Addr.add, toB_toNat]; omega
    | 1, _ => simp [Addr.add, toB_toNat])
  have hcv' : (convert 36 9 (.slice (some ⟨w.heap.size, 0, none⟩) 2 2)).run Try.prog (w.alloc (.cells #[.int .u8 (n / 256), .int .u8 (n % 256)] 5)) = .ok (.string ⟨[toB (n / 256), toB n].toArray⟩) (w.alloc (.cells #[.int .u8 (n / 256), .int .u8 (n % 256)] 5)) := hcv
  clear hcv
  go_enter Try.func25, Try.ntmps25
  go_wp2
  go_ret
  exact ⟨rfl, (Below.refl _ _).alloc (Nat.le_refl _) _⟩

/-- The text of bytes. -/
abbrev Bx (bs : List UInt8) : ByteArray := ⟨bs.toArray⟩
theorem Bx_append (a b : List UInt8) : Bx a ++ Bx b = Bx (a ++ b) := by simp [Bx, ByteArray.mk_append_mk]
theorem Bx_data (s : ByteArray) : s = Bx s.data.toList := by
  obtain ⟨⟨l⟩⟩ := s
  rfl
theorem Bx_size (bs : List UInt8) : (Bx bs).size = bs.length := rfl

theorem twoOfB_any (w : World) (n : Int) (h0 : 0 ≤ n) (h1 : n ≤ 65535) : Calls Try.prog 25 #[.int .i64 n] w fun r w' => r = .returned (.string (Bx (wTwo n))) ∧ Below w.heap.size w w' := twoOf_any w n h0 h1

theorem textOf_any (w : World) (s : ByteArray) (hs : s.size ≤ 4611686018427387904) : Calls Try.prog 23 #[.string s] w fun r w' => r = .returned (.string (Bx (wText s))) ∧ Below w.heap.size w w' := by
  have hsum : ¬ (1 + s.size > 9223372036854775807) := by omega
  go_enter Try.func23, Try.ntmps23
  go_wp2_with fail
  refine (countOf_any _ _).mono ?_
  rintro r w1 ⟨rfl, hB⟩
  go_wp2
  go_ret
  refine ⟨?_, hB⟩
  show Ending.returned (.string (Bx [toB s.size] ++ s)) = _
  conv => lhs; rw [Bx_data s]
  rw [Bx_append]
  rfl

set_option maxHeartbeats 1000000 in
theorem kindOf_any (w : World) (k : KindD) (hs : k.cls.size ≤ 1000000) : Calls Try.prog 24 #[.agg #[.int .i64 k.kind, .string k.cls]] w fun r w' => r = .returned (.string (Bx (wKind k))) ∧ Below w.heap.size w w' := by
  obtain ⟨n, s⟩ := k
  dsimp only at *
  have hb := (Below.refl w.heap.size w).alloc (Nat.le_refl _) (.cells #[.int .i64 n, .string s] 51)
  cases hc : hasCls n
  · have HC := mkHid (wKind_no (k := ⟨n, s⟩) hc)
    have b3 : (n == 3) = false := by simp [hasCls] at hc; simp [hc]
    have b4 : (n == 4) = false := by simp [hasCls] at hc; simp [hc]
    clear hc
    go_enter Try.func24, Try.ntmps24
    go_wp2_with fail
    refine (countOf_any _ _).mono ?_
    rintro r w1 ⟨rfl, hB⟩
    go_wp2
    go_ret
    exact ⟨by rw [HC.out]; rfl, hb.trans (hB.mono (by simp))⟩
  · have HC := mkHid (wKind_yes (k := ⟨n, s⟩) hc)
    have h34 : (n == 3) = true ∨ ((n == 3) = false ∧ (n == 4) = true) := by
      have h : n = 3 ∨ n = 4 := by simpa [hasCls] using hc
      rcases h with rfl | rfl
      · exact Or.inl rfl
      · exact Or.inr ⟨rfl, rfl⟩
    clear hc
    have hsum : ¬ (1 + (wText s).length > 9223372036854775807) := by rw [len_wText]; omega
    generalize hW : w.alloc (.cells #[.int .i64 n, .string s] 51) = W0 at *
    have c0 : ∀ g : Gr (w.heap.size + 1) W0, g.w.cell? ⟨w.heap.size, 0, none⟩ = some (.int .i64 n) := fun g => (g.ok.cell (p := ⟨w.heap.size, 0, none⟩) (by simp)).trans (by rw [← hW]; simp [go_sem])
    have c1 : ∀ g : Gr (w.heap.size + 1) W0, g.w.cell? ⟨w.heap.size, 1, none⟩ = some (.string s) := fun g => (g.ok.cell (p := ⟨w.heap.size, 1, none⟩) (by simp)).trans (by rw [← hW]; simp [go_sem])
    have d0 : W0.cell? ⟨w.heap.size, 0, none⟩ = some (.int .i64 n) := by rw [← hW]; simp [go_sem]
    have hz : w.heap.size + 1 ≤ W0.heap.size := by rw [← hW]; simp
    have hne : Nonempty (Gr (w.heap.size + 1) W0) := ⟨⟨W0, Below.refl _ _⟩⟩
    rcases h34 with b3 | ⟨b3, b4⟩
    all_goals
      go_enter Try.func24, Try.ntmps24
      go_wp2_with fail
      refine wp_region_grow_lit (w.heap.size + 1) W0 (by kernel_rfl) (by kernel_rfl) (Below.refl _ _) ?_
      repeat (go_big_quiet_step (first | exact Gr.calls _ hz (countOf_any _ _) | exact Gr.calls _ hz (textOf_any _ _ (by omega))))
      refine wpQuiet_nil ?_
      intro _ hw'
      obtain ⟨g, rfl⟩ := hw'
      have hg := g.ok
      generalize g.w = w2 at *
      go_wp2
      go_ret
      exact ⟨by rw [HC.out]; simp [Bx, ByteArray.mk_append_mk], hb.trans (hg.mono (by omega))⟩

/-- A text with its error, told as the document tells it. -/
theorem textIs_any (w : World) (s : ByteArray) (e : Int) (h : ¬ e = 0 → s = ⟨#[]⟩) : Calls Try.prog 11 #[.string s, .int .i64 e, .int .i64 e, .string s] w fun r w' => r = .returned (.bool true) ∧ w' = w := by
  by_cases he : e = 0
  · subst he
    go_enter Try.func11, Try.ntmps11
    go_wp2
    go_ret
    exact ⟨by simp, rfl⟩
  · have hs := h he
    subst hs
    have hne : (e != 0) = true := by rw [bne_iff_ne]; exact he
    clear h he
    go_enter Try.func11, Try.ntmps11
    go_wp2
    go_ret
    exact ⟨by simp, rfl⟩
end Go.Proofs.Ytkpklkhkhhlifaa
