/- The contracts of the document's small functions on bytes. -/
import Derived.Test.YtkpklkhkhhlifaaDoorEnc
import Derived.Test.YtkpklkhkhhlifaaDoorRef
namespace Go.Proofs.YtkpklkhkhhlifaaDoor
open Go.RowKit

theorem between_any (w : World) (n lo hi : Int) : Calls Tryd.prog 27 #[.int .i64 n, .int .i64 lo, .int .i64 hi] w fun r w' => r = .returned (.bool (decide (lo ≤ n) && decide (n ≤ hi))) ∧ w' = w := by
  by_cases h0 : lo ≤ n
  · by_cases h1 : n ≤ hi
    · go_enter Tryd.func27, Tryd.ntmps27
      go_wp2
      go_ret
      simp [h0, h1]
    · go_enter Tryd.func27, Tryd.ntmps27
      go_wp2
      go_ret
      simp; omega
  · go_enter Tryd.func27, Tryd.ntmps27
    go_wp2
    go_ret
    simp; omega

theorem countOf_any (w : World) (n : Int) : Calls Tryd.prog 28 #[.int .i64 n] w fun r w' => r = .returned (.string ⟨[toB n].toArray⟩) ∧ Below w.heap.size w w' := by
  have ew : IntKind.u8.wrap n = n % 256 := by
    simp [IntKind.wrap, IntKind.bits, IntKind.signed]
  have hcv := run_convert_bytes_back (P := Tryd.prog) (w.alloc (.cells #[.int .u8 (n % 256)] 5)) 46 9 5 ⟨w.heap.size, 0, none⟩ 1 [toB n] Tryd.underlying46 Tryd.underlying5 Tryd.underlying9 (fun j hj => by
    have h0 : j = 0 := by simp at hj; omega
    subst h0
    simp [Addr.add, toB_toNat])
  have hcv' : (convert 46 9 (.slice (some ⟨w.heap.size, 0, none⟩) 1 1)).run Tryd.prog (w.alloc (.cells #[.int .u8 (n % 256)] 5)) = .ok (.string ⟨[toB n].toArray⟩) (w.alloc (.cells #[.int .u8 (n % 256)] 5)) := hcv
  clear hcv
  go_enter Tryd.func28, Tryd.ntmps28
  go_wp2
  go_ret
  exact ⟨rfl, (Below.refl _ _).alloc (Nat.le_refl _) _⟩

theorem twoOf_any (w : World) (n : Int) (h0 : 0 ≤ n) (h1 : n ≤ 65535) : Calls Tryd.prog 29 #[.int .i64 n] w fun r w' => r = .returned (.string ⟨[toB (n / 256), toB n].toArray⟩) ∧ Below w.heap.size w w' := by
  have hcv := run_convert_bytes_back (P := Tryd.prog) (w.alloc (.cells #[.int .u8 (n / 256), .int .u8 (n % 256)] 5)) 46 9 5 ⟨w.heap.size, 0, none⟩ 2 [toB (n / 256), toB n] Tryd.underlying46 Tryd.underlying5 Tryd.underlying9 (fun j hj => by
    have hj2 : j < 2 := by simpa using hj
    match j, hj2 with
    | 0, _ => simp [Addr.add, toB_toNat]; omega
    | 1, _ => simp [Addr.add, toB_toNat])
  have hcv' : (convert 46 9 (.slice (some ⟨w.heap.size, 0, none⟩) 2 2)).run Tryd.prog (w.alloc (.cells #[.int .u8 (n / 256), .int .u8 (n % 256)] 5)) = .ok (.string ⟨[toB (n / 256), toB n].toArray⟩) (w.alloc (.cells #[.int .u8 (n / 256), .int .u8 (n % 256)] 5)) := hcv
  clear hcv
  go_enter Tryd.func29, Tryd.ntmps29
  go_wp2
  go_ret
  exact ⟨rfl, (Below.refl _ _).alloc (Nat.le_refl _) _⟩

/-- A text with its error, told as the document tells it. -/
theorem textIs_any (w : World) (s : ByteArray) (e : Int) (h : ¬ e = 0 → s = ⟨#[]⟩) : Calls Tryd.prog 12 #[.string s, .int .i64 e, .int .i64 e, .string s] w fun r w' => r = .returned (.bool true) ∧ w' = w := by
  by_cases he : e = 0
  · subst he
    go_enter Tryd.func12, Tryd.ntmps12
    go_wp2
    go_ret
    exact ⟨by simp, rfl⟩
  · have hs := h he
    subst hs
    have hne : (e != 0) = true := by rw [bne_iff_ne]; exact he
    clear h he
    go_enter Tryd.func12, Tryd.ntmps12
    go_wp2
    go_ret
    exact ⟨by simp, rfl⟩
end Go.Proofs.YtkpklkhkhhlifaaDoor
