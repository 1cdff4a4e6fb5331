/- The contracts of what writes numbers, and of the reference's own. -/
import Derived.Test.YtekjjknpifpkiaaWalks
import Derived.Deep.QuietTactic
import Derived.BigQuiet
namespace Go.Proofs.Ytekjjknpifpkiaa
open Go.RowKit

theorem made2 (v : Int) (w : World) : Sl (w.alloc (.cells #[.int .u8 (v / 256 % 256), .int .u8 (v % 256)] 5)) (some ⟨w.heap.size, 0, none⟩) 2 2 (two v) := by
  have h := Sl.made w 5 (two v) (by simp [two, maxLen])
  simpa [two, u8v, byteOf_val] using h
theorem made4 (v : Int) (w : World) (h0 : 0 ≤ v) (h1 : v < 4294967296) :
    Sl (w.alloc (.cells #[.int .u8 (v / 16777216), .int .u8 (v / 65536 % 256), .int .u8 (v / 256 % 256), .int .u8 (v % 256)] 5)) (some ⟨w.heap.size, 0, none⟩) 4 4 (four v) := by
  have h := Sl.made w 5 (four v) (by simp [four, maxLen])
  have e : v / 16777216 % 256 = v / 16777216 := by omega
  simpa [four, u8v, byteOf_val, e] using h

theorem w16_any (A : Option Addr) (n c : Nat) (l : List UInt8) (v : Int) (w : World) (hl : Sl w A n c l) (hs : n + 2 ≤ 140737488355328) :
    Calls Try.prog 33 #[.slice A n c, .int .i64 v] w fun e w' => ∃ A' c', e = .returned (.slice A' (n + 2) c') ∧ Sl w' A' (n + 2) c' (l ++ two v) ∧ Below w.heap.size w w' := by
  have hm := made2 v w
  have bel := (Below.refl w.heap.size w).alloc (Nat.le_refl _) (.cells #[.int .u8 (v / 256 % 256), .int .u8 (v % 256)] 5)
  have hl1 := hl.below bel
  go_enter Try.func33, Try.ntmps33
  go_wp2_with (go_at_call 30; refine (join_any A _ n c 2 2 l (two v) _ hl1 hm hs).mono ?_; rintro e w1 ⟨A', c', rfl, hsl, bel1⟩)
  go_ret
  exact ⟨A', c', rfl, hsl, bel.trans (bel1.mono bel.size)⟩
theorem own_empty (w : World) : (w.alloc (.cells #[] 5)).ownsRow w.heap.size 5 1 (.slice (some ⟨w.heap.size, 0, none⟩) 0 0) 0 (([] : List UInt8).map u8v) :=
  ⟨rfl, .inr ⟨w.heap.size, 0, #[], rfl, Nat.le_refl _, heap_alloc_new w _, Nat.le_refl _, Nat.zero_le _, rfl, rfl⟩⟩

theorem Sl.drewN {w : World} {A : Option Addr} {n c : Nat} {l : List UInt8} (h : Sl w A n c l) (q : Nat) : Sl (w.drewN q) A n c l := h.keep fun _ _ _ hc => hc

/-! awake: what the document tells of three bytes. -/
theorem wake16 (g : Nat) (W : World) (h : Rd W 65 g [1, 2, 3] false) : Calls Try.prog 20 #[.pointer (some ⟨g, 0, none⟩)] W fun e w' => e = .returned (.int .i64 258) ∧ Rd w' 65 g [3] false ∧ W.grownBy w' (some g) :=
  u16_yes g [1, 2, 3] false W h (by decide)
theorem wake8 (g : Nat) (W : World) (h : Rd W 65 g [3] false) : Calls Try.prog 21 #[.pointer (some ⟨g, 0, none⟩)] W fun e w' => e = .returned (.int .i64 3) ∧ Rd w' 65 g [] false ∧ W.grownBy w' (some g) :=
  u8_yes g [3] false W h (by decide)
end Go.Proofs.Ytekjjknpifpkiaa
