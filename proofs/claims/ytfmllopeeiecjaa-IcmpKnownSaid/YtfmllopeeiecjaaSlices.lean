/- A piece of a slice of bytes, at the operation: its address is not told. -/
import Derived.Test.YtfmllopeeiecjaaWalks
namespace Go.Proofs.Ytfmllopeeiecjaa
open Go.RowKit

/-- A piece of a slice: from the front, to the end, from p to p + k. -/
theorem slice_front {w : World} {A : Option Addr} {n c : Nat} {l : List UInt8} (h : Sl w A n c l) {k : Nat} (hk : k ≤ n) :
    ∃ A' c', (∀ W, (Instr.slice 25 (.slice A n c) none (some (.int .i64 (k : Int))) none).run Try.prog W = .ok (.slice A' k c') W) ∧ Sl w A' k c' (l.take k) := by
  have h2 := h.2.1
  have hd := h.drop (k := 0) (by omega)
  have ht := hd.take (k := k) (by omega)
  rw [List.drop_zero] at ht
  refine ⟨_, _, fun W => ?_, ht⟩
  have hz : ∀ w, (Go.sizeOf 5).run Try.prog w = .ok 1 w := fun w => by kernel_rfl
  have hu : Try.prog.underlying 25 = some (.slice (Try.prog.elem 25)) := by kernel_rfl
  have he : Try.prog.elem 25 = 5 := by kernel_rfl
  rw [run_slice_h W 25 A n c hu .i64 _ (by omega) (by omega), he, hz]
  simp [Result.andThen, sliced]
theorem slice_back {w : World} {A : Option Addr} {n c : Nat} {l : List UInt8} (h : Sl w A n c l) {k : Nat} (hk : k ≤ n) :
    ∃ A' c', (∀ W, (Instr.slice 25 (.slice A n c) (some (.int .i64 (k : Int))) none none).run Try.prog W = .ok (.slice A' (n - k) c') W) ∧ Sl w A' (n - k) c' (l.drop k) := by
  have h2 := h.2.1
  refine ⟨_, _, fun W => ?_, h.drop hk⟩
  have hz : ∀ w, (Go.sizeOf 5).run Try.prog w = .ok 1 w := fun w => by kernel_rfl
  have hu : Try.prog.underlying 25 = some (.slice (Try.prog.elem 25)) := by kernel_rfl
  have he : Try.prog.elem 25 = 5 := by kernel_rfl
  rw [run_slice_l W 25 A n c hu .i64 _ (by omega) (by omega), he, hz]
  simp [Result.andThen, sliced]
theorem slice_mid {w : World} {A : Option Addr} {n c : Nat} {l : List UInt8} (h : Sl w A n c l) {p k : Nat} (hk : p + k ≤ n) :
    ∃ A' c', (∀ W, (Instr.slice 25 (.slice A n c) (some (.int .i64 (p : Int))) (some (.int .i64 ((p : Int) + k))) none).run Try.prog W = .ok (.slice A' k c') W) ∧ Sl w A' k c' ((l.drop p).take k) := by
  have h2 := h.2.1
  have hd := h.drop (k := p) (by omega)
  have ht := hd.take (k := k) (by omega)
  refine ⟨_, _, fun W => ?_, ht⟩
  have hz : ∀ w, (Go.sizeOf 5).run Try.prog w = .ok 1 w := fun w => by kernel_rfl
  have hu : Try.prog.underlying 25 = some (.slice (Try.prog.elem 25)) := by kernel_rfl
  have he : Try.prog.elem 25 = 5 := by kernel_rfl
  rw [run_slice_lh W 25 A n c hu .i64 .i64 _ _ (by omega) (by omega) (by omega), he, hz]
  have e1 : ((p : Int) + k).toNat = p + k := by omega
  simp [Result.andThen, sliced, e1]
end Go.Proofs.Ytfmllopeeiecjaa
