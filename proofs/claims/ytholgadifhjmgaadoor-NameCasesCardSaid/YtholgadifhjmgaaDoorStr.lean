/- Texts as lists of bytes: what Go's operations on them answer. -/
import Derived.Test.YtholgadifhjmgaaDoorSle
import Derived.Laws.Concat
import Derived.Laws.Strings3
namespace Go.Proofs.YtholgadifhjmgaaDoor
open Go.RowKit

theorem st_size (l : List UInt8) : (⟨l.toArray⟩ : ByteArray).size = l.length := by simp [ByteArray.size]
theorem st_index {l : List UInt8} {i : Nat} {x : UInt8} (h : l[i]? = some x) (W : World) : (Instr.index 9 (.string ⟨l.toArray⟩) (.int .i64 (i : Int))).run Tryd.prog W = .ok (.int .u8 (x.toNat : Int)) W := by
  obtain ⟨hi, hx⟩ := List.getElem?_eq_some_iff.1 h
  rw [run_index_string W 9 _ .i64 _ (by kernel_rfl), dif_pos ⟨by omega, by rw [st_size]; omega⟩]
  congr 3
  subst hx
  rfl
theorem st_index0 {l : List UInt8} {x : UInt8} (h : l[0]? = some x) (W : World) : (Instr.index 9 (.string ⟨l.toArray⟩) (.int .i64 0)).run Tryd.prog W = .ok (.int .u8 (x.toNat : Int)) W := st_index h W
theorem st_extract (l : List UInt8) (i j : Nat) : (⟨l.toArray⟩ : ByteArray).extract i j = ⟨((l.take j).drop i).toArray⟩ := by
  apply ByteArray.ext
  rw [ByteArray.data_extract]
  apply Array.ext'
  simp [List.extract_eq_take_drop, List.drop_take]
theorem st_from {l : List UInt8} {i : Nat} (h : i ≤ l.length) (W : World) : (Instr.slice 9 (.string ⟨l.toArray⟩) (some (.int .i64 (i : Int))) none none).run Tryd.prog W = .ok (.string ⟨(l.drop i).toArray⟩) W := by
  rw [run_slice_string_from_if W 9 _ .i64 _ (by kernel_rfl), if_pos ⟨by omega, by rw [st_size]; omega⟩, st_extract, st_size, List.take_length]
  rfl
theorem st_from1 {x : UInt8} {l r : List UInt8} (h : l = x :: r) (W : World) : (Instr.slice 9 (.string ⟨l.toArray⟩) (some (.int .i64 1)) none none).run Tryd.prog W = .ok (.string ⟨r.toArray⟩) W := by
  subst h
  exact st_from (l := x :: r) (i := 1) (by simp) W
theorem st_to {l : List UInt8} {j : Nat} (h : j ≤ l.length) (W : World) : (Instr.slice 9 (.string ⟨l.toArray⟩) none (some (.int .i64 (j : Int))) none).run Tryd.prog W = .ok (.string ⟨(l.take j).toArray⟩) W := by
  rw [run_slice_string_to_if W 9 _ .i64 _ (by kernel_rfl), if_pos ⟨by omega, by rw [st_size]; omega⟩, st_extract]
  rfl
theorem st_mid {l : List UInt8} {i j : Nat} (h : i ≤ j) (hj : j ≤ l.length) (W : World) : (Instr.slice 9 (.string ⟨l.toArray⟩) (some (.int .i64 (i : Int))) (some (.int .i64 (j : Int))) none).run Tryd.prog W = .ok (.string ⟨((l.take j).drop i).toArray⟩) W := by
  rw [run_slice_string W 9 _ .i64 .i64 _ _ (by kernel_rfl) (by omega) (by omega) (by rw [st_size]; omega), st_extract]
  rfl
theorem st_one {l : List UInt8} {k : Nat} {x : UInt8} (h : l[k]? = some x) (W : World) : (Instr.slice 9 (.string ⟨l.toArray⟩) (some (.int .i64 (k : Int))) (some (.int .i64 ((k : Int) + 1))) none).run Tryd.prog W = .ok (.string ⟨#[x]⟩) W := by
  obtain ⟨hk, hx⟩ := List.getElem?_eq_some_iff.1 h
  have := st_mid (l := l) (i := k) (j := k + 1) (by omega) (by omega) W
  rw [show ((k + 1 : Nat) : Int) = (k : Int) + 1 from rfl] at this
  rw [this, List.take_add_one, h, List.drop_append_of_le_length (by rw [List.length_take]; omega), List.drop_eq_nil_of_le (by rw [List.length_take]; omega)]
  rfl
theorem st_add {x y : List UInt8} (h : x.length + y.length ≤ 8388608) (W : World) : (Op.stringOp .add ⟨x.toArray⟩ ⟨y.toArray⟩).run Tryd.prog W = .ok (.string ⟨(x ++ y).toArray⟩) W :=
  run_string_add_lists W x y (by omega) (by omega)
theorem st_len (l : List UInt8) (ty : TypeId) (W : World) : (Builtin.len_ #[9] ty #[.string ⟨l.toArray⟩]).run Tryd.prog W = .ok (.int .i64 (l.length : Int)) W := by
  rw [run_len_string W 9 ty _ (by kernel_rfl), st_size]
  rfl
/-- The front of a row of texts. -/
theorem st_front {w : World} {A : Option Addr} {n c : Nat} {l : List (List UInt8)} (h : Sle stf 1 w A n c l) {k : Nat} (hk : k ≤ n) :
    ∃ A' c', (∀ W, (Instr.slice 23 (.slice A n c) none (some (.int .i64 (k : Int))) none).run Tryd.prog W = .ok (.slice A' k c') W) ∧ (∀ W, Sle stf 1 W A n c l → Sle stf 1 W A' k c' (l.take k)) ∧ Sub A' k A n := by
  have h2 := h.2.1
  have hz : ∀ w, (Go.sizeOf 9).run Tryd.prog w = .ok 1 w := fun w => by kernel_rfl
  have hu : Tryd.prog.underlying 23 = some (.slice (Tryd.prog.elem 23)) := by kernel_rfl
  have he : Tryd.prog.elem 23 = 9 := by kernel_rfl
  have hA : (if c = 0 then A else A.map (·.add (0 * 1))) = A := by
    split
    · rfl
    · cases A with
      | none => rfl
      | some a => simp [Addr.add]
  refine ⟨(if c = 0 then A else A.map (·.add (0 * 1))), c - 0, fun W => ?_, fun W hW => ?_, ?_⟩
  · rw [run_slice_h W 23 A n c hu .i64 _ (by omega) (by omega), he, hz]
    simp [Result.andThen, sliced]
  · rw [hA]
    exact hW.take hk
  · rw [hA]
    exact fun h0 => ⟨by omega, fun a o p e => ⟨o, p, e⟩⟩
end Go.Proofs.YtholgadifhjmgaaDoor
