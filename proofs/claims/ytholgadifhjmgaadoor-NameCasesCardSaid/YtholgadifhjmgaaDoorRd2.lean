/- The Reader's contracts as the generator V wants them: its block's cells, and what it still has to read as a slice. -/
import Derived.Test.YtholgadifhjmgaaDoorRdo
import Derived.Test.YtholgadifhjmgaaDoorVfs
namespace Go.Proofs.YtholgadifhjmgaaDoor
open Go.RowKit

theorem av_rd {w : World} {T : TypeId} {A B : Option Addr} {n c m d g : Nat} {s : Bool} {l : List UInt8} (hs : Sl w A n c l) (h : w.heap[g]? = some (.cells #[.slice B m d, .bool s] T (0, 0))) : Av A n g := fun hn a o p e => by
  obtain ⟨a', o', e', hc⟩ := hs.2.2.2 hn
  rw [e] at e'
  injection e' with e'
  injection e' with e1 e2
  subst e1
  have hl : 0 < l.length := by have := hs.1; omega
  exact byte_not_rd h (hc 0 _ (List.getElem?_eq_getElem hl))
/-- The Reader's rest lies in A's block, or is empty. -/
theorem ro_in {w : World} {T : TypeId} {A : Option Addr} {n c g : Nat} {s : Bool} {l : List UInt8} (h : w.heap[g]? = some (.cells #[.slice A n c, .bool s] T (0, 0))) (hs : Sl w A n c l) : Ro w T g (fun a => ∃ o p, A = some ⟨a, o, p⟩) l s :=
  ⟨A, n, c, h, hs, fun hn => by obtain ⟨a, o, e, _⟩ := hs.2.2.2 hn; exact ⟨a, o, e, o, none, e⟩⟩
theorem ro_out {w : World} {T : TypeId} {A : Option Addr} {n g : Nat} {s : Bool} {l : List UInt8} (hn : l.length ≤ n) (h : Ro w T g (fun a => ∃ o p, A = some ⟨a, o, p⟩) l s) : ∃ A' n' c', w.heap[g]? = some (.cells #[.slice A' n' c', .bool s] T (0, 0)) ∧ Sl w A' n' c' l ∧ Sub A' n' A n := by
  obtain ⟨A', n', c', h1, h2, h3⟩ := h
  refine ⟨A', n', c', h1, h2, fun h0 => ⟨by have := h2.1; omega, fun a o p e => ?_⟩⟩
  obtain ⟨a', o', e', h⟩ := h3 h0
  rw [e] at e'
  injection e' with e'
  injection e' with e1 e2
  subst e1
  exact h
theorem rd_read (A : Option Addr) (n c : Nat) (l : List UInt8) (w : World) (hl : Sl w A n c l) (hs : n ≤ 140737488355328) :
    Calls Tryd.prog 42 #[.slice A n c] w fun e w' => ∃ g A' c', e = .returned (.pointer (some ⟨g, 0, none⟩)) ∧ w.heap.size ≤ g ∧ w'.heap[g]? = some (.cells #[.slice A' n c', .bool false] 67 (0, 0)) ∧ Sl w' A' n c' l ∧ Fr w.heap.size A' n ∧ Av A' n g ∧ Below w.heap.size w w' := by
  refine (read_q A n c l w hl hs).mono ?_
  rintro e w' ⟨g, rfl, ⟨A', n', c', h1, h2, h3⟩, hb, hg⟩
  obtain rfl : n = n' := hl.1.symm.trans h2.1
  exact ⟨g, A', c', rfl, hg, h1, h2, h3, av_rd h2 h1, hb⟩
theorem rd_u8c (x : UInt8) (r : List UInt8) (g : Nat) (A : Option Addr) (n c : Nat) (s : Bool) (w : World) (h : w.heap[g]? = some (.cells #[.slice A n c, .bool s] 67 (0, 0))) (hs : Sl w A n c (x :: r)) :
    Calls Tryd.prog 34 #[.pointer (some ⟨g, 0, none⟩)] w fun e w' => ∃ A' n' c', e = .returned (.int .i64 (x.toNat : Int)) ∧ w'.heap[g]? = some (.cells #[.slice A' n' c', .bool s] 67 (0, 0)) ∧ Sl w' A' n' c' r ∧ Sub A' n' A n ∧ w.grownBy w' (some g) := by
  refine (u8_q1 g _ x r s w (ro_in h hs)).mono ?_
  rintro e w' ⟨rfl, h1, h3⟩
  obtain ⟨A', n', c', h4, h5, h6⟩ := ro_out (n := n) (by have := hs.1; simp at this; omega) h1
  exact ⟨A', n', c', rfl, h4, h5, h6, h3⟩
theorem rd_bytes (k : Nat) (g : Nat) (A : Option Addr) (n c : Nat) (l : List UInt8) (s : Bool) (w : World) (h : w.heap[g]? = some (.cells #[.slice A n c, .bool s] 67 (0, 0))) (hs : Sl w A n c l) (hk : k ≤ l.length) (hm : k ≤ 140737488355328) :
    Calls Tryd.prog 44 #[.pointer (some ⟨g, 0, none⟩), .int .i64 (k : Int)] w fun e w' => ∃ Ab cb A' n' c', e = .returned (.slice Ab k cb) ∧ w'.heap[g]? = some (.cells #[.slice A' n' c', .bool s] 67 (0, 0)) ∧ Sl w' A' n' c' (l.drop k) ∧ Sub A' n' A n ∧ Sl w' Ab k cb (l.take k) ∧ Fr w.heap.size Ab k ∧ w.grownBy w' (some g) := by
  refine (bytes_q g _ l s k w (ro_in h hs) hk hm).mono ?_
  rintro e w' ⟨Ab, cb, rfl, h0, h1, h3, hf⟩
  obtain ⟨A', n', c', h4, h5, h6⟩ := ro_out (n := n) (by rw [List.length_drop]; have := hs.1; omega) h1
  exact ⟨Ab, cb, A', n', c', rfl, h4, h5, h6, h0, hf, h3⟩
theorem rd_short (g : Nat) (A : Option Addr) (n c : Nat) (l : List UInt8) (s : Bool) (w : World) (h : w.heap[g]? = some (.cells #[.slice A n c, .bool s] 67 (0, 0))) (hs : Sl w A n c l) :
    Calls Tryd.prog 35 #[.pointer (some ⟨g, 0, none⟩)] w fun e w' => e = .returned (.bool s) ∧ w = w' := short_any g l s w ⟨A, n, c, h, hs⟩
end Go.Proofs.YtholgadifhjmgaaDoor
