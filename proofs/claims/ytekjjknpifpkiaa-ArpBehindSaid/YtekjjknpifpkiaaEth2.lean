/- The contract of ether's mac: six bytes out of a Reader. -/
import Derived.Test.YtekjjknpifpkiaaRdb
import Derived.Test.YtekjjknpifpkiaaEth1
import Derived.Test.YtekjjknpifpkiaaOpen
namespace Go.Proofs.Ytekjjknpifpkiaa
open Go.RowKit

theorem Ow.grown {T : TypeId} {w w' : World} {q c : Nat} {l : List UInt8} {row : Option Nat} (h : Ow T w q c l) (hg : w.grownBy w' row) (hne : some q ≠ row) : Ow T w' q c l := by
  have hlt := h.lt
  obtain ⟨h1, h2, cur, hh, hc⟩ := h
  exact ⟨h1, h2, cur, (hg.block q hlt hne).trans hh, hc⟩
/-- The first k bytes of six. -/
def mk6 (l : List UInt8) (k : Nat) : List UInt8 := l.take k ++ List.replicate (6 - k) 0
theorem mk6_len (l : List UInt8) (k : Nat) (h : k ≤ l.length) (hk : k ≤ 6) : (mk6 l k).length = 6 := by simp [mk6]; omega
theorem mk6_set (l : List UInt8) (k : Nat) (h : k < l.length) (hk : k < 6) : (mk6 l k).set k l[k] = mk6 l (k + 1) := by
  unfold mk6
  obtain ⟨m, hm⟩ : ∃ m, 6 - k = m + 1 := ⟨5 - k, by omega⟩
  rw [hm, show 6 - (k + 1) = m by omega, List.take_succ_eq_append_getElem h, List.set_append_right _ _ (by simp; omega), List.length_take, Nat.min_eq_left (by omega), Nat.sub_self, List.replicate_succ, List.set_cons_zero, List.append_assoc]
  rfl
theorem be_one (x : UInt8) : be [x] = x.toNat := by simp [be]

end Go.Proofs.Ytekjjknpifpkiaa
