/- Blocks of bytes as slices. Of no program. -/
import Derived.Test.YtjfboofnffghjaaMem
namespace Go.Proofs.Ytjfboofnffghjaa
open Go.RowKit

theorem sl_block {w : World} {k o n : Nat} {T : TypeId} {cur : Array Value} {l : List UInt8} (h : w.heap[k]? = some (.cells cur T (0, 0))) (hn : l.length = n) (hm : n ≤ 1000) (hc : ∀ (j : Nat) (b : UInt8), l[j]? = some b → cur[o + j]? = some (u8v b)) : Sl w (some ⟨k, o, none⟩) n n l :=
  ⟨hn, Nat.le_refl _, by unfold maxLen; omega, fun _ => ⟨k, o, rfl, fun j b hj => by simp [World.cell?, h, hc j b hj]⟩⟩
theorem sl_six {w : World} {k o : Nat} {T : TypeId} {cur : Array Value} (a0 a1 a2 a3 a4 a5 : UInt8) (h : w.heap[k]? = some (.cells cur T (0, 0))) (h0 : cur[o]? = some (u8v a0)) (h1 : cur[o + 1]? = some (u8v a1)) (h2 : cur[o + 2]? = some (u8v a2)) (h3 : cur[o + 3]? = some (u8v a3)) (h4 : cur[o + 4]? = some (u8v a4)) (h5 : cur[o + 5]? = some (u8v a5)) : Sl w (some ⟨k, o, none⟩) 6 6 [a0, a1, a2, a3, a4, a5] :=
  sl_block h rfl (by omega) (fun j b hj => by
    match j, hj with
    | 0, hj | 1, hj | 2, hj | 3, hj | 4, hj | 5, hj => simp at hj; subst hj; assumption
    | j + 6, hj => simp at hj)
theorem sl_four {w : World} {k o : Nat} {T : TypeId} {cur : Array Value} (a0 a1 a2 a3 : UInt8) (h : w.heap[k]? = some (.cells cur T (0, 0))) (h0 : cur[o]? = some (u8v a0)) (h1 : cur[o + 1]? = some (u8v a1)) (h2 : cur[o + 2]? = some (u8v a2)) (h3 : cur[o + 3]? = some (u8v a3)) : Sl w (some ⟨k, o, none⟩) 4 4 [a0, a1, a2, a3] :=
  sl_block h rfl (by omega) (fun j b hj => by
    match j, hj with
    | 0, hj | 1, hj | 2, hj | 3, hj => simp at hj; subst hj; assumption
    | j + 4, hj => simp at hj)

end Go.Proofs.Ytjfboofnffghjaa
