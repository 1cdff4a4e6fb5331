/- Layer 12's own, same, awake. -/
import Derived.Test.YtmljgpefbbifmaaOp5
import Derived.Test.YtmljgpefbbifmaaOp6
import Derived.Test.YtmljgpefbbifmaaStr
import Derived.Stop.BytesEq
namespace Go.Proofs.Ytmljgpefbbifmaa
open Go.RowKit

theorem take_snoc {α : Type} {l : List α} {j : Nat} {x : α} (h : l[j]? = some x) : l.take (j + 1) = l.take j ++ [x] := by
  rw [List.take_add_one, h]; rfl
theorem get_53 : getS [53, 1, 1, 255] = ([(53, [1])], 0) := gets_ok (by rw [get_one (by decide) (by decide) (by decide)]; exact get_end _ _)
theorem put_53 : putL [(53, [1])] = ([53, 1, 1, 255], 0) := by
  unfold putL allL
  simp only [List.flatMap_cons, List.flatMap_nil, List.append_nil]
  rw [pieces_last (by decide)]
  rfl
theorem find_53 : findL [(53, [1])] 53 = some [1] := rfl
theorem Bd.bl {w : World} {hs : List Oh} {L : OptL} (h : Bd w hs L) : hs.length = L.length := h.1
end Go.Proofs.Ytmljgpefbbifmaa
