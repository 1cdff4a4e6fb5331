/- What the rows' listed tables give: the table of powers of ten; the witness. -/
import Derived.Test.YtppjnhjglhlpkaaDoorAdr10
import Derived.Test.YtppjnhjglhlpkaaDoorTie
import Derived.LaidMore
import Derived.Lay
import Derived.Stop.LaidErr
namespace Go.Proofs.YtppjnhjglhlpkaaDoor
open Go.RowKit

theorem laid_plain : Rows.addrKnownRow.laid = [("math/bits.deBruijn32tab", Rows.laid_math_bits_deBruijn32tab), ("math/bits.deBruijn64tab", Rows.laid_math_bits_deBruijn64tab), ((Rows.addrKnownRow.laid.getD 2 ("", .nil)).1, Lib.tabData .u64 Lib.pow10Tab)] := by kernel_rfl
theorem tab_of_laid {W : World} (h : laidMetH Tryd.prog Rows.addrKnownRow.laid W) : Tab W := by
  rw [MakeChecks.laidMetH_plain _ _ _ (by kernel_rfl), laid_plain] at h
  exact Lib.tabIs_of_head (g := 0) (t := 88) (e := 79) (n := 20) (by kernel_rfl) (by kernel_rfl) Tryd.underlying88 Tryd.underlying79 (by kernel_rfl) (by kernel_rfl) h.tail.tail
theorem laid_witness (os : Os) (args : Array Value) : laidMetH Tryd.prog Rows.addrKnownRow.laid (((World.laidAll Tryd.prog os Rows.addrKnownRow.laid).forCall (fun _ _ => 0) ⟨#[], args, []⟩).memory) := by
  rw [MakeChecks.laidMetH_plain _ _ _ (by kernel_rfl)]; exact laidMet_laidAll _ (by kernel_rfl) (by kernel_rfl)
end Go.Proofs.YtppjnhjglhlpkaaDoor
