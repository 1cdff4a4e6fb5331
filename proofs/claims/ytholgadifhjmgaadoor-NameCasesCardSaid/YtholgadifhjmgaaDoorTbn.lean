/- The rows' listed tables: the witness. -/
import Derived.Test.YtholgadifhjmgaaDoorRows
import Derived.Test.YtholgadifhjmgaaDoorTie
import Derived.LaidMore
import Derived.Lay
import Derived.Stop.LaidErr
namespace Go.Proofs.YtholgadifhjmgaaDoor

theorem laid_witness (os : Os) (args : Array Value) : laidMetH Tryd.prog Rows.nameKnownRow.laid (((World.laidAll Tryd.prog os Rows.nameKnownRow.laid).forCall (fun _ _ => 0) ⟨#[], args, []⟩).memory) := by
  rw [MakeChecks.laidMetH_plain _ _ _ (by kernel_rfl)]; exact laidMet_laidAll _ (by kernel_rfl) (by kernel_rfl)
end Go.Proofs.YtholgadifhjmgaaDoor
