/- The contracts of package octet's functions. -/
import Derived.Test.YtppjnhjglhlpkaaDoorRows
import Derived.Test.YtppjnhjglhlpkaaDoorMem
import Derived.WalkSpells
import Derived.WalkLawsBesides
namespace Go.Proofs.YtppjnhjglhlpkaaDoor
open Go.RowKit

theorem Tryd.info5 : (Tryd.prog.info? 5).map (fun i => (i.zero, i.size, i.bytes)) = some (some (.int .u8 0), 1, 1) := by kernel_rfl

end Go.Proofs.YtppjnhjglhlpkaaDoor
