/- The contracts of package octet's functions. -/
import Derived.Test.YtjfkeocdojjpgaaRows
import Derived.Test.YtjfkeocdojjpgaaMem
import Derived.WalkSpells
import Derived.WalkLawsBesides
namespace Go.Proofs.Ytjfkeocdojjpgaa
open Go.RowKit

theorem Try.info5 : (Try.prog.info? 5).map (fun i => (i.zero, i.size, i.bytes)) = some (some (.int .u8 0), 1, 1) := by kernel_rfl

end Go.Proofs.Ytjfkeocdojjpgaa
