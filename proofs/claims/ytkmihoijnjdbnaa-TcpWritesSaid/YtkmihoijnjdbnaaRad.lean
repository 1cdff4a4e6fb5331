/- The reference's addr, for seats without layer 5. -/
import Derived.Test.YtkmihoijnjdbnaaRdf
import Derived.Test.YtkmihoijnjdbnaaEth1
namespace Go.Proofs.Ytkmihoijnjdbnaa
open Go.RowKit

end Go.Proofs.Ytkmihoijnjdbnaa
