/- The reference's addr, for seats without layer 5. -/
import Derived.Test.YthikedajhocdkaaRdf
import Derived.Test.YthikedajhocdkaaEth1
namespace Go.Proofs.Ythikedajhocdkaa
open Go.RowKit

end Go.Proofs.Ythikedajhocdkaa
