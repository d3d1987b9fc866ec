/- OrdersOf, of the specification. -/
import Derived.Test.YtenenlpfpkdplaaDoorOgr
import Derived.Maps.AppendAt
import Derived.OwnWalk
namespace Go.Proofs.YtenenlpfpkdplaaDoor
open Go.RowKit

end Go.Proofs.YtenenlpfpkdplaaDoor
