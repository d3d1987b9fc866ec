/- l03Boundary and l03Cocycle: the specification's boundary and test. -/
import Derived.Deep.RegionHeld3
import Derived.Test.YtcdijeeabgmgmaaDoorSd
import Derived.Test.YtcdijeeabgmgmaaDoorBv
namespace Go.Proofs.YtcdijeeabgmgmaaDoor
open Go.RowKit

end Go.Proofs.YtcdijeeabgmgmaaDoor
