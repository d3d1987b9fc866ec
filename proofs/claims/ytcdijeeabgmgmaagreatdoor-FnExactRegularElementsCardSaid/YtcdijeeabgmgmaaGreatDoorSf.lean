/- l03Boundary and l03Cocycle: the specification's boundary and test. -/
import Derived.Deep.RegionHeld3
import Derived.Test.YtcdijeeabgmgmaaGreatDoorSd
import Derived.Test.YtcdijeeabgmgmaaGreatDoorBv
namespace Go.Proofs.YtcdijeeabgmgmaaGreatDoor
open Go.RowKit

end Go.Proofs.YtcdijeeabgmgmaaGreatDoor
