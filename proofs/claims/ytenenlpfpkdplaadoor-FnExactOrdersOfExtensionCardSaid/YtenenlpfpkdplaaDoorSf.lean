/- l03Boundary and l03Cocycle: the specification's boundary and test. -/
import Derived.Deep.RegionHeld3
import Derived.Test.YtenenlpfpkdplaaDoorSd
import Derived.Test.YtenenlpfpkdplaaDoorBv
namespace Go.Proofs.YtenenlpfpkdplaaDoor
open Go.RowKit

end Go.Proofs.YtenenlpfpkdplaaDoor
