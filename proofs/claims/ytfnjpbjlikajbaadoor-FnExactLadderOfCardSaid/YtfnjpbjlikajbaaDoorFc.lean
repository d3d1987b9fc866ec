/- The model's tests of cochains. -/
import Derived.Test.YtfnjpbjlikajbaaDoorFi
import Derived.Test.YtfnjpbjlikajbaaDoorMdl
namespace Go.Proofs.YtfnjpbjlikajbaaDoor
open Go.RowKit

end Go.Proofs.YtfnjpbjlikajbaaDoor
