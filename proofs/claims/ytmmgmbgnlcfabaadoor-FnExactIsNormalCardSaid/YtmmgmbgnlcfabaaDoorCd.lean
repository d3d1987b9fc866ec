/- The laws' helpers for cochains: measure, copy, compare. -/
import Derived.Test.YtmmgmbgnlcfabaaDoorSz
import Derived.Test.YtmmgmbgnlcfabaaDoorTo
import Derived.Test.YtmmgmbgnlcfabaaDoorEq
namespace Go.Proofs.YtmmgmbgnlcfabaaDoor
open Go.RowKit

end Go.Proofs.YtmmgmbgnlcfabaaDoor
