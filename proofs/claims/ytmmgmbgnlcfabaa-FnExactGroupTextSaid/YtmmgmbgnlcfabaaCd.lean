/- The laws' helpers for cochains: measure, copy, compare. -/
import Derived.Test.YtmmgmbgnlcfabaaSz
import Derived.Test.YtmmgmbgnlcfabaaTo
import Derived.Test.YtmmgmbgnlcfabaaEq
namespace Go.Proofs.Ytmmgmbgnlcfabaa
open Go.RowKit

end Go.Proofs.Ytmmgmbgnlcfabaa
