/- The laws' helpers for modules: measure, copy, compare. -/
import Derived.Test.YtmmgmbgnlcfabaaSz
import Derived.Test.YtmmgmbgnlcfabaaTo
import Derived.Test.YtmmgmbgnlcfabaaEq
namespace Go.Proofs.Ytmmgmbgnlcfabaa
open Go.RowKit

end Go.Proofs.Ytmmgmbgnlcfabaa
