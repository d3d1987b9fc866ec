/- Is it a module? The program, at whatever module value. -/
import Derived.Test.YtmmgmbgnlcfabaaMk2
namespace Go.Proofs.Ytmmgmbgnlcfabaa
open Go.RowKit

end Go.Proofs.Ytmmgmbgnlcfabaa
