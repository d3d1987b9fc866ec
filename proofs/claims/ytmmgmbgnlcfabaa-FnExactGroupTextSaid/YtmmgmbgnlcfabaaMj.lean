/- Is it a module? The specification's test at whatever module value, and IsModule. -/
import Derived.Test.YtmmgmbgnlcfabaaMi
namespace Go.Proofs.Ytmmgmbgnlcfabaa
open Go.RowKit

/-- Is it a module, and the code. -/
noncomputable def isModR (t : List (List Int)) (m : Int) (us : List Int) : Bool × Int := if grpB t = true then (modB t m us, 0) else (false, 1)

end Go.Proofs.Ytmmgmbgnlcfabaa
