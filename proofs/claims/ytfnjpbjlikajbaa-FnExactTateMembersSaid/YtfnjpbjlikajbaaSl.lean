/- Ranges over sets; their lists. -/
import Derived.Test.YtfnjpbjlikajbaaBa
import Derived.Test.YtfnjpbjlikajbaaSt
import Derived.OwnWalkIn
namespace Go.Proofs.Ytfnjpbjlikajbaa
open Go.RowKit Go.Shelf

attribute [local go_sem] Oper.semAt_some

/-- The elements of a set, as numbers. -/
def elI (s : Nat) : List Int := (elN s).map fun a : Nat => (a : Int)
theorem elI_len (s : Nat) : (elI s).length = (elN s).length := by simp [elI]

end Go.Proofs.Ytfnjpbjlikajbaa
