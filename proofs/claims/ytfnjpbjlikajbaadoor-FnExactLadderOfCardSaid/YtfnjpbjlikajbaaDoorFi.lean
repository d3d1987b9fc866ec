/- Is it a cochain of a group and a module? Both sides' tests. -/
import Derived.Test.YtfnjpbjlikajbaaDoorMnm
import Derived.Test.YtfnjpbjlikajbaaDoorCel
namespace Go.Proofs.YtfnjpbjlikajbaaDoor
open Go.RowKit

/-- Has a cochain of a group of order N and a module with M a Degree n and the Values fs? -/
def cocB (N : Nat) (M : Int) (n : Int) (fs : List Int) : Bool := inB n 0 3 && (decide (fs.length = cellsN N n.toNat) && belowB M fs)

end Go.Proofs.YtfnjpbjlikajbaaDoor
