/- Chapter 8: LiftCochain, the specification's contract. -/
import Derived.Test.YtllkaoacfchibaaGreatDoorWg
import Derived.Test.YtllkaoacfchibaaGreatDoorWk
namespace Go.Proofs.YtllkaoacfchibaaGreatDoor
open Go.RowKit

end Go.Proofs.YtllkaoacfchibaaGreatDoor
