/- RestrictModule: both contracts. -/
import Derived.Test.YtdehalkebneaoaaRs
import Derived.Test.YtdehalkebneaoaaRt
namespace Go.Proofs.Ytdehalkebneaoaa
open Go.RowKit

end Go.Proofs.Ytdehalkebneaoaa
