/- ProductModule: both contracts. -/
import Derived.Test.YtdehalkebneaoaaPs
import Derived.Test.YtdehalkebneaoaaPt
namespace Go.Proofs.Ytdehalkebneaoaa
open Go.RowKit


end Go.Proofs.Ytdehalkebneaoaa
