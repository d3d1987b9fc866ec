/- The law of IsGroup: the walk. -/
import Derived.Deep.RegionHeld3
import Derived.Test.YtahilkhnlobaoaaSz
import Derived.Test.YtahilkhnlobaoaaTo
import Derived.Test.YtahilkhnlobaoaaEq
import Derived.Test.YtahilkhnlobaoaaIsG
namespace Go.Proofs.Ytahilkhnlobaoaa
open Go.RowKit

theorem small_of {t : List (List Int)} (h : Small t 1048576) : t.length ≤ 1048576 ∧ ∀ i, i < t.length → (row t i).length ≤ 1048576 :=
  ⟨by have := h.1; omega, fun i hi => by have := h.2 i hi; omega⟩


end Go.Proofs.Ytahilkhnlobaoaa
