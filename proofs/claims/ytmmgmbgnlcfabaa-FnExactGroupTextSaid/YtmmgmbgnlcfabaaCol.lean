/- slices.Collect over the elements of a group; what homomorphisms lead to. -/
import Derived.Test.YtmmgmbgnlcfabaaOwn
import Derived.Test.YtmmgmbgnlcfabaaIt
import Derived.OwnWalkIn
namespace Go.Proofs.Ytmmgmbgnlcfabaa
open Go.RowKit Go.Shelf

attribute [local go_sem] Oper.semAt_some

/-- The elements. -/
def elems (N : Nat) : List Int := (List.range N).map fun k : Nat => (k : Int)
theorem elems_length (N : Nat) : (elems N).length = N := by simp [elems]
theorem finRange_elems (N : Nat) : (List.finRange N).map (fun x : Fin N => Value.int .i64 (x.val : Int)) = (elems N).map fun x => .int .i64 x := by
  apply List.ext_getElem
  · simp [elems]
  · intro i h1 h2
    simp [elems]

end Go.Proofs.Ytmmgmbgnlcfabaa
