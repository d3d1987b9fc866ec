/- The units that homomorphisms lead to. -/
import Derived.Deep.RegionHeld3
import Derived.RangeFuncBox
import Derived.Test.YtmmgmbgnlcfabaaMc
import Derived.Test.YtmmgmbgnlcfabaaOwn
namespace Go.Proofs.Ytmmgmbgnlcfabaa
open Go.RowKit

theorem Has.grown {W W' : World} {row : Option Nat} {B : Nat} {e : TypeId} {cs : Array Value} (h : Has W B e cs) (hg : W.grownBy W' row) (hne : ∀ k, row = some k → B ≠ k) : Has W' B e cs :=
  (hg.block B h.lt (fun e' => hne B e'.symm rfl)).trans h

end Go.Proofs.Ytmmgmbgnlcfabaa
