/- The code for a group and one module: the specification's l02Code. -/
import Derived.Test.YtmmgmbgnlcfabaaMj
namespace Go.Proofs.Ytmmgmbgnlcfabaa
open Go.RowKit

/-- Is it a group, and a module of it? -/
noncomputable def gmB (t : List (List Int)) (m : Int) (us : List Int) : Bool := grpB t && modB t m us
noncomputable def gmC (t : List (List Int)) (m : Int) (us : List Int) : Int := if gmB t m us = true then 0 else 1
theorem gmC_no {t : List (List Int)} {m : Int} {us : List Int} (h : gmB t m us = false) : gmC t m us = 1 := by rw [gmC, h]; rfl
theorem gmC_yes {t : List (List Int)} {m : Int} {us : List Int} (h : gmB t m us = true) : gmC t m us = 0 := by rw [gmC, h]; rfl

end Go.Proofs.Ytmmgmbgnlcfabaa
