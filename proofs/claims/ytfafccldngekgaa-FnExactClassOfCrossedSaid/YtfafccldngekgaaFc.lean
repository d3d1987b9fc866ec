/- The model's tests of cochains. -/
import Derived.Test.YtfafccldngekgaaFi
import Derived.Test.YtfafccldngekgaaMdl
namespace Go.Proofs.Ytfafccldngekgaa
open Go.RowKit

theorem l02Is_ex (A L : Option Addr) (t : List (List Int)) (m : Int) (us : List Int) (c c' : Nat) (w : World) (hR : RwsW w A t) (hX : IntsW w L us) (hg : IsGrp t) (hx : us.length ≤ 1048576) :
    Calls Try.prog 62 #[.agg #[.slice A t.length c], .agg #[.int .i64 m, .slice L us.length c']] w fun e w' => e = .returned (.bool (modB t m us)) ∧ Ex w w' :=
  l02Is_any A L t m us c c' _ _ w hR.rws hX.ints (Nat.le_refl _) (Nat.le_refl _) hg hx

end Go.Proofs.Ytfafccldngekgaa
