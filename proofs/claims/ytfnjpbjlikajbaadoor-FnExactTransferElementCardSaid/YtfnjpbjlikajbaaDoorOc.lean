/- How many elements a set has. -/
import Derived.Test.YtfnjpbjlikajbaaDoorBts
namespace Go.Proofs.YtfnjpbjlikajbaaDoor
open Go.RowKit

set_option maxRecDepth 100000 in
set_option maxHeartbeats 1000000 in
theorem ones_any (s : Nat) (w : World) (hs : s < 256) :
    Calls Tryd.prog 94 #[.int .u64 (s : Int)] w fun e w' => e = .returned (.int .i64 ((elN s).length : Int)) ∧ w = w' := by
  go_enter Tryd.func94, Tryd.ntmps94
  go_wp2
  go_ret
  refine ⟨congrArg (fun x => Ending.returned (Value.int .i64 x)) ?_, rfl⟩
  revert s
  decide +kernel

set_option maxHeartbeats 400000 in
theorem size_any (s : Nat) (w : World) (hs : s < 256) :
    Calls Tryd.prog 69 #[.int .u64 (s : Int)] w fun e w' => e = .returned (.int .i64 ((elN s).length : Int)) ∧ w = w' := by
  have HO := Lib.hid (ones_any s w hs)
  go_enter Tryd.func69, Tryd.ntmps69
  go_wp2_with fail
  refine HO.out.mono ?_
  rintro e w' ⟨rfl, rfl⟩
  go_wp2_with fail
  go_ret
  exact ⟨rfl, rfl⟩

end Go.Proofs.YtfnjpbjlikajbaaDoor
