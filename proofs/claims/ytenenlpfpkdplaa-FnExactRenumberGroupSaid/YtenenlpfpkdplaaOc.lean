/- How many elements a set has. -/
import Derived.Test.YtenenlpfpkdplaaSe
namespace Go.Proofs.Ytenenlpfpkdplaa
open Go.RowKit

set_option maxRecDepth 100000 in
set_option maxHeartbeats 1000000 in
theorem ones_any (s : Nat) (w : World) (hs : s < 256) :
    Calls Try.prog 79 #[.int .u64 (s : Int)] w fun e w' => e = .returned (.int .i64 ((elN s).length : Int)) ∧ w = w' := by
  go_enter Try.func79, Try.ntmps79
  go_wp2
  go_ret
  refine ⟨congrArg (fun x => Ending.returned (Value.int .i64 x)) ?_, rfl⟩
  revert s
  decide +kernel

set_option maxHeartbeats 400000 in
theorem size_any (s : Nat) (w : World) (hs : s < 256) :
    Calls Try.prog 61 #[.int .u64 (s : Int)] w fun e w' => e = .returned (.int .i64 ((elN s).length : Int)) ∧ w = w' := by
  have HO := Lib.hid (ones_any s w hs)
  go_enter Try.func61, Try.ntmps61
  go_wp2_with fail
  refine HO.out.mono ?_
  rintro e w' ⟨rfl, rfl⟩
  go_wp2_with fail
  go_ret
  exact ⟨rfl, rfl⟩

end Go.Proofs.Ytenenlpfpkdplaa
