/- Unions of two sets of at most eight elements. -/
import Derived.Test.YtenenlpfpkdplaaDoorYc
namespace Go.Proofs.YtenenlpfpkdplaaDoor
open Go.RowKit Go.Shelf
set_option maxRecDepth 100000 in
theorem bits_orU : ∀ s : Nat, s < 256 → ∀ a : Nat, a < 256 → bits BinOp.or IntKind.u64 (s : Int) (a : Int) = ((s ||| a : Nat) : Int) := by decide +kernel
theorem bits_orI : ∀ s : Nat, s < 256 → ∀ a : Nat, a < 256 → bits BinOp.or IntKind.i64 (s : Int) (a : Int) = ((s ||| a : Nat) : Int) := by decide +kernel
end Go.Proofs.YtenenlpfpkdplaaDoor
