/- Sets of elements as digits in base 2. -/
import Derived.Test.YtfnjpbjlikajbaaBa
namespace Go.Proofs.Ytfnjpbjlikajbaa
open Go.RowKit

/-- The least element of a set, the set without it, all elements. -/
def tzN (s : Nat) : Nat := ((List.range 8).find? fun a => s.testBit a).getD 0
def dropN (s : Nat) : Nat := s &&& (s - 1)
def elN (s : Nat) : List Nat := (List.range 8).filter fun a => s.testBit a
/-- The place of a power of two in the library's table. -/
def placeN (k : Nat) : Nat := [0, 1, 3, 7, 15, 31, 63, 62].getD k 0

theorem elN_zero : elN 0 = [] := by decide +kernel
theorem elN_step : ∀ s : Nat, s < 256 → 0 < s → elN s = tzN s :: elN (dropN s) ∧ dropN s < s ∧ tzN s < 8 := by decide +kernel
theorem elN_len : ∀ s : Nat, s < 256 → (elN s).length ≤ 8 := by decide +kernel
theorem bits_with : ∀ s : Nat, s < 256 → ∀ a : Nat, a < 8 → bits BinOp.or IntKind.u64 (s : Int) (IntKind.u64.wrap (2 ^ a)) = ((s ||| 2 ^ a : Nat) : Int) := by decide +kernel
theorem with_lt : ∀ s : Nat, s < 256 → ∀ a : Nat, a < 8 → s ||| 2 ^ a < 256 := by decide +kernel
theorem bits_drop : ∀ s : Nat, s < 256 → 0 < s → bits BinOp.and IntKind.u64 (s : Int) ((s : Int) - 1) = (dropN s : Int) := by decide +kernel
theorem bits_low : ∀ s : Nat, s < 256 → 0 < s → bits BinOp.and IntKind.u64 (s : Int) (IntKind.u64.wrap (-(s : Int))) = ((2 ^ tzN s : Nat) : Int) := by decide +kernel
theorem place_low : ∀ k : Nat, k < 8 → IntKind.u64.wrap (((2 ^ k : Nat) : Int) * 285870213051353865) / 288230376151711744 = (placeN k : Int) := by decide +kernel
theorem place_lt : ∀ k : Nat, k < 8 → placeN k < 64 := by decide +kernel
theorem with_bit (s a j : Nat) : (s ||| 2 ^ a).testBit j = (s.testBit j || decide (a = j)) := by simp [Nat.testBit_two_pow]

end Go.Proofs.Ytfnjpbjlikajbaa
