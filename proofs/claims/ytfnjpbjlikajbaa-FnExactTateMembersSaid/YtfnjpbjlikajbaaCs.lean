/- Sets of elements, by the specification. -/
import Derived.Test.YtfnjpbjlikajbaaCl
import Derived.Test.YtfnjpbjlikajbaaCel
namespace Go.Proofs.Ytfnjpbjlikajbaa
open Go.RowKit

theorem bit_test : ∀ s : Nat, s < 256 → ∀ a : Nat, a < 8 → (bits BinOp.and IntKind.i64 ((s : Int) / 2 ^ a) 1 == 1) = s.testBit a := by decide +kernel
theorem bits_or64 : ∀ s : Nat, s < 256 → ∀ a : Nat, a < 8 → bits BinOp.or IntKind.i64 (s : Int) (wrap64 (2 ^ a)) = ((s ||| 2 ^ a : Nat) : Int) := by decide +kernel
theorem elI_selI (s : Nat) : elI s = selI (fun a => s.testBit a) 8 := rfl

/-- The code of a group and a set of elements. -/
noncomputable def setC (t : List (List Int)) (xs : List Int) : Int := if grpB t = true then (if setB t.length xs = true then 0 else 2) else 1
section
variable {t : List (List Int)} {xs : List Int}
theorem setC_no (h : grpB t = false) : setC t xs = 1 := by simp [setC, h]
theorem setC_out (h : grpB t = true) (h2 : setB t.length xs = false) : setC t xs = 2 := by simp [setC, h, h2]
theorem setC_yes (h : grpB t = true) (h2 : setB t.length xs = true) : setC t xs = 0 := by simp [setC, h, h2]
end

theorem bits_or1 : ∀ s : Nat, s < 256 → bits BinOp.or IntKind.i64 (s : Int) 1 = ((s ||| 1 : Nat) : Int) := by decide +kernel
theorem bits_new : ∀ s : Nat, s < 256 → ∀ a : Nat, a < 8 → (bits BinOp.and IntKind.i64 (s : Int) (wrap64 (2 ^ a)) == 0) = !s.testBit a := by decide +kernel
theorem or_has : ∀ s : Nat, s < 256 → ∀ a : Nat, a < 8 → s.testBit a = true → s ||| 2 ^ a = s := by decide +kernel
theorem or_new : ∀ s : Nat, s < 256 → ∀ a : Nat, a < 8 → s.testBit a = false → s < s ||| 2 ^ a := by decide +kernel
theorem nth_elI {s i : Nat} (h : i < (elN s).length) : nth (elI s) i = (((elN s)[i]'h : Nat) : Int) := by simp [nth, elI, h]
/-- Is more wanted? -/
def moreN : Value → Nat
  | .bool true => 1
  | _ => 0

end Go.Proofs.Ytfnjpbjlikajbaa
