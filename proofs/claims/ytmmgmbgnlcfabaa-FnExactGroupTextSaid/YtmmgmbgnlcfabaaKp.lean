/- Products kept by a list of images: towards a group, and towards units. -/
import Derived.Test.YtmmgmbgnlcfabaaCol
import Derived.Test.YtmmgmbgnlcfabaaOrd
import Derived.Test.YtmmgmbgnlcfabaaGcd
namespace Go.Proofs.Ytmmgmbgnlcfabaa
open Go.RowKit

/-- The image of an element. -/
def im (xs : List Int) (k : Nat) : Nat := (nth xs k).toNat
theorem im_eq {n : Nat} {xs : List Int} (h : InR n xs) {k : Nat} (hk : k < xs.length) : nth xs k = (im xs k : Int) ∧ im xs k < n := by
  have h1 := h k hk
  unfold im
  omega

/-- Do the images agree with this product? -/
def KeepAtP (t : List (List Int)) (P : Nat → Nat → Nat) (xs : List Int) (i j : Nat) : Prop := im xs (mul t i j) = P (im xs i) (im xs j)
open Classical in
noncomputable def keepPB (t : List (List Int)) (P : Nat → Nat → Nat) (xs : List Int) : Bool := decide (∀ i, i < t.length → ∀ j, j < t.length → KeepAtP t P xs i j)

section
variable {t : List (List Int)} {P : Nat → Nat → Nat} {xs : List Int}
theorem keepPB_iff : keepPB t P xs = true ↔ ∀ i, i < t.length → ∀ j, j < t.length → KeepAtP t P xs i j := by
  simp only [keepPB, decide_eq_true_eq]
theorem keepPB_true (h : ∀ i, i < t.length → ∀ j, j < t.length → KeepAtP t P xs i j) : keepPB t P xs = true := keepPB_iff.2 h
theorem keepPB_false {i j : Nat} (hi : i < t.length) (hj : j < t.length) (h : ¬ KeepAtP t P xs i j) : keepPB t P xs = false := by
  simp only [keepPB, decide_eq_false_iff_not]
  exact fun hk => h (hk i hi j hj)
end

/-- The product of units. -/
def umul (m x y : Nat) : Nat := x * y % m

end Go.Proofs.Ytmmgmbgnlcfabaa
