/- Kp Mi Mj Mc Ut in one text. -/
import Derived.Deep.RegionHeld3
import Derived.RangeFuncBox
import Derived.Test.YtfnjpbjlikajbaaDoorCel
import Derived.Test.YtfnjpbjlikajbaaDoorOgr
import Derived.Test.YtfnjpbjlikajbaaDoorBa
/- Products kept by a list of images: towards a group, and towards units. -/
namespace Go.Proofs.YtfnjpbjlikajbaaDoor
open Go.RowKit

/-- The image of an element. -/
def im (xs : List Int) (k : Nat) : Nat := (nth xs k).toNat
theorem im_eq {n : Nat} {xs : List Int} (h : InR n xs) {k : Nat} (hk : k < xs.length) : nth xs k = (im xs k : Int) ∧ im xs k < n := by
  have h1 := h k hk
  unfold im
  omega

/-- Do the images agree with this product? -/
def KeepAtP (t : List (List Int)) (P : Nat → Nat → Nat) (xs : List Int) (i j : Nat) : Prop := im xs (mul t i j) = P (im xs i) (im xs j)
open Classical in
noncomputable def keepPB (t : List (List Int)) (P : Nat → Nat → Nat) (xs : List Int) : Bool := decide (∀ i, i < t.length → ∀ j, j < t.length → KeepAtP t P xs i j)

section
variable {t : List (List Int)} {P : Nat → Nat → Nat} {xs : List Int}
theorem keepPB_iff : keepPB t P xs = true ↔ ∀ i, i < t.length → ∀ j, j < t.length → KeepAtP t P xs i j := by
  simp only [keepPB, decide_eq_true_eq]
theorem keepPB_true (h : ∀ i, i < t.length → ∀ j, j < t.length → KeepAtP t P xs i j) : keepPB t P xs = true := keepPB_iff.2 h
theorem keepPB_false {i j : Nat} (hi : i < t.length) (hj : j < t.length) (h : ¬ KeepAtP t P xs i j) : keepPB t P xs = false := by
  simp only [keepPB, decide_eq_false_iff_not]
  exact fun hk => h (hk i hi j hj)
end

/-- The product of units. -/
def umul (m x y : Nat) : Nat := x * y % m

end Go.Proofs.YtfnjpbjlikajbaaDoor

/- Is it a module? The specification. -/
namespace Go.Proofs.YtfnjpbjlikajbaaDoor
open Go.RowKit

/-- Is it a module of the group with the table t? -/
noncomputable def modB (t : List (List Int)) (m : Int) (us : List Int) : Bool :=
  (decide (2 ≤ m) && decide (m ≤ 12)) && (decide (us.length = t.length) && (unitsB m us && keepPB t (umul m.toNat) us))

section
variable {t : List (List Int)} {m : Int} {us : List Int}
theorem modB_range (h : (decide (2 ≤ m) && decide (m ≤ 12)) = false) : modB t m us = false := by rw [modB, h, Bool.false_and]
theorem modB_len (h : ¬ us.length = t.length) : modB t m us = false := by rw [modB, decide_eq_false h, Bool.false_and, Bool.and_false]
theorem modB_units (h : unitsB m us = false) : modB t m us = false := by rw [modB, h, Bool.false_and, Bool.and_false, Bool.and_false]
theorem modB_keep (h1 : (decide (2 ≤ m) && decide (m ≤ 12)) = true) (h2 : us.length = t.length) (h3 : unitsB m us = true) : modB t m us = keepPB t (umul m.toNat) us := by
  rw [modB, h1, decide_eq_true h2, h3, Bool.true_and, Bool.true_and, Bool.true_and]
theorem modB_true (h : modB t m us = true) : 2 ≤ m ∧ m ≤ 12 ∧ us.length = t.length ∧ unitsB m us = true ∧ keepPB t (umul m.toNat) us = true := by
  simp only [modB, Bool.and_eq_true, decide_eq_true_eq] at h
  exact ⟨h.1.1, h.1.2, h.2.1, h.2.2.1, h.2.2.2⟩
theorem units_inR (h : unitsB m us = true) (hm : 0 ≤ m) : InR m.toNat us := fun i hi => by
  have h1 := unitB_iff.1 (unitsB_iff.1 h i hi)
  exact ⟨by omega, by have := h1.2.1; omega⟩
theorem umul_lt {m x y : Nat} (h : x < m) : umul m x y < m := Nat.mod_lt _ (by omega)
end

/-- The greatest common divisor, the other way round. -/
theorem gcd_unit {m u : Int} (h1 : 1 ≤ u) (h2 : u < m) : unitB m u = (Nat.gcd u.toNat m.toNat == 1) := by
  unfold unitB
  rw [decide_eq_true h1, decide_eq_true h2, Bool.true_and, Bool.true_and, Nat.gcd_comm]

end Go.Proofs.YtfnjpbjlikajbaaDoor

/- Is it a module? The specification's test at whatever module value, and IsModule. -/
namespace Go.Proofs.YtfnjpbjlikajbaaDoor
open Go.RowKit

/-- Is it a module, and the code. -/
noncomputable def isModR (t : List (List Int)) (m : Int) (us : List Int) : Bool × Int := if grpB t = true then (modB t m us, 0) else (false, 1)

end Go.Proofs.YtfnjpbjlikajbaaDoor

/- The code for a group and one module: the specification's l02Code. -/
namespace Go.Proofs.YtfnjpbjlikajbaaDoor
open Go.RowKit

/-- Is it a group, and a module of it? -/
noncomputable def gmB (t : List (List Int)) (m : Int) (us : List Int) : Bool := grpB t && modB t m us
noncomputable def gmC (t : List (List Int)) (m : Int) (us : List Int) : Int := if gmB t m us = true then 0 else 1
theorem gmC_no {t : List (List Int)} {m : Int} {us : List Int} (h : gmB t m us = false) : gmC t m us = 1 := by rw [gmC, h]; rfl
theorem gmC_yes {t : List (List Int)} {m : Int} {us : List Int} (h : gmB t m us = true) : gmC t m us = 0 := by rw [gmC, h]; rfl

end Go.Proofs.YtfnjpbjlikajbaaDoor

/- The units that homomorphisms lead to. -/
namespace Go.Proofs.YtfnjpbjlikajbaaDoor
open Go.RowKit

theorem Has.grown {W W' : World} {row : Option Nat} {B : Nat} {e : TypeId} {cs : Array Value} (h : Has W B e cs) (hg : W.grownBy W' row) (hne : ∀ k, row = some k → B ≠ k) : Has W' B e cs :=
  (hg.block B h.lt (fun e' => hne B e'.symm rfl)).trans h

end Go.Proofs.YtfnjpbjlikajbaaDoor
