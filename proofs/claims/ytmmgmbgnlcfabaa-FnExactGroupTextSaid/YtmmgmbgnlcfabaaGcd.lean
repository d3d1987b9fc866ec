/- Greatest common divisors, of the program and of the specification; units. -/
import Derived.Test.YtmmgmbgnlcfabaaBase
namespace Go.Proofs.Ytmmgmbgnlcfabaa
open Go.RowKit

theorem gcd_step {x y : Nat} (_ : 0 < y) : Nat.gcd y (x % y) = Nat.gcd x y := by
  rw [Nat.gcd_comm x y, Nat.gcd_rec y x, Nat.gcd_comm]

theorem tmod_nat (x y : Nat) : Int.tmod (x : Int) (y : Int) = ((x % y : Nat) : Int) := (Int.ofNat_tmod x y).symm

/-- Is u a unit modulo m? -/
def unitB (m u : Int) : Bool := decide (1 ≤ u) && (decide (u < m) && (Nat.gcd m.toNat u.toNat == 1))
/-- Are all of them units? -/
def unitsB (m : Int) (us : List Int) : Bool := us.all (unitB m)

theorem unitB_iff {m u : Int} : unitB m u = true ↔ 1 ≤ u ∧ u < m ∧ Nat.gcd m.toNat u.toNat = 1 := by
  simp [unitB]
theorem unitB_false {m u : Int} (h : ¬ (1 ≤ u ∧ u < m ∧ Nat.gcd m.toNat u.toNat = 1)) : unitB m u = false := by
  cases hq : unitB m u
  · rfl
  · exact absurd (unitB_iff.1 hq) h
theorem unitsB_iff {m : Int} {us : List Int} : unitsB m us = true ↔ ∀ i, i < us.length → unitB m (nth us i) = true := by
  unfold unitsB
  rw [List.all_eq_true]
  constructor
  · intro h i hi
    have := h (us[i]) (List.getElem_mem hi)
    simpa [nth, hi] using this
  · intro h x hx
    obtain ⟨i, hi, rfl⟩ := List.getElem_of_mem hx
    have := h i hi
    simpa [nth, hi] using this
theorem unitsB_false {m : Int} {us : List Int} {i : Nat} (hi : i < us.length) (h : unitB m (nth us i) = false) : unitsB m us = false := by
  cases hq : unitsB m us
  · rfl
  · have := unitsB_iff.1 hq i hi
    rw [h] at this
    cases this

end Go.Proofs.Ytmmgmbgnlcfabaa
