/- Is it a module? The specification. -/
import Derived.Test.YtmmgmbgnlcfabaaKp
namespace Go.Proofs.Ytmmgmbgnlcfabaa
open Go.RowKit

/-- Is it a module of the group with the table t? -/
noncomputable def modB (t : List (List Int)) (m : Int) (us : List Int) : Bool :=
  (decide (2 ≤ m) && decide (m ≤ 12)) && (decide (us.length = t.length) && (unitsB m us && keepPB t (umul m.toNat) us))

section
variable {t : List (List Int)} {m : Int} {us : List Int}
theorem modB_range (h : (decide (2 ≤ m) && decide (m ≤ 12)) = false) : modB t m us = false := by rw [modB, h, Bool.false_and]
theorem modB_len (h : ¬ us.length = t.length) : modB t m us = false := by rw [modB, decide_eq_false h, Bool.false_and, Bool.and_false]
theorem modB_units (h : unitsB m us = false) : modB t m us = false := by rw [modB, h, Bool.false_and, Bool.and_false, Bool.and_false]
theorem modB_keep (h1 : (decide (2 ≤ m) && decide (m ≤ 12)) = true) (h2 : us.length = t.length) (h3 : unitsB m us = true) : modB t m us = keepPB t (umul m.toNat) us := by
  rw [modB, h1, decide_eq_true h2, h3, Bool.true_and, Bool.true_and, Bool.true_and]
theorem modB_true (h : modB t m us = true) : 2 ≤ m ∧ m ≤ 12 ∧ us.length = t.length ∧ unitsB m us = true ∧ keepPB t (umul m.toNat) us = true := by
  simp only [modB, Bool.and_eq_true, decide_eq_true_eq] at h
  exact ⟨h.1.1, h.1.2, h.2.1, h.2.2.1, h.2.2.2⟩
theorem units_inR (h : unitsB m us = true) (hm : 0 ≤ m) : InR m.toNat us := fun i hi => by
  have h1 := unitB_iff.1 (unitsB_iff.1 h i hi)
  exact ⟨by omega, by have := h1.2.1; omega⟩
theorem umul_lt {m x y : Nat} (h : x < m) : umul m x y < m := Nat.mod_lt _ (by omega)
end

/-- The greatest common divisor, the other way round. -/
theorem gcd_unit {m u : Int} (h1 : 1 ≤ u) (h2 : u < m) : unitB m u = (Nat.gcd u.toNat m.toNat == 1) := by
  unfold unitB
  rw [decide_eq_true h1, decide_eq_true h2, Bool.true_and, Bool.true_and, Nat.gcd_comm]

end Go.Proofs.Ytmmgmbgnlcfabaa
