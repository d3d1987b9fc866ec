/- Mn Nm Mf in one text. -/
import Derived.Test.YtfnjpbjlikajbaaDoorMk2
import Derived.Test.YtfnjpbjlikajbaaDoorMdl
import Derived.Test.YtfnjpbjlikajbaaDoorExv
import Derived.Test.YtfnjpbjlikajbaaDoorCel
/- Is it a module? The program, at whatever module value. -/
namespace Go.Proofs.YtfnjpbjlikajbaaDoor
open Go.RowKit

end Go.Proofs.YtfnjpbjlikajbaaDoor

/- NormOf. -/
namespace Go.Proofs.YtfnjpbjlikajbaaDoor
open Go.RowKit

/-- The sum of the first k units. -/
def usum (us : List Int) : Nat → Nat
  | 0 => 0
  | k + 1 => usum us k + im us k
theorem usum_le {us : List Int} {n : Nat} (h : InR n us) : ∀ k, k ≤ us.length → usum us k ≤ n * k
  | 0, _ => Nat.zero_le _
  | k + 1, hk => by
    have h1 := usum_le h k (by omega)
    have h2 := (im_eq h (show k < us.length by omega)).2
    rw [Nat.mul_succ]
    show usum us k + im us k ≤ _
    omega

/-- The norm, and the code. -/
noncomputable def normR (t : List (List Int)) (m : Int) (us : List Int) : Int × Int := if gmB t m us = true then (((usum us us.length % m.toNat : Nat) : Int), 0) else (0, 1)

theorem gmB_true {t : List (List Int)} {m : Int} {us : List Int} (h : gmB t m us = true) : IsGrp t ∧ 2 ≤ m ∧ m ≤ 12 ∧ us.length = t.length ∧ unitsB m us = true ∧ keepPB t (umul m.toNat) us = true := by
  simp only [gmB, Bool.and_eq_true] at h
  exact ⟨grpB_iff.1 h.1, modB_true h.2⟩

theorem usum_step (us : List Int) (k M : Nat) : (usum us k % M + im us k) % M = usum us (k + 1) % M := by
  show _ = (usum us k + im us k) % M
  rw [Nat.mod_add_mod]

end Go.Proofs.YtfnjpbjlikajbaaDoor

/- What a group and a module give; the tests of both sides in one form. -/
namespace Go.Proofs.YtfnjpbjlikajbaaDoor
open Go.RowKit

/-- What a module gives. -/
structure ModF (t : List (List Int)) (M : Nat) (us : List Int) : Prop where
  g : IsGrp t
  m2 : 2 ≤ M
  m12 : M ≤ 12
  len : us.length = t.length
  rng : InR M us
  unit : ∀ i, i < us.length → 1 ≤ nth us i
theorem gmB_f {t : List (List Int)} {m : Int} {us : List Int} (h : gmB t m us = true) : ∃ M : Nat, m = (M : Int) ∧ ModF t M us := by
  obtain ⟨h1, h2, h3, h4, h5, _⟩ := gmB_true h
  obtain ⟨M, rfl⟩ : ∃ M : Nat, m = (M : Int) := ⟨m.toNat, by omega⟩
  exact ⟨M, rfl, h1, by omega, by omega, h4, by simpa using units_inR h5 (by omega), fun i hi => (unitB_iff.1 (unitsB_iff.1 h5 i hi)).1⟩

end Go.Proofs.YtfnjpbjlikajbaaDoor
