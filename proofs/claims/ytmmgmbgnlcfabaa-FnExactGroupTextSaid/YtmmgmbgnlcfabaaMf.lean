/- What a group and a module give; the tests of both sides in one form. -/
import Derived.Test.YtmmgmbgnlcfabaaMn
import Derived.Test.YtmmgmbgnlcfabaaNm
import Derived.Test.YtmmgmbgnlcfabaaCv
import Derived.Test.YtmmgmbgnlcfabaaCe
namespace Go.Proofs.Ytmmgmbgnlcfabaa
open Go.RowKit

/-- What a module gives. -/
structure ModF (t : List (List Int)) (M : Nat) (us : List Int) : Prop where
  g : IsGrp t
  m2 : 2 ≤ M
  m12 : M ≤ 12
  len : us.length = t.length
  rng : InR M us
  unit : ∀ i, i < us.length → 1 ≤ nth us i
theorem gmB_f {t : List (List Int)} {m : Int} {us : List Int} (h : gmB t m us = true) : ∃ M : Nat, m = (M : Int) ∧ ModF t M us := by
  obtain ⟨h1, h2, h3, h4, h5, _⟩ := gmB_true h
  obtain ⟨M, rfl⟩ : ∃ M : Nat, m = (M : Int) := ⟨m.toNat, by omega⟩
  exact ⟨M, rfl, h1, by omega, by omega, h4, by simpa using units_inR h5 (by omega), fun i hi => (unitB_iff.1 (unitsB_iff.1 h5 i hi)).1⟩

end Go.Proofs.Ytmmgmbgnlcfabaa
