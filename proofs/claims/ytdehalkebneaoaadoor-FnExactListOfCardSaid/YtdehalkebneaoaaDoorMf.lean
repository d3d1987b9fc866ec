/- What a group and a module give; the tests of both sides in one form. -/
import Derived.Test.YtdehalkebneaoaaDoorMn
import Derived.Test.YtdehalkebneaoaaDoorNm
import Derived.Test.YtdehalkebneaoaaDoorCv
import Derived.Test.YtdehalkebneaoaaDoorCe
namespace Go.Proofs.YtdehalkebneaoaaDoor
open Go.RowKit

theorem l02Code_ex (A L : Option Addr) (t : List (List Int)) (m : Int) (us : List Int) (c c' k : Nat) (w : World) (hR : RwsW w A t) (hX : IntsW w L us) (hs : SmallT t) (hx : us.length ≤ 1048576) (hK : Has w k 44 #[.int .i64 m, .slice L us.length c']) :
    Calls Tryd.prog 99 #[.agg #[.slice A t.length c], .slice (some ⟨k, 0, none⟩) 1 1] w fun e w' => e = .returned (.int .i64 (gmC t m us)) ∧ Ex w w' :=
  l02Code_any A L t m us c c' k _ _ w hR.rws hX.ints hK (Nat.le_refl _) (Nat.le_refl _) hs.1 hs.2 hx
theorem isModule_ex (A L : Option Addr) (t : List (List Int)) (m : Int) (us : List Int) (c c' : Nat) (w : World) (hR : RwsW w A t) (hX : IntsW w L us) (hs : SmallT t) (hx : us.length ≤ 1048576) :
    Calls Tryd.prog 100 #[.agg #[.slice A t.length c], .agg #[.int .i64 m, .slice L us.length c']] w fun e w' => e = .returned (.bool (gmB t m us)) ∧ Ex w w' :=
  isModule_any A L t m us c c' _ _ w hR.rws hX.ints (Nat.le_refl _) (Nat.le_refl _) hs.1 hs.2 hx

/-- What a module gives. -/
structure ModF (t : List (List Int)) (M : Nat) (us : List Int) : Prop where
  g : IsGrp t
  m2 : 2 ≤ M
  m12 : M ≤ 12
  len : us.length = t.length
  rng : InR M us
  unit : ∀ i, i < us.length → 1 ≤ nth us i
theorem gmB_f {t : List (List Int)} {m : Int} {us : List Int} (h : gmB t m us = true) : ∃ M : Nat, m = (M : Int) ∧ ModF t M us := by
  obtain ⟨h1, h2, h3, h4, h5, _⟩ := gmB_true h
  obtain ⟨M, rfl⟩ : ∃ M : Nat, m = (M : Int) := ⟨m.toNat, by omega⟩
  exact ⟨M, rfl, h1, by omega, by omega, h4, by simpa using units_inR h5 (by omega), fun i hi => (unitB_iff.1 (unitsB_iff.1 h5 i hi)).1⟩

end Go.Proofs.YtdehalkebneaoaaDoor
