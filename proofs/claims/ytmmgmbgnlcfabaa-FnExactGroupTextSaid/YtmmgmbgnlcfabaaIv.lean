/- Inverses: both sides' search for them. -/
import Derived.Test.YtmmgmbgnlcfabaaCe
import Derived.Test.YtmmgmbgnlcfabaaAlg
import Derived.Test.YtmmgmbgnlcfabaaImB
namespace Go.Proofs.Ytmmgmbgnlcfabaa
open Go.RowKit

open Classical in
/-- The inverse of an element. -/
noncomputable def iv (t : List (List Int)) (a : Nat) : Nat := if h : ∃ b, b < t.length ∧ mul t a b = 0 then Classical.choose h else 0
section
variable {t : List (List Int)} (h : IsGrp t) {a : Nat} (ha : a < t.length)
include h ha
theorem iv_spec : iv t a < t.length ∧ mul t a (iv t a) = 0 := by
  have hex : ∃ b, b < t.length ∧ mul t a b = 0 := by
    obtain ⟨b, hb, h1, _⟩ := h.inv_ex ha
    exact ⟨b, hb, h1⟩
  unfold iv
  rw [dif_pos hex]
  exact Classical.choose_spec hex
theorem iv_only {b : Nat} (hb : b < t.length) (he : mul t a b = 0) : b = iv t a := h.left_cancel ha hb (iv_spec h ha).1 (he.trans (iv_spec h ha).2.symm)
theorem iv_ent : nth (row t a) (iv t a) = 0 := by
  rw [h.ent ha (iv_spec h ha).1, (iv_spec h ha).2]
  rfl
theorem iv_before {j : Nat} (hj : j < iv t a) : nth (row t a) j ≠ 0 := fun e => by
  have hjl : j < t.length := Nat.lt_trans hj (iv_spec h ha).1
  rw [h.ent ha hjl] at e
  have := iv_only h ha hjl (by omega)
  omega
end

theorem RwsW.sq {w : World} {A : Option Addr} {t : List (List Int)} (h : RwsW w A t) (hg : IsGrp t) : ∃ b o bb oo C, A = some ⟨b, o, none⟩ ∧ SqT w w.heap.size b o bb oo C t := h.rws.sq hg.n1 hg.sq
theorem SqT.ex {w w' : World} {b o : Nat} {bb oo C : Nat → Nat} {t : List (List Int)} (h : SqT w w.heap.size b o bb oo C t) (k : Ex w w') : SqT w' w.heap.size b o bb oo C t := h.below k.below (Nat.le_refl _)
theorem SqT.exB {w w' : World} {B b o : Nat} {bb oo C : Nat → Nat} {t : List (List Int)} (h : SqT w B b o bb oo C t) (k : Ex w w') (hB : B ≤ w.heap.size) : SqT w' B b o bb oo C t := h.below k.below hB

end Go.Proofs.Ytmmgmbgnlcfabaa
