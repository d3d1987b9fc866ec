/- RepresentativesOf and IndexOf: both contracts. -/
import Derived.Test.YtcdijeeabgmgmaaGreatDoorSub
import Derived.Test.YtcdijeeabgmgmaaGreatDoorQot
namespace Go.Proofs.YtcdijeeabgmgmaaGreatDoor
open Go.RowKit Go.Shelf

attribute [local go_sem] Oper.semAt_some

noncomputable def cosS (t : List (List Int)) (xs : List Int) : Cos := cosK t (elsL xs) t.length
noncomputable def yRepresentativesOf0 (t : List (List Int)) (xs : List Int) : List Int := if sgC t xs [] = 0 then (cosS t xs).fst.map fun x : Nat => (x : Int) else []
noncomputable def qRepresentativesOf1 (t : List (List Int)) (xs : List Int) : Int := sgC t xs []
noncomputable def qIndexOf0 (t : List (List Int)) (xs : List Int) : Int := if sgC t xs [] = 0 then ((cosS t xs).fst.length : Int) else 0
noncomputable def qIndexOf1 (t : List (List Int)) (xs : List Int) : Int := sgC t xs []
section
variable {t : List (List Int)} {xs : List Int}
theorem rpo_no {z : Int} (h : sgC t xs [] = z) (hz : z ≠ 0) : yRepresentativesOf0 t xs = [] ∧ qRepresentativesOf1 t xs = z := by simp [yRepresentativesOf0, qRepresentativesOf1, h, hz]
theorem rpo_yes (h : sgC t xs [] = 0) : yRepresentativesOf0 t xs = (cosS t xs).fst.map (fun x : Nat => (x : Int)) ∧ qRepresentativesOf1 t xs = 0 := by simp [yRepresentativesOf0, qRepresentativesOf1, h]
theorem ixo_no {z : Int} (h : sgC t xs [] = z) (hz : z ≠ 0) : qIndexOf0 t xs = 0 ∧ qIndexOf1 t xs = z := by simp [qIndexOf0, qIndexOf1, h, hz]
theorem ixo_yes (h : sgC t xs [] = 0) : qIndexOf0 t xs = ((cosS t xs).fst.length : Int) ∧ qIndexOf1 t xs = 0 := by simp [qIndexOf0, qIndexOf1, h]
theorem GrowI.lowU {w : World} {lo lo' n : Nat} {v : Value} {xs : List Int} (h : GrowI w lo v n xs) (hl : lo' ≤ lo) : GrowI w lo' v n xs := by
  obtain ⟨⟨h1, h2⟩, h3⟩ := h
  refine ⟨⟨h1, ?_⟩, h3⟩
  rcases h2 with h2 | ⟨g, cap, cur, e, hg, h4⟩
  · exact .inl h2
  · exact .inr ⟨g, cap, cur, e, Nat.le_trans hl hg, h4⟩
theorem cosS_b (hg : IsGrp t) (hb : setB t.length xs = true) : CosB t t.length (cosS t xs) := quS_b hg hb
theorem representativesOf_small0 (t : List (List Int)) (xs : List Int) : (yRepresentativesOf0 t xs).length ≤ 1048576 := by
  unfold yRepresentativesOf0
  split
  · rename_i h
    obtain ⟨hg, hb, -, -⟩ := sgC_zero h
    have := (cosS_b hg hb).len
    have := hg.n8
    simp
    omega
  · simp
end

end Go.Proofs.YtcdijeeabgmgmaaGreatDoor
