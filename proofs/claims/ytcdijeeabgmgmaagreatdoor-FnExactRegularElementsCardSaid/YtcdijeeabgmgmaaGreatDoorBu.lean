/- BoundaryOf: the model, the program's contract. -/
import Derived.Test.YtcdijeeabgmgmaaGreatDoorBt
import Derived.Test.YtcdijeeabgmgmaaGreatDoorLst
import Derived.Test.YtcdijeeabgmgmaaGreatDoorFif
namespace Go.Proofs.YtcdijeeabgmgmaaGreatDoor
open Go.RowKit

def degB (n : Int) : Bool := decide (n = 3)
noncomputable def qBoundaryOf0 (t : List (List Int)) (m : Int) (us : List Int) (n : Int) (fs : List Int) : Int := if gmcB t m us n fs = true ∧ degB n = false then n + 1 else 0
noncomputable def yBoundaryOf0 (t : List (List Int)) (m : Int) (us : List Int) (n : Int) (fs : List Int) : List Int :=
  if gmcB t m us n fs = true ∧ degB n = false then (List.range (cellsN t.length (n.toNat + 1))).map fun k => bdV t m.toNat us fs (lsL t.length (n.toNat + 1) k) else []
noncomputable def qBoundaryOf1 (t : List (List Int)) (m : Int) (us : List Int) (n : Int) (fs : List Int) : Int := if gmcB t m us n fs = true then (if degB n = true then 2 else 0) else 1
section
variable {t : List (List Int)} {m n : Int} {us fs : List Int}
theorem bo_no (h : gmcB t m us n fs = false) : qBoundaryOf0 t m us n fs = 0 ∧ yBoundaryOf0 t m us n fs = [] ∧ qBoundaryOf1 t m us n fs = 1 := by simp [qBoundaryOf0, yBoundaryOf0, qBoundaryOf1, h]
theorem bo_out (h : gmcB t m us n fs = true) (h2 : degB n = true) : qBoundaryOf0 t m us n fs = 0 ∧ yBoundaryOf0 t m us n fs = [] ∧ qBoundaryOf1 t m us n fs = 2 := by simp [qBoundaryOf0, yBoundaryOf0, qBoundaryOf1, h, h2]
theorem bo_yes {M d : Nat} (h : gmcB t (M : Int) us (d : Int) fs = true) (h2 : degB (d : Int) = false) : qBoundaryOf0 t (M : Int) us (d : Int) fs = (d : Int) + 1 ∧ yBoundaryOf0 t (M : Int) us (d : Int) fs = (List.range (cellsN t.length (d + 1))).map (fun k => bdV t M us fs (lsL t.length (d + 1) k)) ∧ qBoundaryOf1 t (M : Int) us (d : Int) fs = 0 := by
  simp [qBoundaryOf0, yBoundaryOf0, qBoundaryOf1, h, h2]
theorem boundaryOf_small0 (t : List (List Int)) (m : Int) (us : List Int) (n : Int) (fs : List Int) : (yBoundaryOf0 t m us n fs).length ≤ 1048576 := by
  unfold yBoundaryOf0
  split
  · rename_i h
    obtain ⟨M, k, rfl, rfl, hMF, hk3, hlen, h343, hfr⟩ := gmc_facts h.1
    simp only [List.length_map, List.length_range, Int.toNat_natCast]
    have := cellsN_le hMF.g.n8 (show k + 1 ≤ 4 by omega)
    omega
  · simp
theorem cells_p1 {N d k : Nat} (h : k < cellsN N (d + 1)) : 2 ≤ N := by
  rcases Nat.lt_or_ge N 2 with hN | hN
  · rw [cellsN, show N - 1 = 0 by omega, Nat.zero_pow (by omega)] at h
    omega
  · exact hN
end

end Go.Proofs.YtcdijeeabgmgmaaGreatDoor
