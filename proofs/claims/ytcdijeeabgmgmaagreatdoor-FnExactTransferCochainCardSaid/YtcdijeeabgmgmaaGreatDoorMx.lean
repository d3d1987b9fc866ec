/- MoveCochain: the model, the program's contract. -/
import Derived.Test.YtcdijeeabgmgmaaGreatDoorMvt
import Derived.Test.YtcdijeeabgmgmaaGreatDoorFif
import Derived.Test.YtcdijeeabgmgmaaGreatDoorBa
namespace Go.Proofs.YtcdijeeabgmgmaaGreatDoor
open Go.RowKit

def movB (N : Nat) (c : Int) : Bool := decide (0 ≤ c ∧ c < N)
noncomputable def qMoveCochain0 (t : List (List Int)) (m : Int) (us : List Int) (n : Int) (fs : List Int) (c : Int) : Int := if gmcB t m us n fs = true ∧ movB t.length c = true then n else 0
noncomputable def yMoveCochain0 (t : List (List Int)) (m : Int) (us : List Int) (n : Int) (fs : List Int) (c : Int) : List Int :=
  if gmcB t m us n fs = true ∧ movB t.length c = true then (List.range (cellsN t.length n.toNat)).map fun k => movV t m.toNat us fs n.toNat k (iv t c.toNat) c.toNat else []
noncomputable def qMoveCochain1 (t : List (List Int)) (m : Int) (us : List Int) (n : Int) (fs : List Int) (c : Int) : Int := if gmcB t m us n fs = true then (if movB t.length c = true then 0 else 2) else 1
section
variable {t : List (List Int)} {m n c : Int} {us fs : List Int}
theorem mv_no (h : gmcB t m us n fs = false) : qMoveCochain0 t m us n fs c = 0 ∧ yMoveCochain0 t m us n fs c = [] ∧ qMoveCochain1 t m us n fs c = 1 := by simp [qMoveCochain0, yMoveCochain0, qMoveCochain1, h]
theorem mv_out (h : gmcB t m us n fs = true) (h2 : movB t.length c = false) : qMoveCochain0 t m us n fs c = 0 ∧ yMoveCochain0 t m us n fs c = [] ∧ qMoveCochain1 t m us n fs c = 2 := by simp [qMoveCochain0, yMoveCochain0, qMoveCochain1, h, h2]
theorem mv_yes {M d a : Nat} (h : gmcB t (M : Int) us (d : Int) fs = true) (h2 : movB t.length (a : Int) = true) : qMoveCochain0 t (M : Int) us (d : Int) fs (a : Int) = (d : Int) ∧ yMoveCochain0 t (M : Int) us (d : Int) fs (a : Int) = (List.range (cellsN t.length d)).map (fun k => movV t M us fs d k (iv t a) a) ∧ qMoveCochain1 t (M : Int) us (d : Int) fs (a : Int) = 0 := by
  simp [qMoveCochain0, yMoveCochain0, qMoveCochain1, h, h2]
theorem moveCochain_small0 (t : List (List Int)) (m : Int) (us : List Int) (n : Int) (fs : List Int) (c : Int) : (yMoveCochain0 t m us n fs c).length ≤ 1048576 := by
  unfold yMoveCochain0
  split
  · rename_i h
    obtain ⟨M, k, rfl, rfl, hMF, hk3, hlen, h343, hfr⟩ := gmc_facts h.1
    simp only [List.length_map, List.length_range, Int.toNat_natCast]
    have := cellsN_le hMF.g.n8 (show k ≤ 4 by omega)
    omega
  · simp
theorem cells_pos {N d k : Nat} (h : k < cellsN N d) : d = 0 ∨ 2 ≤ N := by
  rcases Nat.eq_zero_or_pos d with h0 | h0
  · exact .inl h0
  · right
    rcases Nat.lt_or_ge N 2 with hN | hN
    · rw [cellsN, show N - 1 = 0 by omega, Nat.zero_pow h0] at h
      omega
    · exact hN
end

end Go.Proofs.YtcdijeeabgmgmaaGreatDoor
