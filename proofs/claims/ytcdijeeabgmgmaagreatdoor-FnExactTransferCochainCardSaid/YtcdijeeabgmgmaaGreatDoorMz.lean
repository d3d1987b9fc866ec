/- MoveCochain: the model's contract. -/
import Derived.Test.YtcdijeeabgmgmaaGreatDoorMy
namespace Go.Proofs.YtcdijeeabgmgmaaGreatDoor
open Go.RowKit

theorem l01Elements1_ex (A : Option Addr) (t : List (List Int)) (d kb : Nat) (a : Int) (w : World) (hR : RwsW w A t) (hs : SmallT t) (hg : IsGrp t) (hK : Has w kb 2 #[.int .i64 a]) :
    Calls Tryz.prog 141 #[.agg #[.slice A t.length d], .slice (some ⟨kb, 0, none⟩) 1 1] w fun e w' => e = .returned (.int .i64 (if movB t.length a = true then 0 else 2)) ∧ Ex w w' := by
  have hX : IntsW w (some ⟨kb, 0, none⟩) [a] := .inr ⟨kb, 0, rfl, hK.lt, fun j hj => by
    obtain rfl : j = 0 := by simp at hj; exact hj
    exact hK.cell 0⟩
  refine (l01Elements_any A (some ⟨kb, 0, none⟩) t [a] d 1 _ _ w hR.rws hX.ints (Nat.le_refl _) (Nat.le_refl _) hs.1 hs.2 (by simp)).mono fun e w' ⟨h1, h2⟩ => ⟨?_, h2⟩
  rw [h1]
  congr 2
  have hin : InR t.length [a] ↔ (0 ≤ a ∧ a < t.length) := ⟨fun h => h 0 (by simp), fun h i hi => by
    obtain rfl : i = 0 := by simp at hi; exact hi
    exact h⟩
  by_cases h : 0 ≤ a ∧ a < t.length
  · rw [elemR, if_pos hg, if_pos (hin.2 h), if_pos (by simp [movB, h])]
  · rw [elemR, if_pos hg, if_neg (fun k => h (hin.1 k)), if_neg (by simp [movB]; omega)]

end Go.Proofs.YtcdijeeabgmgmaaGreatDoor
