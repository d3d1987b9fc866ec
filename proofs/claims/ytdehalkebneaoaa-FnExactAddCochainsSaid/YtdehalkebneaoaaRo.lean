/- The rest of a number, of both sides, for a divisor of at most 12. -/
import Derived.Test.YtdehalkebneaoaaEx
namespace Go.Proofs.Ytdehalkebneaoaa
open Go.RowKit

theorem restUp (x : Int) (m : Int) (hm : 0 < m) : (Int.tmod x m + m).tmod m = x % m := by
  have h0 := Int.emod_nonneg x (show m ≠ 0 by omega)
  have h1 := Int.emod_lt_of_pos x hm
  have h2 : Int.tmod x m + m = x % m ∨ Int.tmod x m + m = x % m + m := by
    rw [Int.tmod_eq_emod]
    split
    · right; omega
    · left; omega
  rcases h2 with e | e
  · rw [e, Int.tmod_eq_emod_of_nonneg h0, Int.emod_emod]
  · rw [e, Int.tmod_eq_emod_of_nonneg (by omega), Int.add_emod_right, Int.emod_emod]

theorem restIf (x : Int) (m : Int) (hm : 0 < m) : (Int.tmod x m < 0 ∧ Int.tmod x m + m = x % m) ∨ (¬ Int.tmod x m < 0 ∧ Int.tmod x m = x % m) := by
  have h0 := Int.emod_nonneg x (show m ≠ 0 by omega)
  have h1 := Int.emod_lt_of_pos x hm
  rw [Int.tmod_eq_emod]
  split
  · right; constructor <;> omega
  · left; constructor <;> omega

theorem tmodBound (x : Int) (m : Nat) (hm : 0 < m) (hm' : m ≤ 12) : -13 < Int.tmod x m ∧ Int.tmod x m < 12 := by
  have h0 := Int.emod_nonneg x (show (m : Int) ≠ 0 by omega)
  have h1 := Int.emod_lt_of_pos x (show 0 < (m : Int) by omega)
  rcases restIf x m (by omega) with ⟨h2, h3⟩ | ⟨h2, h3⟩ <;> omega

set_option maxHeartbeats 400000 in
theorem l01Mod_w (x : Int) (m : Nat) (w : World) (hm : 0 < m) (hm' : m ≤ 12) (_ : -1000000 ≤ x) (_ : x ≤ 1000000) :
    Calls Try.prog 118 #[.int .i64 x, .int .i64 (m : Int)] w fun e w' => e = .returned (.int .i64 (x % (m : Int))) ∧ w = w' := by
  have hb := tmodBound x m hm hm'
  have hw : wrap64 (Int.tmod x m + m) = Int.tmod x m + m := by unfold wrap64; omega
  go_enter Try.func118, Try.ntmps118
  go_wp2
  go_ret
  refine ⟨?_, rfl⟩
  simp only [hw, restUp x m (by omega)]
  rfl
theorem l01Mod_ex (x : Int) (m : Nat) (w : World) (hm : 0 < m) (hm' : m ≤ 12) (h0 : -1000000 ≤ x) (h1 : x ≤ 1000000) :
    Calls Try.prog 118 #[.int .i64 x, .int .i64 (m : Int)] w fun e w' => e = .returned (.int .i64 (x % (m : Int))) ∧ Ex w w' := (l01Mod_w x m w hm hm' h0 h1).mono fun _ _ ⟨h2, h3⟩ => ⟨h2, Ex.of_eq' h3⟩

set_option maxHeartbeats 400000 in
theorem restOf_w (x : Int) (m : Nat) (w : World) (hm : 0 < m) (hm' : m ≤ 12) (_ : -1000000 ≤ x) (_ : x ≤ 1000000) :
    Calls Try.prog 119 #[.int .i64 x, .int .i64 (m : Int)] w fun e w' => e = .returned (.int .i64 (x % (m : Int))) ∧ w = w' := by
  have hb := tmodBound x m hm hm'
  have hw : wrap64 (Int.tmod x m + m) = Int.tmod x m + m := by unfold wrap64; omega
  rcases restIf x m (by omega) with ⟨g1, g2⟩ | ⟨g1, g2⟩
  · have g1' : decide (Int.tmod x m < 0) = true := by simp [g1]
    have G2 := Lib.hid g2
    have HW := Lib.hid hw
    clear g2 hw
    go_enter Try.func119, Try.ntmps119
    go_wp2
    go_ret
    refine ⟨?_, rfl⟩
    simp only [HW.out, G2.out]
    rfl
  · have g1' : decide (Int.tmod x m < 0) = false := by simp [g1]
    have G2 := Lib.hid g2
    clear g2 hw
    go_enter Try.func119, Try.ntmps119
    go_wp2
    go_ret
    refine ⟨?_, rfl⟩
    simp only [G2.out]
    rfl

theorem mulBound {k : Int} {u : Nat} (h0 : -1000 ≤ k) (h1 : k ≤ 1000) (hu : u ≤ 12) : -12000 ≤ k * (u : Int) ∧ k * (u : Int) ≤ 12000 := by
  have : u = 0 ∨ u = 1 ∨ u = 2 ∨ u = 3 ∨ u = 4 ∨ u = 5 ∨ u = 6 ∨ u = 7 ∨ u = 8 ∨ u = 9 ∨ u = 10 ∨ u = 11 ∨ u = 12 := by omega
  rcases this with rfl | rfl | rfl | rfl | rfl | rfl | rfl | rfl | rfl | rfl | rfl | rfl | rfl <;> constructor <;> omega

end Go.Proofs.Ytdehalkebneaoaa
