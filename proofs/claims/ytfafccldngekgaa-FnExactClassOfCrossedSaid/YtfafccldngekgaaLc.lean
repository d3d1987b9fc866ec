/- slices.Compare and slices.Equal at lists of int64. -/
import Derived.IntWalk
import Derived.Test.YtfafccldngekgaaBe
namespace Go.Proofs.Ytfafccldngekgaa
open Go.RowKit

/-- Which of two lists stands first. -/
def lexC : List Int → List Int → Int
  | a :: xs, b :: ys => if a = b then lexC xs ys else if a < b then -1 else 1
  | [], _ :: _ => -1
  | _ :: _, [] => 1
  | [], [] => 0
theorem lexC_drop : ∀ (j : Nat) (xs ys : List Int), j ≤ xs.length → j ≤ ys.length → (∀ l, l < j → nth xs l = nth ys l) → lexC xs ys = lexC (xs.drop j) (ys.drop j)
  | 0, _, _, _, _, _ => rfl
  | j + 1, [], _, h, _, _ => absurd h (by simp)
  | j + 1, _ :: _, [], _, h, _ => absurd h (by simp)
  | j + 1, a :: xs, b :: ys, h1, h2, hs => by
    have h0 : a = b := by simpa [nth] using hs 0 (by omega)
    have e : ∀ (z : Int) (zs : List Int) (l : Nat), nth (z :: zs) (l + 1) = nth zs l := fun z zs l => by simp [nth]
    rw [lexC, if_pos h0]
    exact lexC_drop j xs ys (by simpa using h1) (by simpa using h2) (fun l hl => by rw [← e a, ← e b]; exact hs (l + 1) (by omega))
theorem nth_drop_cons {xs : List Int} {j : Nat} (h : j < xs.length) : xs.drop j = nth xs j :: xs.drop (j + 1) := by
  rw [List.drop_eq_getElem_cons h]
  simp [nth, h]
theorem lexC_at {xs ys : List Int} {j : Nat} (h1 : j < xs.length) (h2 : j < ys.length) (hs : ∀ l, l < j → nth xs l = nth ys l) (hn : nth xs j ≠ nth ys j) : lexC xs ys = if nth xs j < nth ys j then -1 else 1 := by
  rw [lexC_drop j xs ys (by omega) (by omega) hs, nth_drop_cons h1, nth_drop_cons h2, lexC, if_neg hn]
theorem lexC_right {xs ys : List Int} (h : ys.length < xs.length) (hs : ∀ l, l < ys.length → nth xs l = nth ys l) : lexC xs ys = 1 := by
  rw [lexC_drop ys.length xs ys (by omega) (Nat.le_refl _) hs, nth_drop_cons h, List.drop_length]
  rfl
theorem lexC_left {xs ys : List Int} (h : xs.length ≤ ys.length) (hs : ∀ l, l < xs.length → nth xs l = nth ys l) : lexC xs ys = if xs.length < ys.length then -1 else 0 := by
  rw [lexC_drop xs.length xs ys (Nat.le_refl _) h hs, List.drop_length]
  by_cases h2 : xs.length < ys.length
  · rw [nth_drop_cons h2, if_pos h2]
    rfl
  · rw [if_neg h2, List.drop_eq_nil_of_le (by omega)]
    rfl
theorem lexC_zero : ∀ {xs ys : List Int}, lexC xs ys = 0 → xs = ys
  | [], [], _ => rfl
  | [], _ :: _, h => by simp [lexC] at h
  | _ :: _, [], h => by simp [lexC] at h
  | a :: xs, b :: ys, h => by
    by_cases h0 : a = b
    · rw [lexC, if_pos h0] at h
      rw [h0, lexC_zero h]
    · rw [lexC, if_neg h0] at h
      split at h <;> cases h
theorem lexC_same : ∀ (xs : List Int), lexC xs xs = 0
  | [] => rfl
  | a :: xs => by rw [lexC, if_pos rfl]; exact lexC_same xs
theorem lexC_swap : ∀ (xs ys : List Int), lexC ys xs = - lexC xs ys
  | [], [] => rfl
  | [], _ :: _ => rfl
  | _ :: _, [] => rfl
  | a :: xs, b :: ys => by
    by_cases h0 : a = b
    · rw [lexC, lexC, if_pos h0, if_pos h0.symm]
      exact lexC_swap xs ys
    · rw [lexC, lexC, if_neg h0, if_neg (Ne.symm h0)]
      by_cases h1 : a < b
      · rw [if_pos h1, if_neg (by omega)]
        rfl
      · rw [if_neg h1, if_pos (by omega)]
theorem lexC_lexB : ∀ (xs ys : List Int), xs.length = ys.length → (decide (lexC xs ys < 0) = lexB xs ys)
  | [], [], _ => rfl
  | [], _ :: _, h => absurd h (by simp)
  | _ :: _, [], h => absurd h (by simp)
  | a :: xs, b :: ys, h => by
    rw [lexC, lexB]
    by_cases h0 : a = b
    · rw [if_pos h0, if_pos h0]
      exact lexC_lexB xs ys (by simpa using h)
    · rw [if_neg h0, if_neg h0]
      by_cases h1 : a < b
      · simp [h1]
      · simp [h1]
theorem lexC_trans : ∀ (xs ys zs : List Int), lexC xs ys < 0 → lexC ys zs < 0 → lexC xs zs < 0
  | [], [], _, h, _ => absurd h (by simp [lexC])
  | [], _ :: _, [], _, h => absurd h (by simp [lexC])
  | [], _ :: _, _ :: _, _, _ => by simp [lexC]
  | _ :: _, [], _, h, _ => absurd h (by simp [lexC])
  | _ :: _, _ :: _, [], _, h => absurd h (by simp [lexC])
  | a :: xs, b :: ys, c :: zs, h1, h2 => by
    rw [lexC] at h1 h2 ⊢
    by_cases hab : a = b
    · subst hab
      rw [if_pos rfl] at h1
      by_cases hac : a = c
      · rw [if_pos hac] at h2 ⊢
        exact lexC_trans xs ys zs h1 h2
      · rw [if_neg hac] at h2 ⊢
        exact h2
    · rw [if_neg hab] at h1
      by_cases h3 : a < b
      · by_cases hbc : b = c
        · subst hbc
          rw [if_neg hab, if_pos h3]
          omega
        · rw [if_neg hbc] at h2
          by_cases h4 : b < c
          · rw [if_neg (by omega), if_pos (by omega)]
            omega
          · rw [if_neg h4] at h2
            omega
      · rw [if_neg h3] at h1
        omega

set_option maxHeartbeats 1000000 in
theorem isNaN_w (x : Int) (w : World) : Calls Try.prog 125 #[.int .i64 x] w fun e w' => e = .returned (.bool false) ∧ w = w' := by
  have hx : (x != x) = false := by simp
  go_enter Try.func125, Try.ntmps125
  go_wp2
  go_ret
  exact ⟨rfl, rfl⟩

def cmpI (x y : Int) : Int := if x < y then -1 else if y < x then 1 else 0
set_option maxHeartbeats 1000000 in
theorem cmpCompare_w (x y : Int) (w : World) : Calls Try.prog 115 #[.int .i64 x, .int .i64 y] w fun e w' => e = .returned (.int .i64 (cmpI x y)) ∧ w = w' := by
  by_cases h1 : x < y
  · have g1 : decide (x < y) = true := by simpa using h1
    have hq : cmpI x y = -1 := by simp [cmpI, h1]
    go_enter Try.func115, Try.ntmps115
    go_wp2_with (go_at_call 125; refine (isNaN_w _ _).mono ?_; rintro e w' ⟨rfl, rfl⟩)
    go_ret
    exact ⟨by rw [hq]; rfl, rfl⟩
  · have g1 : decide (x < y) = false := by simpa using h1
    by_cases h2 : y < x
    · have g2 : decide (x > y) = true := by simpa using h2
      have g3 : decide (y < x) = true := by simpa using h2
      have hq : cmpI x y = 1 := by simp [cmpI, h1, h2]
      go_enter Try.func115, Try.ntmps115
      go_wp2_with (go_at_call 125; refine (isNaN_w _ _).mono ?_; rintro e w' ⟨rfl, rfl⟩)
      go_ret
      exact ⟨by rw [hq]; rfl, rfl⟩
    · have g2 : decide (x > y) = false := by simpa using h2
      have g3 : decide (y < x) = false := by simpa using h2
      have hq : cmpI x y = 0 := by simp [cmpI, h1, h2]
      go_enter Try.func115, Try.ntmps115
      go_wp2_with (go_at_call 125; refine (isNaN_w _ _).mono ?_; rintro e w' ⟨rfl, rfl⟩)
      go_ret
      exact ⟨by rw [hq]; rfl, rfl⟩

end Go.Proofs.Ytfafccldngekgaa
