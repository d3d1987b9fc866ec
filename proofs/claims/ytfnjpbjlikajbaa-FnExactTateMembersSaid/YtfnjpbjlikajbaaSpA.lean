/- The specification's test for groups. -/
import Derived.Test.YtfnjpbjlikajbaaBa
namespace Go.Proofs.Ytfnjpbjlikajbaa
open Go.RowKit

set_option maxHeartbeats 400000 in
theorem l01In_yes (n lo hi : Int) (w : World) (h0 : lo ≤ n) (h1 : n ≤ hi) :
    Calls Try.prog 30 #[.int .i64 n, .int .i64 lo, .int .i64 hi] w fun e w' => e = .returned (.bool true) ∧ w = w' := by
  go_enter Try.func30, Try.ntmps30
  go_wp2
  go_ret
  exact ⟨rfl, rfl⟩

set_option maxHeartbeats 400000 in
theorem l01In_no (n lo hi : Int) (w : World) (h : n < lo ∨ hi < n) :
    Calls Try.prog 30 #[.int .i64 n, .int .i64 lo, .int .i64 hi] w fun e w' => e = .returned (.bool false) ∧ w = w' := by
  by_cases h0 : lo ≤ n
  · have h1 : hi < n := by omega
    clear h
    go_enter Try.func30, Try.ntmps30
    go_wp2
    go_ret
    exact ⟨by simp; omega, rfl⟩
  · clear h
    go_enter Try.func30, Try.ntmps30
    go_wp2
    go_ret
    exact ⟨rfl, rfl⟩

/-- What the second loop asks of an element. -/
structure AskedA (t : List (List Int)) (a : Nat) : Prop where
  left : nth (row t 0) a = a
  right : nth (row t a) 0 = a
  inv : ∃ b, b < t.length ∧ nth (row t a) b = 0 ∧ nth (row t b) a = 0
  assoc : ∀ b, b < t.length → ∀ c, c < t.length → nth (row t (nth (row t a) b).toNat) c = nth (row t a) (nth (row t b) c).toNat

open Classical in
/-- Is an inverse among the first j elements? -/
noncomputable def fnd (t : List (List Int)) (k j : Nat) : Bool := decide (∃ b, b < j ∧ nth (row t k) b = 0 ∧ nth (row t b) k = 0)

theorem fnd_keep {t : List (List Int)} {k j : Nat} (h : fnd t k j = true) : fnd t k (j + 1) = true := by
  simp only [fnd, decide_eq_true_eq] at h ⊢
  obtain ⟨b, h1, h2⟩ := h
  exact ⟨b, by omega, h2⟩
theorem fnd_hit {t : List (List Int)} {k j : Nat} (h1 : nth (row t k) j = 0) (h2 : nth (row t j) k = 0) : fnd t k (j + 1) = true := by
  simp only [fnd, decide_eq_true_eq]
  exact ⟨j, by omega, h1, h2⟩
theorem fnd_miss {t : List (List Int)} {k j : Nat} (h : fnd t k j = false) (hn : ¬ (nth (row t k) j = 0 ∧ nth (row t j) k = 0)) : fnd t k (j + 1) = false := by
  simp only [fnd, decide_eq_false_iff_not] at h ⊢
  rintro ⟨b, h1, h2⟩
  rcases Nat.lt_or_ge b j with h3 | h3
  · exact h ⟨b, h3, h2⟩
  · obtain rfl : b = j := by omega
    exact hn h2

theorem isGrp_of_asked {t : List (List Int)} (h1 : (1 : Int) ≤ t.length) (h8 : (t.length : Int) ≤ 8) (hs : ∀ a, a < t.length → (row t a).length = t.length ∧ ∀ b, b < t.length → 0 ≤ ent t a b ∧ ent t a b < t.length)
    (ha : ∀ a, a < t.length → AskedA t a) : IsGrp t :=
  ⟨by omega, by omega, fun a h => (hs a h).1, fun a h => (hs a h).2, fun a h => ⟨(ha a h).left, (ha a h).right⟩, fun a h => (ha a h).assoc, fun a h => (ha a h).inv⟩

end Go.Proofs.Ytfnjpbjlikajbaa
