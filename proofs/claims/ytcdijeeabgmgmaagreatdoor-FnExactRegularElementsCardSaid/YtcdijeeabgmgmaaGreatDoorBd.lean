/- The value of a boundary at a list, part by part. -/
import Derived.Test.YtcdijeeabgmgmaaGreatDoorMvt
namespace Go.Proofs.YtcdijeeabgmgmaaGreatDoor
open Go.RowKit

/-- The list in which the product of the elements i and i + 1 stands for both. -/
noncomputable def mgd (t : List (List Int)) (L : List Int) (i : Nat) : List Int := L.take i ++ (mul t (nth L i).toNat (nth L (i + 1)).toNat : Int) :: L.drop (i + 2)
theorem mgd_len {t : List (List Int)} {L : List Int} {i : Nat} (h : i + 1 < L.length) : (mgd t L i).length = L.length - 1 := by
  simp only [mgd, List.length_append, List.length_take, List.length_cons, List.length_drop]
  omega
theorem nth_append (xs ys : List Int) (j : Nat) : nth (xs ++ ys) j = if j < xs.length then nth xs j else nth ys (j - xs.length) := by
  unfold nth
  rw [List.getElem?_append]
  split <;> rfl
theorem nth_cons (x : Int) (xs : List Int) (j : Nat) : nth (x :: xs) j = if j = 0 then x else nth xs (j - 1) := by
  cases j with
  | zero => rfl
  | succ j => simp [nth]
theorem mgd_in {t : List (List Int)} (hg : IsGrp t) {L : List Int} (hL : InR t.length L) {i : Nat} (h : i + 1 < L.length) : InR t.length (mgd t L i) := fun j hj => by
  rw [mgd_len h] at hj
  have h1 := hL i (by omega)
  have h2 := hL (i + 1) h
  have h3 := hg.mul_lt (x := (nth L i).toNat) (y := (nth L (i + 1)).toNat) (by omega) (by omega)
  have htl : (L.take i).length = i := by rw [List.length_take]; omega
  rw [mgd, nth_append, htl]
  by_cases hji : j < i
  · rw [if_pos hji, nth_take hji]
    exact hL j (by omega)
  · rw [if_neg hji, nth_cons]
    by_cases h0 : j - i = 0
    · rw [if_pos h0]
      omega
    · rw [if_neg h0, nth_drop]
      exact hL _ (by omega)
/-- 1 and -1 by turns. -/
def sgn : Nat → Int
  | 0 => 1
  | n + 1 => -sgn n
theorem sgn_or : ∀ n, sgn n = 1 ∨ sgn n = -1
  | 0 => .inl rfl
  | n + 1 => by rcases sgn_or n with h | h <;> simp [sgn, h]
theorem sgn_mul (n : Nat) {v : Int} (h0 : 0 ≤ v) (h1 : v ≤ 11) : -11 ≤ sgn n * v ∧ sgn n * v ≤ 11 := by
  rcases sgn_or n with h | h <;> rw [h] <;> omega
/-- The sum of the first parts. -/
noncomputable def bdS (t : List (List Int)) (us fs L : List Int) : Nat → Int
  | 0 => nth us (nth L 0).toNat * valR t.length fs (L.drop 1)
  | i + 1 => bdS t us fs L i + sgn (i + 1) * valR t.length fs (mgd t L i)
noncomputable def bdV (t : List (List Int)) (M : Nat) (us fs L : List Int) : Int := (bdS t us fs L (L.length - 1) + sgn L.length * valR t.length fs (L.take (L.length - 1))) % (M : Int)

section
variable {t : List (List Int)} {M n : Nat} {us fs L : List Int}
theorem bd_first (hm : ModF t M us) (hL : InR t.length L) (hl : L.length = n + 1) (hf : fs.length = cellsN t.length n) (hr : InR M fs) : 0 ≤ valR t.length fs (L.drop 1) ∧ valR t.length fs (L.drop 1) < (M : Int) :=
  valR_in (by have := hm.m2; omega) (hL.drop 1) (by rw [List.length_drop]; omega) hf hr
theorem bd_last (hm : ModF t M us) (hL : InR t.length L) (hl : L.length = n + 1) (hf : fs.length = cellsN t.length n) (hr : InR M fs) : 0 ≤ valR t.length fs (L.take n) ∧ valR t.length fs (L.take n) < (M : Int) :=
  valR_in (by have := hm.m2; omega) (hL.take n) (by rw [List.length_take]; omega) hf hr
theorem bd_mid (hm : ModF t M us) (hL : InR t.length L) (hl : L.length = n + 1) (hf : fs.length = cellsN t.length n) (hr : InR M fs) {i : Nat} (hi : i < n) : 0 ≤ valR t.length fs (mgd t L i) ∧ valR t.length fs (mgd t L i) < (M : Int) :=
  valR_in (by have := hm.m2; omega) (mgd_in hm.g hL (by omega)) (by rw [mgd_len (by omega)]; omega) hf hr
theorem bdS_bound (hm : ModF t M us) (hL : InR t.length L) (hl : L.length = n + 1) (hf : fs.length = cellsN t.length n) (hr : InR M fs) : ∀ i, i ≤ n → -(144 + 12 * (i : Int)) ≤ bdS t us fs L i ∧ bdS t us fs L i ≤ 144 + 12 * (i : Int)
  | 0, _ => by
    have h1 := bd_first hm hL hl hf hr
    have h2 := hL 0 (by omega)
    have h3 := hm.rng (nth L 0).toNat (by rw [hm.len]; omega)
    have hM := hm.m12
    have h4 : 0 ≤ nth us (nth L 0).toNat * valR t.length fs (L.drop 1) := Int.mul_nonneg h3.1 h1.1
    have h5 : nth us (nth L 0).toNat * valR t.length fs (L.drop 1) ≤ 12 * valR t.length fs (L.drop 1) := Int.mul_le_mul_of_nonneg_right (by omega) h1.1
    unfold bdS
    omega
  | i + 1, hi => by
    have h1 := bdS_bound hm hL hl hf hr i (by omega)
    have h2 := bd_mid hm hL hl hf hr (i := i) (by omega)
    have hM := hm.m12
    have h3 := sgn_mul (i + 1) h2.1 (by omega)
    rw [bdS]
    omega
theorem bdV_in (hM : 0 < M) : 0 ≤ bdV t M us fs L ∧ bdV t M us fs L < (M : Int) := ⟨Int.emod_nonneg _ (by omega), Int.emod_lt_of_pos _ (by omega)⟩
end

end Go.Proofs.YtcdijeeabgmgmaaGreatDoor
