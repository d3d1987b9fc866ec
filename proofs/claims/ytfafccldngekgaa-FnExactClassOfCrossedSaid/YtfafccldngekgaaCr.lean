/- Crossed maps: what is told of lists of numbers. -/
import Derived.Test.YtfafccldngekgaaFdc
namespace Go.Proofs.Ytfafccldngekgaa
open Go.RowKit

/-- Has a list a number below M for each of N elements? -/
def numB (N : Nat) (M : Int) (fs : List Int) : Bool := belowB M fs && decide (fs.length = N)
/-- The number that a crossed map has at the product of x and y. -/
def crsV (M : Nat) (us fs : List Int) (x y : Nat) : Nat := (im fs x + im us x * im fs y) % M
def CrsAt (t : List (List Int)) (M : Nat) (us fs : List Int) (x y : Nat) : Prop := im fs (mul t x y) = crsV M us fs x y
open Classical in
noncomputable def crsB (t : List (List Int)) (M : Nat) (us fs : List Int) : Bool := decide (∀ i, i < t.length → ∀ j, j < t.length → CrsAt t M us fs i j)
/-- The code of a group, a module and numbers; and that of a crossed map. -/
noncomputable def ncC (t : List (List Int)) (m : Int) (us fs : List Int) : Int := if gmB t m us = true then (if numB t.length m fs = true then 0 else 2) else 1
noncomputable def crC (t : List (List Int)) (m : Int) (us fs : List Int) : Int := if gmB t m us = true then (if numB t.length m fs = true then (if crsB t m.toNat us fs = true then 0 else 5) else 2) else 1

theorem ints_cell {w : World} {B b o : Nat} {xs : List Int} (h : Ints w B (some ⟨b, o, none⟩) xs) {k : Nat} (hk : k < xs.length) : w.cell? ⟨b, o + k, none⟩ = some (.int .i64 (nth xs k)) := by
  obtain ⟨b', o', e, _, hc⟩ := h.at_ hk
  simp only [Option.some.injEq, Addr.mk.injEq, and_true] at e
  obtain ⟨rfl, rfl⟩ := e
  exact hc

section
variable {t : List (List Int)} {m : Int} {M N : Nat} {us fs : List Int}
theorem numB_low (h : belowB m fs = false) : numB N m fs = false := by rw [numB, h, Bool.false_and]
theorem numB_len (h : ¬ fs.length = N) : numB N m fs = false := by rw [numB, decide_eq_false h, Bool.and_false]
theorem numB_yes (h : belowB m fs = true) (h2 : fs.length = N) : numB N m fs = true := by rw [numB, h, decide_eq_true h2]; rfl
theorem numB_eq (h : belowB m fs = true) : numB N m fs = decide (fs.length = N) := by rw [numB, h, Bool.true_and]
theorem numB_low' (h : fs.length = N) : numB N m fs = belowB m fs := by rw [numB, decide_eq_true h, Bool.and_true]
theorem numB_true (h : numB N (M : Int) fs = true) : fs.length = N ∧ InR M fs := by
  rw [numB, Bool.and_eq_true, decide_eq_true_eq] at h
  exact ⟨h.2, belowB_inR h.1⟩
theorem crsB_true (h : ∀ i, i < t.length → ∀ j, j < t.length → CrsAt t M us fs i j) : crsB t M us fs = true := by simp only [crsB, decide_eq_true_eq]; exact h
theorem crsB_false {i j : Nat} (hi : i < t.length) (hj : j < t.length) (h : ¬ CrsAt t M us fs i j) : crsB t M us fs = false := by
  simp only [crsB, decide_eq_false_iff_not]
  exact fun hk => h (hk i hi j hj)
theorem crsB_at (h : crsB t M us fs = true) {i j : Nat} (hi : i < t.length) (hj : j < t.length) : CrsAt t M us fs i j := by
  simp only [crsB, decide_eq_true_eq] at h
  exact h i hi j hj
theorem ncC_mod (h : gmB t m us = false) : ncC t m us fs = 1 := by simp [ncC, h]
theorem ncC_num (h : gmB t m us = true) (h2 : numB t.length m fs = false) : ncC t m us fs = 2 := by simp [ncC, h, h2]
theorem ncC_yes (h : gmB t m us = true) (h2 : numB t.length m fs = true) : ncC t m us fs = 0 := by simp [ncC, h, h2]
theorem crC_mod (h : gmB t m us = false) : crC t m us fs = 1 := by simp [crC, h]
theorem crC_num (h : gmB t m us = true) (h2 : numB t.length m fs = false) : crC t m us fs = 2 := by simp [crC, h, h2]
theorem crC_map (h : gmB t (M : Int) us = true) (h2 : numB t.length (M : Int) fs = true) (h3 : crsB t M us fs = false) : crC t (M : Int) us fs = 5 := by simp [crC, h, h2, h3]
theorem crC_yes (h : gmB t (M : Int) us = true) (h2 : numB t.length (M : Int) fs = true) (h3 : crsB t M us fs = true) : crC t (M : Int) us fs = 0 := by simp [crC, h, h2, h3]
theorem ncC_zero (h : ncC t m us fs = 0) : gmB t m us = true ∧ numB t.length m fs = true := by
  unfold ncC at h
  split at h
  · rename_i hg
    split at h
    · exact ⟨hg, by assumption⟩
    · cases h
  · cases h
theorem crC_nc (h : ¬ ncC t m us fs = 0) : crC t m us fs = ncC t m us fs := by
  unfold crC ncC at *
  split
  · rename_i hg
    rw [if_pos hg] at h
    split
    · rename_i hn
      rw [if_pos hn] at h
      exact absurd rfl h
    · rfl
  · rfl
theorem crsV_lt (hM : 0 < M) {x y : Nat} : crsV M us fs x y < M := Nat.mod_lt _ hM
/-- The sum that is taken modulo M. -/
theorem crs_sum (hu : InR M us) (hf : InR M fs) (h12 : M ≤ 12) {x y : Nat} (hx : x < us.length) (hx' : x < fs.length) (hy : y < fs.length) : im fs x + im us x * im fs y ≤ 144 ∧ im us x * im fs y ≤ 132 := by
  have h1 := (im_eq hu hx).2
  have h2 := (im_eq hf hx').2
  have h3 := (im_eq hf hy).2
  have h4 : im us x * im fs y ≤ 11 * 11 := Nat.mul_le_mul (by omega) (by omega)
  omega
end

end Go.Proofs.Ytfafccldngekgaa
