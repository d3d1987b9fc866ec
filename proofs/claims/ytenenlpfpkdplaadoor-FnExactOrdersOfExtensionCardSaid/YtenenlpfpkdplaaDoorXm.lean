/- Extensions: the model, and that powers come back in them. -/
import Derived.Test.YtenenlpfpkdplaaDoorOb
import Derived.Test.YtenenlpfpkdplaaDoorBv
import Derived.Test.YtenenlpfpkdplaaDoorPr
import Derived.Test.YtenenlpfpkdplaaDoorMvt
namespace Go.Proofs.YtenenlpfpkdplaaDoor
open Go.RowKit

/-- The value of a factor set at two elements. -/
def fctN (N : Nat) (fs : List Int) (x y : Nat) : Nat := (valR N fs [(x : Int), (y : Int)]).toNat
/-- The product of two elements of an extension. -/
def extN (t : List (List Int)) (M : Nat) (us fs : List Int) (p q : Nat) : Nat := M * mul t (p / M) (q / M) + (p % M + im us (p / M) * (q % M) + fctN t.length fs (p / M) (q / M)) % M
/-- The table of an extension. -/
def extT (t : List (List Int)) (M : Nat) (us fs : List Int) : List (List Int) := mkT (t.length * M) (t.length * M) fun p q => (extN t M us fs p q : Int)
/-- What is wrong with a factor set, where N M may be at most L. -/
noncomputable def extC (L : Nat) (t : List (List Int)) (m : Int) (us : List Int) (n : Int) (fs : List Int) : Int :=
  if gmcB t m us n fs = true then (if n = 2 then (if (t.length : Int) * m ≤ L then (if cyB t m.toNat 2 us fs = true then 0 else 5) else 3) else 2) else 1

structure ExtF (L : Nat) (t : List (List Int)) (M : Nat) (us fs : List Int) : Prop where
  m : ModF t M us
  len : fs.length = cellsN t.length 2
  rng : InR M fs
  most : t.length * M ≤ L
theorem extC_zero {L : Nat} {t : List (List Int)} {m n : Int} {us fs : List Int} (h : extC L t m us n fs = 0) : ∃ M : Nat, m = (M : Int) ∧ n = 2 ∧ ExtF L t M us fs := by
  unfold extC at h
  split at h
  · rename_i h1
    split at h
    · rename_i h2
      split at h
      · rename_i h3
        obtain ⟨M, k, rfl, rfl, hm, hk, hl, _, hr⟩ := gmc_facts h1
        obtain rfl : k = 2 := by omega
        refine ⟨M, rfl, rfl, hm, hl, hr, ?_⟩
        have : ((t.length * M : Nat) : Int) ≤ (L : Int) := by
          rw [Int.natCast_mul]
          exact h3
        omega
      · omega
    · omega
  · omega

theorem valR_zero1 {N : Nat} {fs : List Int} (y : Int) : valR N fs [0, y] = 0 := by simp [valR]
theorem fctN_zero (N : Nat) (fs : List Int) (y : Nat) : fctN N fs 0 y = 0 := by
  unfold fctN
  rw [show ((0 : Nat) : Int) = 0 from rfl, valR_zero1]
  rfl
theorem mod_left {M a b c : Nat} (_ : 0 < M) (h : (a + c) % M = (b + c) % M) (ha : a < M) (hb : b < M) : a = b := by
  have h1 : (a + c) % M = (a + c % M) % M := (Nat.add_mod_mod a c M).symm
  have h2 : (b + c) % M = (b + c % M) % M := (Nat.add_mod_mod b c M).symm
  rw [h1, h2] at h
  have hc : c % M < M := Nat.mod_lt _ (by omega)
  generalize c % M = d at *
  rcases Nat.lt_or_ge (a + d) M with h3 | h3 <;> rcases Nat.lt_or_ge (b + d) M with h4 | h4
  · rw [Nat.mod_eq_of_lt h3, Nat.mod_eq_of_lt h4] at h
    omega
  · rw [Nat.mod_eq_of_lt h3, Nat.mod_eq_sub_mod h4, Nat.mod_eq_of_lt (by omega)] at h
    omega
  · rw [Nat.mod_eq_of_lt h4, Nat.mod_eq_sub_mod h3, Nat.mod_eq_of_lt (by omega)] at h
    omega
  · rw [Nat.mod_eq_sub_mod h3, Nat.mod_eq_sub_mod h4, Nat.mod_eq_of_lt (by omega), Nat.mod_eq_of_lt (by omega)] at h
    omega

theorem extT_len (t : List (List Int)) (M : Nat) (us fs : List Int) : (extT t M us fs).length = t.length * M := mkT_len _ _ _
theorem extT_mul {t : List (List Int)} {M : Nat} {us fs : List Int} {p q : Nat} (hp : p < t.length * M) (hq : q < t.length * M) : mul (extT t M us fs) p q = extN t M us fs p q := by
  unfold mul extT
  rw [mkT_ent hp hq, Int.toNat_natCast]
theorem im_one {us : List Int} (h0 : nth us 0 = 1) : im us 0 = 1 := by simp [im, h0]
theorem ext_pair (t : List (List Int)) (M : Nat) (us fs : List Int) (p q : Nat) (hM : 0 < M) : extN t M us fs p q = M * (pairV t M us p q / M) + (pairV t M us p q % M + fctN t.length fs (p / M) (q / M)) % M := by
  have h1 : (p % M + im us (p / M) * (q % M)) % M < M := Nat.mod_lt _ hM
  unfold pairV
  rw [pair_div hM h1, pair_mod h1, Nat.mod_add_mod]
  rfl

section
variable {L : Nat} {t : List (List Int)} {M : Nat} {us fs : List Int} (h : ExtF L t M us fs)
include h
theorem ExtF.fct {x y : Nat} (hx : x < t.length) (hy : y < t.length) : valR t.length fs [(x : Int), (y : Int)] = (fctN t.length fs x y : Int) ∧ fctN t.length fs x y < M := by
  have hi : InR t.length [(x : Int), (y : Int)] := fun i hi => by
    match i, hi with
    | 0, _ => exact ⟨by show (0 : Int) ≤ (x : Int); omega, by show (x : Int) < _; omega⟩
    | 1, _ => exact ⟨by show (0 : Int) ≤ (y : Int); omega, by show (y : Int) < _; omega⟩
  obtain ⟨h1, h2⟩ := valR_in (N := t.length) (M := M) (d := 2) (fs := fs) (by have := h.m.m2; omega) hi rfl h.len h.rng
  unfold fctN
  omega
theorem ExtF.m0 : 0 < M := by have := h.m.m2; omega
theorem ExtF.x_lt {p : Nat} (hp : p < t.length * M) : p / M < t.length := (Nat.div_lt_iff_lt_mul h.m0).2 hp
theorem ExtF.ext_lt {p q : Nat} (hp : p < t.length * M) (hq : q < t.length * M) : extN t M us fs p q < t.length * M := by
  have h1 := h.m.g.mul_lt (h.x_lt hp) (h.x_lt hq)
  have h2 : (p % M + im us (p / M) * (q % M) + fctN t.length fs (p / M) (q / M)) % M < M := Nat.mod_lt _ h.m0
  have h3 : (mul t (p / M) (q / M) + 1) * M ≤ t.length * M := Nat.mul_le_mul_right M h1
  rw [Nat.succ_mul, Nat.mul_comm] at h3
  unfold extN
  omega
theorem ExtF.orb (h0 : nth us 0 = 1) : IsOrb (extT t M us fs) where
  n1 := by
    rw [extT_len]
    exact Nat.mul_pos h.m.g.n1 h.m0
  sq i hi := by
    rw [extT_len] at hi ⊢
    exact mkT_row_len hi
  rng i hi j hj := by
    rw [extT_len] at hi hj ⊢
    have h1 := h.ext_lt hi hj
    unfold extT
    rw [mkT_ent hi hj]
    omega
  left0 a ha := by
    rw [extT_len] at ha
    have hp : 0 < t.length * M := by omega
    unfold extT
    rw [mkT_ent hp ha]
    have hm := h.m0
    have e : extN t M us fs 0 a = a := by
      unfold extN
      rw [Nat.zero_div, Nat.zero_mod, h.m.g.zero_mul (h.x_lt ha), im_one h0, fctN_zero, Nat.zero_add, Nat.one_mul, Nat.add_zero, Nat.mod_mod, Nat.div_add_mod]
    rw [e]
  inj a ha x hx y hy e := by
    rw [extT_len] at ha hx hy
    rw [extT_mul hx ha, extT_mul hy ha] at e
    have hm := h.m0
    have b1 : (x % M + im us (x / M) * (a % M) + fctN t.length fs (x / M) (a / M)) % M < M := Nat.mod_lt _ hm
    have b2 : (y % M + im us (y / M) * (a % M) + fctN t.length fs (y / M) (a / M)) % M < M := Nat.mod_lt _ hm
    unfold extN at e
    have e1 := congrArg (· / M) e
    have e2 := congrArg (· % M) e
    simp only [Nat.mul_add_div hm, Nat.div_eq_of_lt b1, Nat.div_eq_of_lt b2, Nat.add_zero] at e1
    simp only [Nat.mul_add_mod, Nat.mod_mod] at e2
    have hxy := h.m.g.right_cancel (h.x_lt ha) (h.x_lt hx) (h.x_lt hy) e1
    rw [hxy, Nat.add_assoc, Nat.add_assoc] at e2
    have e3 := mod_left hm e2 (Nat.mod_lt _ hm) (Nat.mod_lt _ hm)
    rw [← Nat.div_add_mod x M, ← Nat.div_add_mod y M, hxy, e3]
end

end Go.Proofs.YtenenlpfpkdplaaDoor
