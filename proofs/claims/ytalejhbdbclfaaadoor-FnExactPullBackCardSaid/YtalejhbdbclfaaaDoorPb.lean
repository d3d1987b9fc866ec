/- PullBack: the value, the program's closures. -/
import Derived.Test.YtalejhbdbclfaaaDoorRt
import Derived.Test.YtalejhbdbclfaaaDoorFdc
import Derived.Test.YtalejhbdbclfaaaDoorMvt
namespace Go.Proofs.YtalejhbdbclfaaaDoor
open Go.RowKit

theorem cells_posB {N d k : Nat} (h : k < cellsN N d) : d = 0 ∨ 2 ≤ N := by
  rcases Nat.eq_zero_or_pos d with h0 | h0
  · exact .inl h0
  · right
    rcases Nat.lt_or_ge N 2 with hN | hN
    · rw [cellsN, show N - 1 = 0 by omega, Nat.zero_pow h0] at h
      omega
    · exact hN
/-- The list with the number k, each element's image. -/
noncomputable def pulL (xs : List Int) (N d k : Nat) : List Int := (List.range d).map fun j => nth xs (dN N d k j)
theorem pulL_len (xs : List Int) (N d k : Nat) : (pulL xs N d k).length = d := by simp [pulL]
theorem pulL_in {xs : List Int} {K N d k : Nat} (hx : InR K xs) (hl : xs.length = N) (hd : d = 0 ∨ 2 ≤ N) : InR K (pulL xs N d k) := fun i hi => by
  rw [pulL_len] at hi
  have e : nth (pulL xs N d k) i = nth xs (dN N d k i) := by simp [nth, pulL, hi]
  rw [e]
  exact hx _ (by rw [hl]; exact (dN_in (by omega)).2)
/-- The value there. -/
noncomputable def pulV (xs fs : List Int) (N K d k : Nat) : Int := valR K fs (pulL xs N d k)

noncomputable def pbR (t u : List (List Int)) (m : Int) (us xs : List Int) (n : Int) (fs : List Int) : Int := if gmcB u m us n fs = true then resR t u xs m us else 1
noncomputable def qPullBack0 (t u : List (List Int)) (m : Int) (us xs : List Int) (n : Int) (fs : List Int) : Int := if pbR t u m us xs n fs = 0 then m else 0
noncomputable def yPullBack0 (t u : List (List Int)) (m : Int) (us xs : List Int) (n : Int) (fs : List Int) : List Int := if pbR t u m us xs n fs = 0 then (List.range xs.length).map fun i => nth us (im xs i) else []
noncomputable def qPullBack1 (t u : List (List Int)) (m : Int) (us xs : List Int) (n : Int) (fs : List Int) : Int := if pbR t u m us xs n fs = 0 then n else 0
noncomputable def yPullBack1 (t u : List (List Int)) (m : Int) (us xs : List Int) (n : Int) (fs : List Int) : List Int := if pbR t u m us xs n fs = 0 then (List.range (cellsN t.length n.toNat)).map fun k => pulV xs fs t.length u.length n.toNat k else []
noncomputable def qPullBack2 (t u : List (List Int)) (m : Int) (us xs : List Int) (n : Int) (fs : List Int) : Int := pbR t u m us xs n fs
section
variable {t u : List (List Int)} {m n : Int} {us xs fs : List Int}
theorem pb_err {c : Int} (h : pbR t u m us xs n fs = c) (hc : c ≠ 0) : qPullBack0 t u m us xs n fs = 0 ∧ yPullBack0 t u m us xs n fs = [] ∧ qPullBack1 t u m us xs n fs = 0 ∧ yPullBack1 t u m us xs n fs = [] ∧ qPullBack2 t u m us xs n fs = c := by
  simp [qPullBack0, yPullBack0, qPullBack1, yPullBack1, qPullBack2, h, hc]
theorem pb_yes {d : Nat} (h : pbR t u m us xs (d : Int) fs = 0) : qPullBack0 t u m us xs (d : Int) fs = m ∧ yPullBack0 t u m us xs (d : Int) fs = (List.range xs.length).map (fun i => nth us (im xs i)) ∧ qPullBack1 t u m us xs (d : Int) fs = (d : Int) ∧ yPullBack1 t u m us xs (d : Int) fs = (List.range (cellsN t.length d)).map (fun k => pulV xs fs t.length u.length d k) ∧ qPullBack2 t u m us xs (d : Int) fs = 0 := by
  simp [qPullBack0, yPullBack0, qPullBack1, yPullBack1, qPullBack2, h]
theorem pbR_no (h : gmcB u m us n fs = false) : pbR t u m us xs n fs = 1 := by simp [pbR, h]
theorem pbR_yes (h : gmcB u m us n fs = true) : pbR t u m us xs n fs = resR t u xs m us := by simp [pbR, h]
theorem resR_facts (h : resR t u xs m us = 0) : IsGrp t ∧ gmB u m us = true ∧ xs.length = t.length ∧ InR u.length xs ∧ homB t u xs = true := by
  unfold resR at h
  split at h
  · rename_i h1
    simp only [Bool.and_eq_true] at h1
    split at h
    · rename_i h2
      simp only [Bool.and_eq_true, decide_eq_true_eq] at h2
      split at h
      · rename_i h3
        exact ⟨grpB_iff.1 h1.1, h1.2, h2.1, inRB_true h2.2, h3⟩
      · cases h
    · cases h
  · cases h
theorem pb_facts (h : pbR t u m us xs n fs = 0) : gmcB u m us n fs = true ∧ resR t u xs m us = 0 := by
  unfold pbR at h
  split at h
  · rename_i h1
    exact ⟨h1, h⟩
  · cases h
theorem pullBack_small0 (t u : List (List Int)) (m : Int) (us xs : List Int) (n : Int) (fs : List Int) : (yPullBack0 t u m us xs n fs).length ≤ 1048576 := by
  unfold yPullBack0
  split
  · rename_i h
    obtain ⟨hg, h2⟩ := pb_facts h
    obtain ⟨hgt, _, hl, _, _⟩ := resR_facts h2
    have := hgt.n8
    simp only [List.length_map, List.length_range]
    omega
  · simp
theorem pullBack_small1 (t u : List (List Int)) (m : Int) (us xs : List Int) (n : Int) (fs : List Int) : (yPullBack1 t u m us xs n fs).length ≤ 1048576 := by
  unfold yPullBack1
  split
  · rename_i h
    obtain ⟨hg, h2⟩ := pb_facts h
    obtain ⟨hgt, _, hl, _, _⟩ := resR_facts h2
    obtain ⟨M, k, rfl, rfl, hMF, hk3, hlen, h343, hfr⟩ := gmc_facts hg
    have := cellsN_le hgt.n8 (show k ≤ 4 by omega)
    simp only [List.length_map, List.length_range, Int.toNat_natCast]
    omega
  · simp
end

end Go.Proofs.YtalejhbdbclfaaaDoor
