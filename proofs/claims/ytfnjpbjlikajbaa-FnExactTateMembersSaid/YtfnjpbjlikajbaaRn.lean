/- Renumberings: no program here. -/
import Derived.Test.YtfnjpbjlikajbaaNr
import Derived.Test.YtfnjpbjlikajbaaTb
namespace Go.Proofs.Ytfnjpbjlikajbaa
open Go.RowKit

/-- A function that tells the numbers below N apart reaches them all. -/
theorem surj_of_inj : ∀ (N : Nat) (f : Nat → Nat), (∀ i, i < N → f i < N) → (∀ i j, i < N → j < N → f i = f j → i = j) → ∀ y, y < N → ∃ i, i < N ∧ f i = y
  | 0, _, _, _, y, hy => absurd hy (Nat.not_lt_zero y)
  | N + 1, f, hr, hi, y, hy => by
    have hg1 : ∀ i, i < N → (if f i = N then f N else f i) < N := fun i h => by
      by_cases e : f i = N
      · rw [if_pos e]
        have h1 := hr N (Nat.lt_succ_self N)
        have h2 : f N ≠ N := fun e' => by have := hi i N (by omega) (by omega) (e.trans e'.symm); omega
        omega
      · rw [if_neg e]
        have := hr i (by omega)
        omega
    have hg2 : ∀ i j, i < N → j < N → (if f i = N then f N else f i) = (if f j = N then f N else f j) → i = j := fun i j h h' e => by
      by_cases e1 : f i = N
      · by_cases e2 : f j = N
        · exact hi i j (by omega) (by omega) (e1.trans e2.symm)
        · rw [if_pos e1, if_neg e2] at e
          have := hi N j (by omega) (by omega) e
          omega
      · by_cases e2 : f j = N
        · rw [if_neg e1, if_pos e2] at e
          have := hi i N (by omega) (by omega) e
          omega
        · rw [if_neg e1, if_neg e2] at e
          exact hi i j (by omega) (by omega) e
    have ih := surj_of_inj N (fun i => if f i = N then f N else f i) hg1 hg2
    by_cases hm : f N = y
    · exact ⟨N, by omega, hm⟩
    · by_cases hyN : y = N
      · have h1 := hr N (Nat.lt_succ_self N)
        obtain ⟨i, h, e⟩ := ih (f N) (by omega)
        by_cases e1 : f i = N
        · exact ⟨i, by omega, e1.trans hyN.symm⟩
        · rw [if_neg e1] at e
          have := hi i N (by omega) (by omega) e
          omega
      · obtain ⟨i, h, e⟩ := ih y (by omega)
        by_cases e1 : f i = N
        · rw [if_pos e1] at e
          exact absurd e hm
        · rw [if_neg e1] at e
          exact ⟨i, by omega, e⟩
theorem inj_of_surj {N : Nat} {f : Nat → Nat} (hs : ∀ y, y < N → ∃ i, i < N ∧ f i = y) : ∀ i j, i < N → j < N → f i = f j → i = j := by
  have hc : ∀ y, ∃ i, y < N → i < N ∧ f i = y := fun y => by
    by_cases h : y < N
    · obtain ⟨i, h1, h2⟩ := hs y h
      exact ⟨i, fun _ => ⟨h1, h2⟩⟩
    · exact ⟨0, fun h' => absurd h' h⟩
  obtain ⟨h, hh⟩ := Classical.axiomOfChoice hc
  have hs2 := surj_of_inj N h (fun y hy => (hh y hy).1) fun y y' hy hy' e => by rw [← (hh y hy).2, ← (hh y' hy').2, e]
  intro i j hi hj e
  obtain ⟨y, hy, rfl⟩ := hs2 i hi
  obtain ⟨y', hy', rfl⟩ := hs2 j hj
  rw [(hh y hy).2, (hh y' hy').2] at e
  rw [e]

/-- The list renumbers N elements. -/
structure RenP (N : Nat) (xs : List Int) : Prop where
  len : xs.length = N
  rng : ∀ i, i < N → 0 ≤ nth xs i ∧ nth xs i < N
  inj : ∀ i j, i < N → j < N → nth xs i = nth xs j → i = j
  zero : nth xs 0 = 0
open Classical in
noncomputable def renB (N : Nat) (xs : List Int) : Bool := decide (RenP N xs)
theorem renB_true {N : Nat} {xs : List Int} (h : RenP N xs) : renB N xs = true := by simp [renB, h]
theorem renB_false {N : Nat} {xs : List Int} (h : ¬ RenP N xs) : renB N xs = false := by simp [renB, h]
theorem renB_iff {N : Nat} {xs : List Int} : renB N xs = true ↔ RenP N xs := by simp [renB]

/-- Where every element comes from. -/
theorem RenP.surj {N : Nat} {xs : List Int} (h : RenP N xs) {y : Nat} (hy : y < N) : ∃ i, i < N ∧ nth xs i = y := by
  obtain ⟨i, h1, h2⟩ := surj_of_inj N (fun i => (nth xs i).toNat) (fun i hi => by have := h.rng i hi; omega) (fun i j hi hj e => h.inj i j hi hj (by have h3 := h.rng i hi; have h4 := h.rng j hj; omega)) y hy
  refine ⟨i, h1, ?_⟩
  have := h.rng i h1
  omega
noncomputable def pn (N : Nat) (xs : List Int) (y : Nat) : Nat := if h : ∃ i, i < N ∧ nth xs i = y then Classical.choose h else 0
section
variable {N : Nat} {xs : List Int} {i y : Nat}
theorem pn_spec (h : RenP N xs) (hy : y < N) : pn N xs y < N ∧ nth xs (pn N xs y) = y := by
  have := h.surj hy
  unfold pn
  rw [dif_pos this]
  exact Classical.choose_spec this
theorem pn_im (h : RenP N xs) (hi : i < N) : pn N xs (nth xs i).toNat = i := by
  have h1 := h.rng i hi
  have h2 := pn_spec h (y := (nth xs i).toNat) (by omega)
  exact h.inj _ _ h2.1 hi (by omega)
end
/-- The renumbered table. -/
noncomputable def renV (t : List (List Int)) (xs : List Int) (a b : Nat) : Int := nth xs (mul t (pn t.length xs a) (pn t.length xs b))
noncomputable def renT (t : List (List Int)) (xs : List Int) : List (List Int) := mkT t.length t.length fun a b => renV t xs a b

/-- The set of a list of N numbers below N has N elements: the list renumbers. -/
theorem size_ren {N : Nat} {xs : List Int} (hN : N ≤ 8) (hl : xs.length = N) (hr : ∀ i, i < N → 0 ≤ nth xs i ∧ nth xs i < N) : (elN (bitsK xs xs.length)).length = N ↔ ∀ i j, i < N → j < N → nth xs i = nth xs j → i = j := by
  have hsel : elN (bitsK xs xs.length) = selN (fun a => decide (∃ i, i < N ∧ (nth xs i).toNat = a)) N := elN_sel hN fun a ha => by
    rw [bitsK_bit, hl]
    by_cases h : ∃ i, i < N ∧ (nth xs i).toNat = a
    · have : a < N := by
        obtain ⟨i, hi, rfl⟩ := h
        have := hr i hi
        omega
      simp [h, this]
    · simp [h]
  rw [hsel]
  have hfl : (selN (fun a => decide (∃ i, i < N ∧ (nth xs i).toNat = a)) N).length = N ↔ ∀ a, a < N → ∃ i, i < N ∧ (nth xs i).toNat = a := by
    unfold selN
    have h1 := List.length_filter_eq_length_iff (l := List.range N) (p := fun a => decide (∃ i, i < N ∧ (nth xs i).toNat = a))
    rw [List.length_range] at h1
    rw [h1]
    simp
  rw [hfl]
  constructor
  · intro h i j hi hj e
    exact inj_of_surj h i j hi hj (by rw [e])
  · intro h
    exact surj_of_inj N (fun i => (nth xs i).toNat) (fun i hi => by have := hr i hi; omega) fun i j hi hj e => h i j hi hj (by have h3 := hr i hi; have h4 := hr j hj; omega)

end Go.Proofs.Ytfnjpbjlikajbaa
