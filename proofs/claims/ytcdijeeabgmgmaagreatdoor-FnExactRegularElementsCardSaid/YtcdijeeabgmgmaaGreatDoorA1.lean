/- Chapter 10: factor sets of trivial modules and their forms, without a program. -/
import Derived.Test.YtcdijeeabgmgmaaGreatDoorBv
import Derived.Test.YtcdijeeabgmgmaaGreatDoorFif
namespace Go.Proofs.YtcdijeeabgmgmaaGreatDoor
open Go.RowKit

/-- The units of a trivial module. -/
def ones (N : Nat) : List Int := List.replicate N 1
theorem ones_len (N : Nat) : (ones N).length = N := List.length_replicate
theorem ones_nth {N i : Nat} (h : i < N) : nth (ones N) i = 1 := by simp [nth, ones, h]
theorem ones_mod {t : List (List Int)} {M : Nat} (hg : IsGrp t) (h2 : 2 ≤ M) (h12 : M ≤ 12) : gmB t (M : Int) (ones t.length) = true := by
  have hu : unitsB (M : Int) (ones t.length) = true := unitsB_iff.2 fun i hi => by
    rw [ones_len] at hi
    rw [ones_nth hi]
    exact unitB_iff.2 ⟨by omega, by omega, by simp⟩
  have hk : keepPB t (umul (M : Int).toNat) (ones t.length) = true := keepPB_true fun i hi j hj => by
    have h1 : ∀ k, k < t.length → im (ones t.length) k = 1 := fun k hk => by rw [im, ones_nth hk]; rfl
    show im _ (mul t i j) = umul _ _ _
    rw [h1 i hi, h1 j hj, h1 _ (hg.mul_lt hi hj), umul, Int.toNat_natCast, Nat.mod_eq_of_lt (by omega)]
  rw [gmB, grpB_true hg, Bool.true_and, modB_keep (by simp; omega) (ones_len _) hu, hk]

/-- The value of a cochain of the degree 2 at two elements. -/
def vF (N : Nat) (fs : List Int) (x y : Nat) : Int := valR N fs [(x : Int), (y : Int)]
/-- The rest of the difference. -/
def dF (N M : Nat) (fs : List Int) (x y : Nat) : Int := (vF N fs x y - vF N fs y x) % (M : Int)
/-- The form. -/
def fF (t : List (List Int)) (M : Nat) (fs : List Int) (x y : Nat) : Int := if mul t x y = mul t y x then dF t.length M fs x y else -1
/-- The form of symmetric factor sets. -/
def zF (t : List (List Int)) (x y : Nat) : Int := if mul t x y = mul t y x then 0 else -1

/-- What a factor set of a trivial module gives. -/
structure FacF (t : List (List Int)) (M : Nat) (fs : List Int) : Prop where
  m : ModF t M (ones t.length)
  len : fs.length = cellsN t.length 2
  l343 : fs.length ≤ 343
  rng : InR M fs
  cy : cyB t M 2 (ones t.length) fs = true

/-- The tests, in their order, and their codes. -/
noncomputable def tsF (t : List (List Int)) (m n : Int) (fs : List Int) : Nat → Bool
  | 0 => grpB t
  | 1 => inB m 2 12
  | 2 => cocB t.length m n fs
  | 3 => decide (n = 2)
  | _ => cyB t m.toNat n.toNat (ones t.length) fs
def cdF : Nat → Int
  | 0 => 1
  | 1 => 2
  | 2 => 1
  | 3 => 2
  | _ => 5
/-- The code of a factor set. -/
noncomputable def c10 (t : List (List Int)) (m n : Int) (fs : List Int) : Int :=
  if grpB t = false then 1 else if inB m 2 12 = false then 2 else if cocB t.length m n fs = false then 1 else if n ≠ 2 then 2 else if cyB t m.toNat n.toNat (ones t.length) fs = false then 5 else 0
section
variable {t : List (List Int)} {m n : Int} {fs : List Int}
theorem c10_at {j : Nat} (hj : j < 5) (hb : ∀ i, i < j → tsF t m n fs i = true) (h : tsF t m n fs j = false) : c10 t m n fs = cdF j := by
  unfold c10
  rcases (by omega : j = 0 ∨ j = 1 ∨ j = 2 ∨ j = 3 ∨ j = 4) with rfl | rfl | rfl | rfl | rfl
  · have h' : grpB t = false := h
    rw [if_pos h']; rfl
  · have h0 : grpB t = true := hb 0 (by omega)
    have h' : inB m 2 12 = false := h
    rw [if_neg (by simp [h0]), if_pos h']; rfl
  · have h0 : grpB t = true := hb 0 (by omega)
    have h1 : inB m 2 12 = true := hb 1 (by omega)
    have h' : cocB t.length m n fs = false := h
    rw [if_neg (by simp [h0]), if_neg (by simp [h1]), if_pos h']; rfl
  · have h0 : grpB t = true := hb 0 (by omega)
    have h1 : inB m 2 12 = true := hb 1 (by omega)
    have h2 : cocB t.length m n fs = true := hb 2 (by omega)
    have h' : ¬ n = 2 := of_decide_eq_false h
    rw [if_neg (by simp [h0]), if_neg (by simp [h1]), if_neg (by simp [h2]), if_pos h']; rfl
  · have h0 : grpB t = true := hb 0 (by omega)
    have h1 : inB m 2 12 = true := hb 1 (by omega)
    have h2 : cocB t.length m n fs = true := hb 2 (by omega)
    have h3 : n = 2 := of_decide_eq_true (hb 3 (by omega))
    have h' : cyB t m.toNat n.toNat (ones t.length) fs = false := h
    rw [if_neg (by simp [h0]), if_neg (by simp [h1]), if_neg (by simp [h2]), if_neg (by simp [h3]), if_pos h']; rfl
theorem c10_none (h : ∀ i, i < 5 → tsF t m n fs i = true) : c10 t m n fs = 0 := by
  have h0 : grpB t = true := h 0 (by omega)
  have h1 : inB m 2 12 = true := h 1 (by omega)
  have h2 : cocB t.length m n fs = true := h 2 (by omega)
  have h3 : n = 2 := of_decide_eq_true (h 3 (by omega))
  have h4 : cyB t m.toNat n.toNat (ones t.length) fs = true := h 4 (by omega)
  unfold c10
  rw [if_neg (by simp [h0]), if_neg (by simp [h1]), if_neg (by simp [h2]), if_neg (by simp [h3]), if_neg (by simp [h4])]
theorem cdF_pos (j : Nat) : 0 < cdF j := by
  match j with
  | 0 => show (0 : Int) < 1; decide
  | 1 => show (0 : Int) < 2; decide
  | 2 => show (0 : Int) < 1; decide
  | 3 => show (0 : Int) < 2; decide
  | _ + 4 => show (0 : Int) < 5; decide
theorem c10_all (h : c10 t m n fs = 0) : ∀ i, i < 5 → tsF t m n fs i = true := by
  intro i hi
  induction i using Nat.strongRecOn with
  | ind i ih =>
    cases hb : tsF t m n fs i with
    | true => rfl
    | false =>
      have h1 := c10_at hi (fun k hk => ih k hk (by omega)) hb
      have h2 := cdF_pos i
      omega
/-- .. and what the first ones give. -/
theorem ts_mod (h0 : tsF t m n fs 0 = true) (h1 : tsF t m n fs 1 = true) : ∃ M : Nat, m = (M : Int) ∧ IsGrp t ∧ 2 ≤ M ∧ M ≤ 12 ∧ gmB t (M : Int) (ones t.length) = true ∧ ModF t M (ones t.length) := by
  have hg := grpB_iff.1 (show grpB t = true from h0)
  have hm := inB_true (show inB m 2 12 = true from h1)
  obtain ⟨M, rfl⟩ : ∃ M : Nat, m = (M : Int) := ⟨m.toNat, by omega⟩
  have hgm := ones_mod hg (show 2 ≤ M by omega) (by omega)
  obtain ⟨M', hM', hF⟩ := gmB_f hgm
  have : M = M' := by omega
  subst this
  exact ⟨M, rfl, hg, by omega, by omega, hgm, hF⟩
theorem c10_yes (h : c10 t m n fs = 0) : ∃ M : Nat, m = (M : Int) ∧ n = 2 ∧ FacF t M fs := by
  have h' := c10_all h
  obtain ⟨M, rfl, hg, h2, h12, hgm, hF⟩ := ts_mod (h' 0 (by omega)) (h' 1 (by omega))
  have hc : cocB t.length (M : Int) n fs = true := h' 2 (by omega)
  have hn : n = 2 := of_decide_eq_true (h' 3 (by omega))
  have hcy : cyB t (M : Int).toNat n.toNat (ones t.length) fs = true := h' 4 (by omega)
  subst hn
  obtain ⟨M', k, hM', hk, hF', hk3, hl, h343, hr⟩ := gmc_facts (t := t) (m := (M : Int)) (us := ones t.length) (n := 2) (fs := fs) (by rw [gmcB, hgm, hc]; rfl)
  have e1 : M = M' := by omega
  have e2 : k = 2 := by omega
  subst e1 e2
  exact ⟨M, rfl, rfl, hF, hl, h343, hr, hcy⟩
end

section
variable {t : List (List Int)} {M : Nat} {fs : List Int}
theorem inR_two {N x y : Nat} (hx : x < N) (hy : y < N) : InR N [(x : Int), (y : Int)] := fun j hj => by
  match j, hj with
  | 0, _ => show 0 ≤ (x : Int) ∧ (x : Int) < N; omega
  | 1, _ => show 0 ≤ (y : Int) ∧ (y : Int) < N; omega
theorem FacF.v_in (h : FacF t M fs) {x y : Nat} (hx : x < t.length) (hy : y < t.length) : 0 ≤ vF t.length fs x y ∧ vF t.length fs x y < (M : Int) :=
  valR_in (by have := h.m.m2; omega) (inR_two hx hy) rfl h.len h.rng
theorem dF_in {N : Nat} (hM : 0 < M) (x y : Nat) : 0 ≤ dF N M fs x y ∧ dF N M fs x y < (M : Int) := ⟨Int.emod_nonneg _ (by omega), Int.emod_lt_of_pos _ (by omega)⟩
theorem FacF.d_zero (h : FacF t M fs) {x y : Nat} (hx : x < t.length) (hy : y < t.length) : dF t.length M fs x y = 0 ↔ vF t.length fs x y = vF t.length fs y x := by
  have h1 := h.v_in hx hy
  have h2 := h.v_in hy hx
  constructor
  · intro e
    have h3 := Int.dvd_of_emod_eq_zero (show (vF t.length fs x y - vF t.length fs y x) % (M : Int) = 0 from e)
    obtain ⟨k, hk⟩ := h3
    have hk0 : k = 0 := by
      rcases Int.lt_trichotomy k 0 with hh | hh | hh
      · have : (M : Int) * k ≤ (M : Int) * (-1) := Int.mul_le_mul_of_nonneg_left (by omega) (by omega)
        omega
      · exact hh
      · have : (M : Int) * 1 ≤ (M : Int) * k := Int.mul_le_mul_of_nonneg_left (by omega) (by omega)
        omega
    subst hk0
    omega
  · intro e
    show (vF t.length fs x y - vF t.length fs y x) % (M : Int) = 0
    rw [e, Int.sub_self, Int.zero_emod]
/-- Is it symmetric? -/
def syB (N : Nat) (fs : List Int) : Bool := (List.range N).all fun x => (List.range N).all fun y => vF N fs x y == vF N fs y x
theorem syB_true {N : Nat} (h : ∀ x, x < N → ∀ y, y < x → vF N fs x y = vF N fs y x) : syB N fs = true := List.all_eq_true.2 fun x hx => List.all_eq_true.2 fun y hy => by
  have hx := List.mem_range.1 hx
  have hy := List.mem_range.1 hy
  rcases Nat.lt_trichotomy y x with h1 | h1 | h1
  · simp [h x hx y h1]
  · simp [h1]
  · simp [h y hy x h1]
theorem syB_false {N x y : Nat} (hx : x < N) (hy : y < N) (h : vF N fs x y ≠ vF N fs y x) : syB N fs = false := by
  rw [Bool.eq_false_iff]
  intro e
  have := List.all_eq_true.1 (List.all_eq_true.1 e x (List.mem_range.2 hx)) y (List.mem_range.2 hy)
  exact h (by simpa using this)
theorem syB_at {N x y : Nat} (h : syB N fs = true) (hx : x < N) (hy : y < N) : vF N fs x y = vF N fs y x := by
  have := List.all_eq_true.1 (List.all_eq_true.1 h x (List.mem_range.2 hx)) y (List.mem_range.2 hy)
  simpa using this
/-- Is an element regular? -/
def rgB (t : List (List Int)) (M : Nat) (fs : List Int) (x : Nat) : Bool := (List.range t.length).all fun y => fF t M fs x y == zF t x y
theorem rgB_iff {x : Nat} : rgB t M fs x = true ↔ ∀ y, y < t.length → fF t M fs x y = zF t x y := by
  simp [rgB, List.all_eq_true]
theorem fF_ge (hM : 0 < M) (x y : Nat) : -1 ≤ fF t M fs x y ∧ fF t M fs x y < 12 ∨ ¬ M ≤ 12 := by
  unfold fF
  have := dF_in (fs := fs) (N := t.length) hM x y
  split <;> omega
theorem fF_le (hM : 0 < M) {x y : Nat} : fF t M fs x y = zF t x y ↔ fF t M fs x y ≤ 0 := by
  have := dF_in (fs := fs) (N := t.length) hM x y
  unfold fF zF
  split <;> omega
end

end Go.Proofs.YtcdijeeabgmgmaaGreatDoor
