/- Pairs of a number and an element: products, inverses, orders. -/
import Derived.Test.YtenenlpfpkdplaaDoorFdc
namespace Go.Proofs.YtenenlpfpkdplaaDoor
open Go.RowKit

/-- The product of two pairs, the inverse of one, its powers. -/
def pairV (t : List (List Int)) (M : Nat) (us : List Int) (p q : Nat) : Nat := M * mul t (p / M) (q / M) + (p % M + im us (p / M) * (q % M)) % M
noncomputable def pairI (t : List (List Int)) (M : Nat) (us : List Int) (p : Nat) : Nat := M * iv t (p / M) + (-((im us (iv t (p / M)) * (p % M) : Nat) : Int) % (M : Int)).toNat
def pqs (t : List (List Int)) (M : Nat) (us : List Int) (p : Nat) : Nat → Nat
  | 0 => p
  | k + 1 => pairV t M us (pqs t M us p k) p

/-- The code of a group, a module and pairs. -/
noncomputable def prC (t : List (List Int)) (m : Int) (us ps : List Int) : Int := if gmB t m us = true then (if belowB (m * (t.length : Int)) ps = true then 0 else 2) else 1
theorem prC_mod {t : List (List Int)} {m : Int} {us ps : List Int} (h : gmB t m us = false) : prC t m us ps = 1 := by simp [prC, h]
theorem prC_some {t : List (List Int)} {m : Int} {us ps : List Int} (h : gmB t m us = true) : prC t m us ps = if belowB (m * (t.length : Int)) ps = true then 0 else 2 := by rw [prC, if_pos h]
theorem prC_zero {t : List (List Int)} {m : Int} {us ps : List Int} (h : prC t m us ps = 0) : gmB t m us = true ∧ belowB (m * (t.length : Int)) ps = true := by
  unfold prC at h
  split at h
  · rename_i hg
    split at h
    · exact ⟨hg, by assumption⟩
    · cases h
  · cases h

theorem pair_div {M a b : Nat} (hM : 0 < M) (hb : b < M) : (M * a + b) / M = a := by rw [Nat.mul_add_div hM, Nat.div_eq_of_lt hb, Nat.add_zero]
theorem pair_mod {M a b : Nat} (hb : b < M) : (M * a + b) % M = b := by rw [Nat.mul_add_mod, Nat.mod_eq_of_lt hb]
theorem pair_lt {M N a b : Nat} (ha : a < N) (hb : b < M) : M * a + b < M * N := by
  have h1 : M * (a + 1) ≤ M * N := Nat.mul_le_mul_left _ ha
  rw [Nat.mul_succ] at h1
  omega
theorem pair_el {M N p : Nat} (hp : p < M * N) : p / M < N := Nat.div_lt_of_lt_mul hp
/-- Sums with the same number are equal modulo M alone if the others are. -/
theorem mod_cancel {M a b c : Nat} (ha : a < M) (hb : b < M) (e : (a + c) % M = (b + c) % M) : a = b := by
  have hM : 0 < M := by omega
  rw [← Nat.add_mod_mod a, ← Nat.add_mod_mod b] at e
  have hd : c % M < M := Nat.mod_lt _ hM
  generalize c % M = d at e hd
  have key : ∀ x, x < M → (x + d) % M = if x + d < M then x + d else x + d - M := fun x hx => by
    split
    · exact Nat.mod_eq_of_lt (by assumption)
    · rw [Nat.mod_eq_sub_mod (by omega), Nat.mod_eq_of_lt (by omega)]
  rw [key a ha, key b hb] at e
  split at e <;> split at e <;> omega

section
variable {t : List (List Int)} {M p q : Nat} {us : List Int}
theorem pairV_lt (hm : ModF t M us) (hp : p < M * t.length) (hq : q < M * t.length) : pairV t M us p q < M * t.length :=
  pair_lt (hm.g.mul_lt (pair_el hp) (pair_el hq)) (Nat.mod_lt _ (by have := hm.m2; omega))
theorem pqs_lt (hm : ModF t M us) (hp : p < M * t.length) : ∀ k, pqs t M us p k < M * t.length
  | 0 => hp
  | k + 1 => pairV_lt hm (pqs_lt hm hp k) hp
theorem pairV_inj (hm : ModF t M us) {a b : Nat} (ha : a < M * t.length) (hb : b < M * t.length) (hp : p < M * t.length) (e : pairV t M us a p = pairV t M us b p) : a = b := by
  have hM : 0 < M := by have := hm.m2; omega
  have h1 := congrArg (fun z => z / M) e
  have h2 := congrArg (fun z => z % M) e
  simp only [pairV] at h1 h2
  rw [pair_div hM (Nat.mod_lt _ hM), pair_div hM (Nat.mod_lt _ hM)] at h1
  rw [pair_mod (Nat.mod_lt _ hM), pair_mod (Nat.mod_lt _ hM)] at h2
  have h3 := hm.g.right_cancel (pair_el hp) (pair_el ha) (pair_el hb) h1
  rw [h3] at h2
  have h4 := mod_cancel (Nat.mod_lt _ hM) (Nat.mod_lt _ hM) h2
  rw [← Nat.div_add_mod a M, ← Nat.div_add_mod b M, h3, h4]
/-- The unit of the element 0. -/
theorem unit_zero (h : gmB t (M : Int) us = true) : im us 0 = 1 := by
  obtain ⟨hg, h2, h12, hl, hu, hk⟩ := gmB_true h
  have h0 : 0 < us.length := by rw [hl]; exact hg.n1
  obtain ⟨u1, u2, u3⟩ := unitB_iff.1 (unitsB_iff.1 hu 0 h0)
  have h3 : KeepAtP t (umul M) us 0 0 := by simpa using keepPB_iff.1 hk 0 hg.n1 0 hg.n1
  unfold KeepAtP umul at h3
  rw [hg.zero_mul hg.n1] at h3
  have e : (nth us 0).toNat = im us 0 := rfl
  rw [e, Int.toNat_natCast] at u3
  have hu1 : 1 ≤ im us 0 := by unfold im; omega
  have hu2 : im us 0 < M := by unfold im; omega
  generalize im us 0 = u at h3 u3 hu1 hu2
  obtain ⟨v, rfl⟩ : ∃ v, u = v + 1 := ⟨u - 1, by omega⟩
  have h4 : M ∣ (v + 1) * v := by
    have h5 : ((v + 1) * (v + 1)) % M = (v + 1) % M := by rw [Nat.mod_eq_of_lt hu2]; exact h3.symm
    have h6 := (Nat.sub_mod_eq_zero_of_mod_eq h5)
    rw [show (v + 1) * (v + 1) - (v + 1) = (v + 1) * v by rw [Nat.mul_succ]; omega] at h6
    exact Nat.dvd_of_mod_eq_zero h6
  have h7 : M ∣ v := Nat.Coprime.dvd_of_dvd_mul_left u3 h4
  have h8 : v = 0 := Nat.eq_zero_of_dvd_of_lt h7 (by omega)
  omega
theorem pqs_back (hm : ModF t M us) (hp : p < M * t.length) (d : Nat) : ∀ i, pqs t M us p i = pqs t M us p (i + d) → pqs t M us p 0 = pqs t M us p d
  | 0, e => by rw [Nat.zero_add] at e; exact e
  | i + 1, e => pqs_back hm hp d i (by
    rw [show i + 1 + d = i + d + 1 by omega] at e
    exact pairV_inj hm (pqs_lt hm hp _) (pqs_lt hm hp _) hp e)
theorem pqs_zero (h : gmB t (M : Int) us = true) (hm : ModF t M us) (hp : p < M * t.length) : ∃ k, k < M * t.length ∧ pqs t M us p k = 0 := by
  have hM : 0 < M := by have := hm.m2; omega
  obtain ⟨i, j, hij, hj, e⟩ := pigeon (M * t.length) (pqs t M us p) (fun j _ => pqs_lt hm hp j)
  obtain ⟨d, rfl⟩ : ∃ d, j = i + (d + 1) := ⟨j - i - 1, by omega⟩
  have h1 : p = pairV t M us (pqs t M us p d) p := pqs_back hm hp (d + 1) i e
  have hr := pqs_lt hm hp d
  refine ⟨d, by omega, ?_⟩
  generalize pqs t M us p d = r at h1 hr
  have h2 : p / M = mul t (r / M) (p / M) := by
    have := congrArg (fun z => z / M) h1
    simp only [pairV] at this
    rw [pair_div hM (Nat.mod_lt _ hM)] at this
    exact this
  have h3 : r / M = 0 := hm.g.right_cancel (pair_el hp) (pair_el hr) hm.g.pos (by rw [← h2, hm.g.zero_mul (pair_el hp)])
  have h4 : p % M = (r % M + p % M) % M := by
    have := congrArg (fun z => z % M) h1
    simp only [pairV] at this
    rw [pair_mod (Nat.mod_lt _ hM), h3, unit_zero h, Nat.one_mul] at this
    exact this
  have h5 : r % M = 0 := mod_cancel (c := p % M) (Nat.mod_lt _ hM) hM (by rw [← h4, Nat.zero_add, Nat.mod_mod])
  rw [← Nat.div_add_mod r M, h3, h5, Nat.mul_zero]
theorem least_zeroN (f : Nat → Nat) : ∀ b, f b = 0 → ∃ m, m ≤ b ∧ f m = 0 ∧ ∀ c, c < m → f c ≠ 0 := by
  intro b
  induction b using Nat.strongRecOn with
  | ind b ih =>
    intro hb
    by_cases h : ∃ c, c < b ∧ f c = 0
    · obtain ⟨c, hc, h0⟩ := h
      obtain ⟨m, h1, h2⟩ := ih c hc h0
      exact ⟨m, by omega, h2⟩
    · exact ⟨b, Nat.le_refl _, hb, fun c hc e => h ⟨c, hc, e⟩⟩
open Classical in
/-- How often a pair is taken until the product is 0, less one. -/
noncomputable def ordP (t : List (List Int)) (M : Nat) (us : List Int) (p : Nat) : Nat := if h : ∃ k, k < M * t.length ∧ pqs t M us p k = 0 ∧ ∀ j, j < k → pqs t M us p j ≠ 0 then h.choose else 0
theorem ordP_spec (h : gmB t (M : Int) us = true) (hm : ModF t M us) (hp : p < M * t.length) : ordP t M us p < M * t.length ∧ pqs t M us p (ordP t M us p) = 0 ∧ ∀ j, j < ordP t M us p → pqs t M us p j ≠ 0 := by
  have hx : ∃ k, k < M * t.length ∧ pqs t M us p k = 0 ∧ ∀ j, j < k → pqs t M us p j ≠ 0 := by
    obtain ⟨k, h1, h2⟩ := pqs_zero h hm hp
    obtain ⟨m, g1, g2, g3⟩ := least_zeroN (pqs t M us p) k h2
    exact ⟨m, by omega, g2, g3⟩
  rw [ordP, dif_pos hx]
  exact hx.choose_spec
end

end Go.Proofs.YtenenlpfpkdplaaDoor
