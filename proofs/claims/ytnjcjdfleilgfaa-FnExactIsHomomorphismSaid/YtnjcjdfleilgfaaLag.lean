/- The order of an element divides that of the group. No program here. -/
import Derived.Test.YtnjcjdfleilgfaaAlg
namespace Go.Proofs.Ytnjcjdfleilgfaa

section
variable {t : List (List Int)} (h : IsGrp t) {a : Nat} (ha : a < t.length)
include h ha

theorem IsGrp.pw_ord_mul : ∀ q, pw t a (ord t a * q) = 0
  | 0 => rfl
  | q + 1 => by
    have h1 := h.pw_add ha (ord t a * q) (ord t a)
    rw [(h.ord_spec ha).2.2.1, h.mul_zero (h.pw_lt ha _), IsGrp.pw_ord_mul q] at h1
    rw [Nat.mul_succ]
    exact h1.symm

theorem IsGrp.pw_mod (j : Nat) : pw t a j = pw t a (j % ord t a) := by
  have h1 := h.pw_add ha (ord t a * (j / ord t a)) (j % ord t a)
  rw [h.pw_ord_mul ha, h.zero_mul (h.pw_lt ha _), Nat.div_add_mod] at h1
  exact h1.symm

theorem IsGrp.pw_inj {i j : Nat} (hij : i < j) (hj : j < ord t a) : pw t a i ≠ pw t a j := by
  intro e
  have h1 := h.pw_add ha i (j - i)
  rw [show i + (j - i) = j by omega, ← e] at h1
  have h2 := h.mul_zero (h.pw_lt ha i)
  exact (h.ord_spec ha).2.2.2 (j - i) (by omega) (by omega) (h.left_cancel (h.pw_lt ha i) (h.pw_lt ha _) h.pos (h1.trans h2.symm))

theorem IsGrp.orbits : ∀ (m : Nat) (S : List Nat), S.length ≤ m → S.Nodup → (∀ x ∈ S, x < t.length) → (∀ x ∈ S, ∀ i, mul t x (pw t a i) ∈ S) → ord t a ∣ S.length
  | m, [], _, _, _, _ => ⟨0, rfl⟩
  | 0, x :: S, hm, _, _, _ => absurd hm (by simp)
  | m + 1, x :: S, hm, hnd, hlt, hcl => by
    have hd := (h.ord_spec ha).1
    have hx : x < t.length := hlt x (by simp)
    have hO : ((List.range (ord t a)).map fun i => mul t x (pw t a i)).Nodup := by
      refine List.Pairwise.map _ (R := fun i j => i < j ∧ j < ord t a) (fun i j hij e => ?_) ?_
      · exact h.pw_inj ha hij.1 hij.2 (h.left_cancel hx (h.pw_lt ha _) (h.pw_lt ha _) e)
      · refine List.Pairwise.imp_of_mem (R := (· < ·)) (fun _ hb hab => ⟨hab, List.mem_range.1 hb⟩) List.pairwise_lt_range
    have hp := List.filter_append_perm (fun y => decide (y ∈ (List.range (ord t a)).map fun i => mul t x (pw t a i))) (x :: S)
    have hf : ((x :: S).filter (fun y => decide (y ∈ (List.range (ord t a)).map fun i => mul t x (pw t a i)))).Perm ((List.range (ord t a)).map fun i => mul t x (pw t a i)) := by
      refine (List.perm_ext_iff_of_nodup (hnd.filter _) hO).2 fun y => ?_
      rw [List.mem_filter, decide_eq_true_eq]
      refine ⟨fun h => h.2, fun hy => ⟨?_, hy⟩⟩
      obtain ⟨i, _, rfl⟩ := List.mem_map.1 hy
      exact hcl x (by simp) i
    have hl := hp.length_eq
    rw [List.length_append, hf.length_eq, List.length_map, List.length_range] at hl
    have ih := IsGrp.orbits m ((x :: S).filter (fun y => !decide (y ∈ (List.range (ord t a)).map fun i => mul t x (pw t a i)))) (by simp only [List.length_cons] at hl hm; omega) (hnd.filter _)
      (fun y hy => hlt y (List.mem_filter.1 hy).1) (fun y hy i => by
        obtain ⟨hy1, hy2⟩ := List.mem_filter.1 hy
        refine List.mem_filter.2 ⟨hcl y hy1 i, ?_⟩
        rw [Bool.not_eq_true', decide_eq_false_iff_not] at hy2 ⊢
        intro hmem
        apply hy2
        obtain ⟨j, _, e⟩ := List.mem_map.1 hmem
        have hyl := hlt y hy1
        have e1 : mul t (mul t y (pw t a i)) (pw t a (ord t a * i - i)) = y := by
          rw [h.mul_assoc hyl (h.pw_lt ha _) (h.pw_lt ha _), h.pw_add ha, show i + (ord t a * i - i) = ord t a * i by have := Nat.le_mul_of_pos_left i hd; omega, h.pw_ord_mul ha, h.mul_zero hyl]
        rw [← e, h.mul_assoc hx (h.pw_lt ha _) (h.pw_lt ha _), h.pw_add ha, h.pw_mod ha] at e1
        exact List.mem_map.2 ⟨_, List.mem_range.2 (Nat.mod_lt _ hd), e1⟩)
    rw [← hl]
    exact Nat.dvd_add (Nat.dvd_refl _) ih

/-- The order of an element divides that of the group. -/
theorem IsGrp.ord_dvd : ord t a ∣ t.length := by
  have h1 := h.orbits ha t.length (List.range t.length) (by simp) List.nodup_range (fun x hx => List.mem_range.1 hx) (fun x hx i => List.mem_range.2 (h.mul_lt (List.mem_range.1 hx) (h.pw_lt ha i)))
  simpa using h1

/-- The powers by the rests of a number by both orders are equal. -/
theorem IsGrp.pw_rest (k : Int) : pw t a (k % (t.length : Int)).toNat = pw t a (k % (ord t a : Int)).toNat := by
  rw [h.pw_mod ha (k % (t.length : Int)).toNat]
  congr 1
  have hd := (h.ord_spec ha).1
  have hp := h.pos
  have h1 : 0 ≤ k % (t.length : Int) := Int.emod_nonneg _ (by omega)
  have h2 : 0 ≤ k % (ord t a : Int) := Int.emod_nonneg _ (by omega)
  apply Int.ofNat_inj.1
  rw [Int.natCast_emod, Int.toNat_of_nonneg h1, Int.toNat_of_nonneg h2]
  exact Int.emod_emod_of_dvd k (Int.natCast_dvd_natCast.2 (h.ord_dvd ha))
end

/-- Go's remainder, made not negative. -/
theorem rest_up (x : Int) (m : Int) (hm : 0 < m) : (Int.tmod x m + m).tmod m = x % m := by
  have h0 := Int.emod_nonneg x (show m ≠ 0 by omega)
  have h1 := Int.emod_lt_of_pos x hm
  have h2 : Int.tmod x m + m = x % m ∨ Int.tmod x m + m = x % m + m := by
    rw [Int.tmod_eq_emod]
    split
    · right; omega
    · left; omega
  rcases h2 with e | e
  · rw [e, Int.tmod_eq_emod_of_nonneg h0, Int.emod_emod]
  · rw [e, Int.tmod_eq_emod_of_nonneg (by omega), Int.add_emod_right, Int.emod_emod]

theorem rest_if (x : Int) (m : Int) (hm : 0 < m) : (Int.tmod x m < 0 ∧ Int.tmod x m + m = x % m) ∨ (¬ Int.tmod x m < 0 ∧ Int.tmod x m = x % m) := by
  have h0 := Int.emod_nonneg x (show m ≠ 0 by omega)
  have h1 := Int.emod_lt_of_pos x hm
  rw [Int.tmod_eq_emod]
  split
  · right; constructor <;> omega
  · left; constructor <;> omega

end Go.Proofs.Ytnjcjdfleilgfaa
