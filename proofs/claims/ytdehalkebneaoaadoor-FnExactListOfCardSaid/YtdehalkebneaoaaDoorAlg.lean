/- Groups of tables, as numbers with a product. No program here. -/
import Derived.Test.YtdehalkebneaoaaDoorGrp
namespace Go.Proofs.YtdehalkebneaoaaDoor

/-- The product of two elements. -/
def mul (t : List (List Int)) (x y : Nat) : Nat := (nth (row t x) y).toNat

section
variable {t : List (List Int)} (h : IsGrp t)
include h

theorem IsGrp.ent {x y : Nat} (hx : x < t.length) (hy : y < t.length) : nth (row t x) y = (mul t x y : Int) := by
  have h1 : 0 ≤ nth (row t x) y := (h.rng x hx y hy).1
  unfold mul
  rw [Int.toNat_of_nonneg h1]
theorem IsGrp.mul_lt {x y : Nat} (hx : x < t.length) (hy : y < t.length) : mul t x y < t.length := by
  have h1 := h.rng x hx y hy
  have h2 : nth (row t x) y = (mul t x y : Int) := h.ent hx hy
  unfold Go.Proofs.YtdehalkebneaoaaDoor.ent at h1
  omega
theorem IsGrp.zero_mul {x : Nat} (hx : x < t.length) : mul t 0 x = x := by
  have h1 : nth (row t 0) x = (x : Int) := (h.id x hx).1
  simp [mul, h1]
theorem IsGrp.mul_zero {x : Nat} (hx : x < t.length) : mul t x 0 = x := by
  have h1 : nth (row t x) 0 = (x : Int) := (h.id x hx).2
  simp [mul, h1]
theorem IsGrp.mul_assoc {x y z : Nat} (hx : x < t.length) (hy : y < t.length) (hz : z < t.length) : mul t (mul t x y) z = mul t x (mul t y z) := by
  have h1 := h.assoc x hx y hy z hz
  unfold Go.Proofs.YtdehalkebneaoaaDoor.ent at h1
  simp only [mul] at h1 ⊢
  rw [h1]
theorem IsGrp.inv_ex {x : Nat} (hx : x < t.length) : ∃ y, y < t.length ∧ mul t x y = 0 ∧ mul t y x = 0 := by
  obtain ⟨b, hb, h1, h2⟩ := h.inv x hx
  unfold Go.Proofs.YtdehalkebneaoaaDoor.ent at h1 h2
  exact ⟨b, hb, by simp [mul, h1], by simp [mul, h2]⟩
theorem IsGrp.pos : 0 < t.length := h.n1
theorem IsGrp.left_cancel {x y z : Nat} (hx : x < t.length) (hy : y < t.length) (hz : z < t.length) (e : mul t x y = mul t x z) : y = z := by
  obtain ⟨b, hb, _, h2⟩ := h.inv_ex hx
  have h3 : mul t (mul t b x) y = mul t (mul t b x) z := by rw [h.mul_assoc hb hx hy, h.mul_assoc hb hx hz, e]
  rw [h2, h.zero_mul hy, h.zero_mul hz] at h3
  exact h3
theorem IsGrp.right_cancel {x y z : Nat} (hx : x < t.length) (hy : y < t.length) (hz : z < t.length) (e : mul t y x = mul t z x) : y = z := by
  obtain ⟨b, hb, h1, _⟩ := h.inv_ex hx
  have h3 : mul t y (mul t x b) = mul t z (mul t x b) := by rw [← h.mul_assoc hy hx hb, ← h.mul_assoc hz hx hb, e]
  rw [h1, h.mul_zero hy, h.mul_zero hz] at h3
  exact h3
end

/-- The j-th power of an element, by products from the right. -/
def pw (t : List (List Int)) (a : Nat) : Nat → Nat
  | 0 => 0
  | j + 1 => mul t (pw t a j) a

theorem IsGrp.pw_lt {t : List (List Int)} (h : IsGrp t) {a : Nat} (ha : a < t.length) : ∀ j, pw t a j < t.length
  | 0 => h.pos
  | j + 1 => h.mul_lt (h.pw_lt ha j) ha

theorem IsGrp.pw_add {t : List (List Int)} (h : IsGrp t) {a : Nat} (ha : a < t.length) (i : Nat) : ∀ j, mul t (pw t a i) (pw t a j) = pw t a (i + j)
  | 0 => h.mul_zero (h.pw_lt ha i)
  | j + 1 => by
    show mul t (pw t a i) (mul t (pw t a j) a) = mul t (pw t a (i + j)) a
    rw [← h.pw_add ha i j, h.mul_assoc (h.pw_lt ha i) (h.pw_lt ha j) ha]

/-- Of n + 1 numbers less than n two are equal. -/
theorem pigeon : ∀ (n : Nat) (f : Nat → Nat), (∀ j, j ≤ n → f j < n) → ∃ i j, i < j ∧ j ≤ n ∧ f i = f j
  | 0, f, h => absurd (h 0 (Nat.le_refl _)) (by omega)
  | n + 1, f, h => by
    by_cases he : ∃ i, i ≤ n ∧ f i = f (n + 1)
    · obtain ⟨i, hi, e⟩ := he
      exact ⟨i, n + 1, by omega, by omega, e⟩
    · have hne : ∀ i, i ≤ n → f i ≠ f (n + 1) := fun i hi e => he ⟨i, hi, e⟩
      have hv := h (n + 1) (by omega)
      obtain ⟨i, j, hij, hj, e⟩ := pigeon n (fun j => if f (n + 1) < f j then f j - 1 else f j) (fun j hj => by
        have h1 := h j (by omega)
        have h2 := hne j hj
        show (if f (n + 1) < f j then f j - 1 else f j) < n
        split <;> omega)
      refine ⟨i, j, hij, by omega, ?_⟩
      have h1 := hne i (by omega)
      have h2 := hne j hj
      have e' : (if f (n + 1) < f i then f i - 1 else f i) = (if f (n + 1) < f j then f j - 1 else f j) := e
      split at e' <;> split at e' <;> omega

theorem IsGrp.pw_zero_ex {t : List (List Int)} (h : IsGrp t) {a : Nat} (ha : a < t.length) : ∃ k, 1 ≤ k ∧ k ≤ t.length ∧ pw t a k = 0 := by
  obtain ⟨i, j, hij, hj, e⟩ := pigeon t.length (pw t a) (fun j _ => h.pw_lt ha j)
  refine ⟨j - i, by omega, by omega, ?_⟩
  have h1 := h.pw_add ha i (j - i)
  rw [show i + (j - i) = j by omega, ← e] at h1
  have h2 := h.mul_zero (h.pw_lt ha i)
  exact h.left_cancel (h.pw_lt ha i) (h.pw_lt ha _) h.pos (h1.trans h2.symm)

/-- The least number from k on at which the power is 0, within some rounds. -/
def ordFrom (t : List (List Int)) (a : Nat) : Nat → Nat → Nat
  | 0, k => k
  | f + 1, k => if pw t a k = 0 then k else ordFrom t a f (k + 1)
/-- The order of an element. -/
def ord (t : List (List Int)) (a : Nat) : Nat := ordFrom t a t.length 1

theorem ordFrom_spec {t : List (List Int)} {a : Nat} : ∀ (f k m : Nat), k ≤ m → m ≤ k + f → pw t a m = 0 → k ≤ ordFrom t a f k ∧ pw t a (ordFrom t a f k) = 0 ∧ ordFrom t a f k ≤ m ∧ ∀ i, k ≤ i → i < ordFrom t a f k → pw t a i ≠ 0
  | 0, k, m, h1, h2, h3 => by
    obtain rfl : m = k := by omega
    exact ⟨Nat.le_refl _, h3, Nat.le_refl _, fun i h4 h5 => absurd h5 (by simp only [ordFrom]; omega)⟩
  | f + 1, k, m, h1, h2, h3 => by
    by_cases h0 : pw t a k = 0
    · simp only [ordFrom, h0, if_true]
      exact ⟨Nat.le_refl _, trivial, h1, fun i h4 h5 => absurd h5 (by omega)⟩
    · simp only [ordFrom, h0, if_false]
      have hm : k + 1 ≤ m := by
        rcases Nat.lt_or_ge k m with h | h
        · exact h
        · obtain rfl : m = k := by omega
          exact absurd h3 h0
      obtain ⟨g1, g2, g3, g4⟩ := ordFrom_spec f (k + 1) m hm (by omega) h3
      refine ⟨by omega, g2, g3, fun i h4 h5 => ?_⟩
      by_cases e : i = k
      · subst e; exact h0
      · exact g4 i (by omega) h5

theorem IsGrp.ord_spec {t : List (List Int)} (h : IsGrp t) {a : Nat} (ha : a < t.length) : 1 ≤ ord t a ∧ ord t a ≤ t.length ∧ pw t a (ord t a) = 0 ∧ ∀ i, 1 ≤ i → i < ord t a → pw t a i ≠ 0 := by
  obtain ⟨k, h1, h2, h3⟩ := h.pw_zero_ex ha
  obtain ⟨g1, g2, g3, g4⟩ := ordFrom_spec t.length 1 k h1 (by omega) h3
  exact ⟨g1, Nat.le_trans g3 h2, g2, g4⟩

end Go.Proofs.YtdehalkebneaoaaDoor
