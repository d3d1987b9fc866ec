/- Sets that are closed under products. No program here. -/
import Derived.Test.YtfnjpbjlikajbaaSe
import Derived.Test.YtfnjpbjlikajbaaBa
namespace Go.Proofs.Ytfnjpbjlikajbaa
open Go.RowKit

theorem el_lt {s N a : Nat} (hs : s < 2 ^ N) (ha : a ∈ elN s) : a < N := by
  have h1 := (List.mem_filter.1 ha).2
  have h2 : 2 ^ a ≤ s := Nat.ge_two_pow_of_testBit h1
  rcases Nat.lt_or_ge a N with h | h
  · exact h
  · have := Nat.pow_le_pow_right (show 0 < 2 by omega) h
    omega
theorem or_lt {s N x : Nat} (hs : s < 2 ^ N) (hx : x < N) : s ||| 2 ^ x < 2 ^ N := Nat.or_lt_two_pow hs (Nat.pow_lt_pow_right (by omega) hx)
theorem or_ge (s x : Nat) : s ≤ s ||| x := Nat.left_le_or
theorem lt256 {s N : Nat} (hN : N ≤ 8) (hs : s < 2 ^ N) : s < 256 := by
  have := Nat.pow_le_pow_right (show 0 < 2 by omega) hN
  omega

/-- The products of a with some elements, and of some elements with some, put to a set. -/
def rowS (t : List (List Int)) (a m : Nat) (bs : List Nat) : Nat := bs.foldl (fun m b => m ||| 2 ^ mul t a b) m
def tabS (t : List (List Int)) (l : List Nat) (m : Nat) (ys : List Nat) : Nat := ys.foldl (fun m a => rowS t a m l) m
/-- A set with all products of its elements added. -/
def stp (t : List (List Int)) (s : Nat) : Nat := tabS t (elN s) s (elN s)
section
variable {t : List (List Int)}
theorem rowS_nil (a m : Nat) : rowS t a m [] = m := rfl
theorem rowS_snoc (a m : Nat) (bs : List Nat) (b : Nat) : rowS t a m (bs ++ [b]) = rowS t a m bs ||| 2 ^ mul t a b := by simp [rowS, List.foldl_append]
theorem tabS_nil (l : List Nat) (m : Nat) : tabS t l m [] = m := rfl
theorem tabS_snoc (l : List Nat) (m : Nat) (ys : List Nat) (a : Nat) : tabS t l m (ys ++ [a]) = rowS t a (tabS t l m ys) l := by simp [tabS, List.foldl_append]
theorem rowS_lt (h : IsGrp t) {a : Nat} (ha : a < t.length) {bs : List Nat} (hb : ∀ b ∈ bs, b < t.length) : ∀ {m : Nat}, m < 2 ^ t.length → rowS t a m bs < 2 ^ t.length := by
  induction bs with
  | nil => exact fun hm => hm
  | cons b bs ih => exact fun hm => ih (fun x hx => hb x (List.mem_cons_of_mem _ hx)) (or_lt hm (h.mul_lt ha (hb b (List.mem_cons_self ..))))
theorem rowS_ge (a : Nat) (bs : List Nat) : ∀ m : Nat, m ≤ rowS t a m bs := by
  induction bs with
  | nil => exact fun m => Nat.le_refl _
  | cons b bs ih => exact fun m => Nat.le_trans (or_ge m (2 ^ mul t a b)) (ih _)
theorem tabS_lt (h : IsGrp t) {l : List Nat} (hl : ∀ b ∈ l, b < t.length) {ys : List Nat} (ha : ∀ b ∈ ys, b < t.length) : ∀ {m : Nat}, m < 2 ^ t.length → tabS t l m ys < 2 ^ t.length := by
  induction ys with
  | nil => exact fun hm => hm
  | cons a ys ih => exact fun hm => ih (fun x hx => ha x (List.mem_cons_of_mem _ hx)) (rowS_lt h (ha a (List.mem_cons_self ..)) hl hm)
theorem tabS_ge (l : List Nat) (ys : List Nat) : ∀ m : Nat, m ≤ tabS t l m ys := by
  induction ys with
  | nil => exact fun m => Nat.le_refl _
  | cons a ys ih => exact fun m => Nat.le_trans (rowS_ge a l m) (ih _)
theorem stp_lt (h : IsGrp t) {s : Nat} (hs : s < 2 ^ t.length) : stp t s < 2 ^ t.length := tabS_lt h (fun _ hb => el_lt hs hb) (fun _ hb => el_lt hs hb) hs
theorem stp_ge (s : Nat) : s ≤ stp t s := tabS_ge _ _ _
end

/-- The set after k steps. -/
def itS (t : List (List Int)) (s : Nat) : Nat → Nat
  | 0 => s
  | k + 1 => stp t (itS t s k)
/-- R is what the steps from s end at. -/
def IsClo (t : List (List Int)) (s R : Nat) : Prop := ∃ k, itS t s k = R ∧ stp t R = R
section
variable {t : List (List Int)} {s R R' : Nat}
theorem itS_lt (h : IsGrp t) (hs : s < 2 ^ t.length) : ∀ k, itS t s k < 2 ^ t.length
  | 0 => hs
  | k + 1 => stp_lt h (itS_lt h hs k)
theorem itS_stay {k : Nat} (h : stp t (itS t s k) = itS t s k) : ∀ j, itS t s (k + j) = itS t s k
  | 0 => rfl
  | j + 1 => by
    show stp t (itS t s (k + j)) = _
    rw [itS_stay h j, h]
theorem IsClo.only (h : IsClo t s R) (h' : IsClo t s R') : R = R' := by
  obtain ⟨k, rfl, h1⟩ := h
  obtain ⟨k', rfl, h2⟩ := h'
  rcases Nat.le_total k k' with h | h
  · obtain ⟨j, rfl⟩ : ∃ j, k' = k + j := ⟨k' - k, by omega⟩
    exact (itS_stay h1 j).symm
  · obtain ⟨j, rfl⟩ : ∃ j, k = k' + j := ⟨k - k', by omega⟩
    exact itS_stay h2 j
end
open Classical in
/-- What the steps from s end at. -/
noncomputable def clo (t : List (List Int)) (s : Nat) : Nat := if h : ∃ R, IsClo t s R then Classical.choose h else 0
theorem clo_eq {t : List (List Int)} {s R : Nat} (h : IsClo t s R) : clo t s = R := by
  have hex : ∃ R, IsClo t s R := ⟨R, h⟩
  unfold clo
  rw [dif_pos hex]
  exact (Classical.choose_spec hex).only h
theorem clo_at {t : List (List Int)} {s k : Nat} (h : stp t (itS t s k) = itS t s k) : clo t s = itS t s k := clo_eq ⟨k, rfl, h⟩
theorem clo_ex {t : List (List Int)} (h : IsGrp t) {s : Nat} (hs : s < 2 ^ t.length) : ∃ k, stp t (itS t s k) = itS t s k := by
  have key : ∀ n k, 2 ^ t.length - itS t s k ≤ n → ∃ k, stp t (itS t s k) = itS t s k := by
    intro n
    induction n with
    | zero => exact fun k hk => by have := itS_lt h hs k; omega
    | succ n ih =>
      intro k hk
      by_cases he : stp t (itS t s k) = itS t s k
      · exact ⟨k, he⟩
      · have h1 := stp_ge (t := t) (itS t s k)
        exact ih (k + 1) (by show 2 ^ t.length - stp t (itS t s k) ≤ n; omega)
  exact key _ 0 (Nat.le_refl _)
theorem clo_lt {t : List (List Int)} (h : IsGrp t) {s : Nat} (hs : s < 2 ^ t.length) : clo t s < 2 ^ t.length := by
  obtain ⟨k, hk⟩ := clo_ex h hs
  rw [clo_at hk]
  exact itS_lt h hs k

/-- The set of the first k numbers of a list. -/
def bitsK (xs : List Int) : Nat → Nat
  | 0 => 0
  | k + 1 => bitsK xs k ||| 2 ^ (nth xs k).toNat
theorem bitsK_lt {xs : List Int} {N : Nat} (h : ∀ i, i < xs.length → 0 ≤ nth xs i ∧ nth xs i < N) : ∀ k, k ≤ xs.length → bitsK xs k < 2 ^ N
  | 0, _ => Nat.two_pow_pos N
  | k + 1, hk => or_lt (bitsK_lt h k (by omega)) (by have := h k (by omega); omega)

/-- Is a list one of elements, ascending? -/
def ascP (xs : List Int) (k : Nat) : Prop := ∀ i, 0 < i → i < k → nth xs (i - 1) < nth xs i
open Classical in
noncomputable def setB (N : Nat) (xs : List Int) : Bool := decide ((∀ i, i < xs.length → 0 ≤ nth xs i ∧ nth xs i < N) ∧ ascP xs xs.length)
theorem setB_true {N : Nat} {xs : List Int} : setB N xs = true ↔ (∀ i, i < xs.length → 0 ≤ nth xs i ∧ nth xs i < N) ∧ ascP xs xs.length := by simp [setB]
theorem setB_rng {N i : Nat} {xs : List Int} (hi : i < xs.length) (h : ¬ (0 ≤ nth xs i ∧ nth xs i < N)) : setB N xs = false := by
  rw [Bool.eq_false_iff]
  exact fun e => h ((setB_true.1 e).1 i hi)
theorem setB_asc {N i : Nat} {xs : List Int} (h0 : 0 < i) (hi : i < xs.length) (h : ¬ nth xs (i - 1) < nth xs i) : setB N xs = false := by
  rw [Bool.eq_false_iff]
  exact fun e => h ((setB_true.1 e).2 i h0 hi)

end Go.Proofs.Ytfnjpbjlikajbaa
