/- Normal subgroups: the specification's side. -/
import Derived.IntWalk
import Derived.Deep.RegionHeld3
import Derived.Test.YtfnjpbjlikajbaaCs
import Derived.Test.YtfnjpbjlikajbaaCf
namespace Go.Proofs.Ytfnjpbjlikajbaa
open Go.RowKit

theorem bitsK_bit (xs : List Int) (a : Nat) : ∀ k, (bitsK xs k).testBit a = decide (∃ i, i < k ∧ (nth xs i).toNat = a)
  | 0 => by simp [bitsK]
  | k + 1 => by
    rw [bitsK, with_bit, bitsK_bit xs a k, Bool.eq_iff_iff]
    simp only [Bool.or_eq_true, decide_eq_true_eq]
    constructor
    · rintro (⟨i, h1, h2⟩ | h)
      · exact ⟨i, by omega, h2⟩
      · exact ⟨k, by omega, h⟩
    · rintro ⟨i, h1, h2⟩
      rcases Nat.lt_or_ge i k with h | h
      · exact .inl ⟨i, h, h2⟩
      · obtain rfl : i = k := by omega
        exact .inr h2
theorem asc_ge {xs : List Int} (h : ascP xs xs.length) : ∀ i, i < xs.length → nth xs 0 + i ≤ nth xs i
  | 0, _ => by simp
  | i + 1, hi => by
    have h1 := asc_ge h i (by omega)
    have h2 := h (i + 1) (by omega) hi
    rw [Nat.add_sub_cancel] at h2
    omega
theorem first_zero {N : Nat} {xs : List Int} (h : setB N xs = true) : (bitsK xs xs.length).testBit 0 = decide (0 < xs.length ∧ nth xs 0 = 0) := by
  obtain ⟨hr, ha⟩ := setB_true.1 h
  rw [bitsK_bit, Bool.eq_iff_iff]
  simp only [decide_eq_true_eq]
  constructor
  · rintro ⟨i, h1, h2⟩
    have h3 := hr i h1
    have h4 := asc_ge ha i h1
    have h5 := hr 0 (by omega)
    exact ⟨by omega, by omega⟩
  · rintro ⟨h1, h2⟩
    exact ⟨0, h1, by rw [h2]; rfl⟩

/-- Is a set a subgroup? -/
def subB (t : List (List Int)) (s : Nat) : Bool := s.testBit 0 && stp t s == s
theorem clo_same {t : List (List Int)} (h : IsGrp t) {s : Nat} (hs : s < 2 ^ t.length) (h0 : s.testBit 0 = true) : ((clo t (s ||| 1) : Int) == (s : Int)) = (stp t s == s) := by
  have h1 : s ||| 1 = s := or_has s (lt256 h.n8 hs) 0 (by omega) h0
  rw [h1, Bool.eq_iff_iff]
  simp only [beq_iff_eq, Int.natCast_inj]
  constructor
  · intro e
    obtain ⟨k, hk⟩ := clo_ex h hs
    rw [clo_at hk] at e
    rw [e] at hk
    exact hk
  · intro e
    exact clo_at (k := 0) e
/-- Does each element lead a set into itself? -/
def NorP (t : List (List Int)) (s : Nat) : Prop := ∀ b, b ∈ elN s → ∀ c, c < t.length → s.testBit (con t b c) = true
open Classical in
noncomputable def norB (t : List (List Int)) (s : Nat) : Bool := decide (NorP t s)
theorem norB_true {t : List (List Int)} {s : Nat} (h : NorP t s) : norB t s = true := by simp [norB, h]
theorem norB_false {t : List (List Int)} {s : Nat} (h : ¬ NorP t s) : norB t s = false := by simp [norB, h]
theorem el_list {N : Nat} {xs : List Int} (hN : N ≤ 8) (h : ∀ i, i < xs.length → 0 ≤ nth xs i ∧ nth xs i < N) {i : Nat} (hi : i < xs.length) : (nth xs i).toNat ∈ elN (bitsK xs xs.length) := by
  have := h i hi
  exact List.mem_filter.2 ⟨List.mem_range.2 (by omega), by rw [bitsK_bit]; exact decide_eq_true ⟨i, hi, rfl⟩⟩
theorem list_el {xs : List Int} {b : Nat} (h : b ∈ elN (bitsK xs xs.length)) : ∃ i, i < xs.length ∧ (nth xs i).toNat = b := by
  have h1 := (List.mem_filter.1 h).2
  rw [bitsK_bit] at h1
  exact of_decide_eq_true h1

theorem bit_zero : ∀ s : Nat, s < 256 → ∀ a : Nat, a < 8 → (bits BinOp.and IntKind.i64 ((s : Int) / 2 ^ a) 1 == 0) = !s.testBit a := by decide +kernel

end Go.Proofs.Ytfnjpbjlikajbaa
