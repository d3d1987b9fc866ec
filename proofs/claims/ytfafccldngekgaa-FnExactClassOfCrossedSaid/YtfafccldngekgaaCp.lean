/- slices.CompactFunc of rows of int64 by slices.Equal. -/
import Derived.Lib.SliceRun
import Derived.Test.YtfafccldngekgaaLd
namespace Go.Proofs.Ytfafccldngekgaa
open Go.RowKit

/-- Of the first X rows kk were kept, those at pos. -/
structure CompI (R : Nat → List Int) (X kk : Nat) (pos : Nat → Nat) : Prop where
  pos1 : 1 ≤ kk
  le : kk ≤ X
  bound : ∀ q, q < kk → pos q < X
  last : R (pos (kk - 1)) = R (X - 1)
  step : ∀ q, q + 1 < kk → pos q < pos (q + 1) ∧ R (pos q) ≠ R (pos (q + 1))
  cover : ∀ i, i < X → ∃ q, q < kk ∧ R i = R (pos q)
theorem CompI.skip {R : Nat → List Int} {X kk : Nat} {pos : Nat → Nat} (h : CompI R X kk pos) (he : R X = R (X - 1)) : CompI R (X + 1) kk pos where
  pos1 := h.pos1
  le := Nat.le_succ_of_le h.le
  bound q hq := Nat.lt_succ_of_lt (h.bound q hq)
  last := by rw [h.last, Nat.add_sub_cancel, he]
  step := h.step
  cover i hi := by
    rcases Nat.lt_or_ge i X with h1 | h1
    · exact h.cover i h1
    · obtain rfl : i = X := by omega
      exact ⟨kk - 1, by have := h.pos1; omega, by rw [he, h.last]⟩
theorem CompI.keep {R : Nat → List Int} {X kk : Nat} {pos : Nat → Nat} (h : CompI R X kk pos) (hn : R X ≠ R (X - 1)) : CompI R (X + 1) (kk + 1) (fun q => if q = kk then X else pos q) where
  pos1 := Nat.le_add_left 1 kk
  le := Nat.succ_le_succ h.le
  bound q hq := by
    show (if q = kk then X else pos q) < X + 1
    split
    · exact Nat.lt_succ_self X
    · exact Nat.lt_succ_of_lt (h.bound q (by omega))
  last := by simp
  step q hq := by
    have h1 := h.pos1
    by_cases hk : q + 1 = kk
    · have hl := h.last
      rw [← hk, Nat.add_sub_cancel] at hl
      show (if q = kk then X else pos q) < (if q + 1 = kk then X else pos (q + 1)) ∧ R (if q = kk then X else pos q) ≠ R (if q + 1 = kk then X else pos (q + 1))
      rw [if_neg (by omega), if_pos hk]
      exact ⟨h.bound q (by omega), by rw [hl]; exact Ne.symm hn⟩
    · show (if q = kk then X else pos q) < (if q + 1 = kk then X else pos (q + 1)) ∧ R (if q = kk then X else pos q) ≠ R (if q + 1 = kk then X else pos (q + 1))
      rw [if_neg (by omega), if_neg hk]
      exact h.step q (by omega)
  cover i hi := by
    rcases Nat.lt_or_ge i X with h1 | h1
    · obtain ⟨q, hq, he⟩ := h.cover i h1
      exact ⟨q, Nat.lt_succ_of_lt hq, by rw [if_neg (by omega)]; exact he⟩
    · obtain rfl : i = X := by omega
      exact ⟨kk, Nat.lt_succ_self kk, by rw [if_pos rfl]⟩
theorem CompI.start {R : Nat → List Int} {n : Nat} (hn : 1 ≤ n) (h : ∀ i, i + 1 < n → R i ≠ R (i + 1)) : CompI R n n id where
  pos1 := hn
  le := Nat.le_refl _
  bound _ hq := hq
  last := rfl
  step q hq := ⟨Nat.lt_succ_self q, h q hq⟩
  cover i hi := ⟨i, hi, rfl⟩

theorem enters_eql : ∀ args w, (callFunc 114 args).run Try.prog w = .ok (.enter 114 args) w := enters_of Try.func114 (by kernel_rfl) rfl

end Go.Proofs.Ytfafccldngekgaa
