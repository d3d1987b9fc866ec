/- ClassOfCrossed: the least of all sums is the class. -/
import Derived.Test.YtfafccldngekgaaKl
import Derived.Test.YtfafccldngekgaaWt
import Derived.Test.YtfafccldngekgaaLc
namespace Go.Proofs.Ytfafccldngekgaa
open Go.RowKit

theorem shL_wt {N M m : Nat} {us fs : List Int} (hl : fs.length = N) : wtL M fs 1 (prinL N M us m) = shL M us fs m fs.length := by
  unfold wtL shL
  refine List.map_congr_left fun x hx => ?_
  have hx2 : x < N := by have := List.mem_range.1 hx; omega
  unfold wtX clX
  rw [nth_prinL hx2, Int.one_mul]
theorem cls_least (M : Nat) (us fs : List Int) : ∀ k, (∀ m, m < k → 0 ≤ lexC (shL M us fs m fs.length) (cls M us fs k)) ∧ 0 ≤ lexC fs (cls M us fs k) ∧ (cls M us fs k = fs ∨ ∃ m, m < k ∧ cls M us fs k = shL M us fs m fs.length)
  | 0 => ⟨fun m hm => by omega, by rw [cls, lexC_same]; exact Int.le_refl 0, .inl rfl⟩
  | k + 1 => by
    obtain ⟨h1, h2, h3⟩ := cls_least M us fs k
    have hle : (shL M us fs k fs.length).length = (cls M us fs k).length := by rw [shL_len, cls_len]
    have hd := lexC_lexB _ _ hle
    cases hb : lexB (shL M us fs k fs.length) (cls M us fs k) with
    | true =>
      rw [cls_yes hb]
      rw [hb] at hd
      have hlt : lexC (shL M us fs k fs.length) (cls M us fs k) < 0 := by simpa using hd
      have hup : ∀ xs, 0 ≤ lexC xs (cls M us fs k) → 0 ≤ lexC xs (shL M us fs k fs.length) := fun xs hx => by
        rcases Int.lt_or_le (lexC xs (shL M us fs k fs.length)) 0 with h | h
        · have := lexC_trans _ _ _ h hlt
          omega
        · exact h
      refine ⟨fun m hm => ?_, hup _ h2, .inr ⟨k, Nat.lt_succ_self k, rfl⟩⟩
      rcases Nat.lt_or_ge m k with h | h
      · exact hup _ (h1 m h)
      · obtain rfl : m = k := by omega
        rw [lexC_same]
        exact Int.le_refl 0
    | false =>
      rw [cls_no hb]
      rw [hb] at hd
      have hge : ¬ lexC (shL M us fs k fs.length) (cls M us fs k) < 0 := by simpa using hd
      refine ⟨fun m hm => ?_, h2, ?_⟩
      · rcases Nat.lt_or_ge m k with h | h
        · exact h1 m h
        · obtain rfl : m = k := by omega
          omega
      · rcases h3 with h3 | ⟨m, hm, h3⟩
        · exact .inl h3
        · exact .inr ⟨m, Nat.lt_succ_of_lt hm, h3⟩
/-- The principal map of 0 turns nothing. -/
theorem shL_zero {M : Nat} {us fs : List Int} (hr : InR M fs) (h0 : ∀ x, x < fs.length → prinX M us 0 x = 0) : shL M us fs 0 fs.length = fs := by
  refine eq_of_nth (by rw [shL_len]) fun j hj => ?_
  rw [shL_len] at hj
  have he : nth (shL M us fs 0 fs.length) j = clX M us fs 0 j := by simp [nth, shL, hj]
  obtain ⟨h1, h2⟩ := im_eq hr hj
  rw [he, clX, h0 j hj, h1, Int.add_zero]
  exact Int.emod_eq_of_lt (by omega) (by omega)
/-- Whatever sum no sum stands before is the class. -/
theorem cls_eq {M k : Nat} {us fs : List Int} (hM : 0 < M) (hz : shL M us fs 0 fs.length = fs) (hk : k < M) (h : ∀ m, m < M → 0 ≤ lexC (shL M us fs m fs.length) (shL M us fs k fs.length)) : shL M us fs k fs.length = cls M us fs M := by
  obtain ⟨h1, _, h3⟩ := cls_least M us fs M
  have h4 : ∃ m, m < M ∧ cls M us fs M = shL M us fs m fs.length := by
    rcases h3 with h3 | h3
    · exact ⟨0, hM, by rw [h3, hz]⟩
    · exact h3
  obtain ⟨m, hm, he⟩ := h4
  have a := h1 k hk
  have b := h m hm
  rw [← he, lexC_swap] at b
  exact lexC_zero (by omega)

end Go.Proofs.Ytfafccldngekgaa
