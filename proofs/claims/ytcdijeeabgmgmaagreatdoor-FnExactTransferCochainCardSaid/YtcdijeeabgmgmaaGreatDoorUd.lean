/- ConjugateSubgroup: both contracts. -/
import Derived.Test.YtcdijeeabgmgmaaGreatDoorSub
import Derived.Test.YtcdijeeabgmgmaaGreatDoorCel
import Derived.Test.YtcdijeeabgmgmaaGreatDoorMvt
import Derived.Test.YtcdijeeabgmgmaaGreatDoorMz
namespace Go.Proofs.YtcdijeeabgmgmaaGreatDoor
open Go.RowKit Go.Shelf

attribute [local go_sem] Oper.semAt_some

/-- The conjugates of the elements of a list, in its order; the same, ascending. -/
noncomputable def conL (t : List (List Int)) (xs : List Int) (c : Nat) : List Int := (List.range xs.length).map fun j => (con t (nth xs j).toNat c : Int)
theorem conL_len (t : List (List Int)) (xs : List Int) (c : Nat) : (conL t xs c).length = xs.length := by simp [conL]
theorem conL_nth {t : List (List Int)} {xs : List Int} {c j : Nat} (h : j < xs.length) : nth (conL t xs c) j = (con t (nth xs j).toNat c : Int) := by simp [nth, conL, h]
theorem conL_in {t : List (List Int)} {xs : List Int} {c : Nat} (hg : IsGrp t) (hc : c < t.length) (hr : ∀ i, i < xs.length → 0 ≤ nth xs i ∧ nth xs i < t.length) : ∀ i, i < (conL t xs c).length → 0 ≤ nth (conL t xs c) i ∧ nth (conL t xs c) i < t.length := fun i hi => by
  rw [conL_len] at hi
  have h := hr i hi
  have := con_lt hg (show (nth xs i).toNat < t.length by omega) hc
  rw [conL_nth hi]
  omega
noncomputable def cjS (t : List (List Int)) (xs : List Int) (c : Nat) : Nat := bitsK (conL t xs c) xs.length
noncomputable def cjL (t : List (List Int)) (xs : List Int) (c : Nat) : List Int := elI (cjS t xs c)
theorem cjS_lt {t : List (List Int)} {xs : List Int} {c : Nat} (hg : IsGrp t) (hc : c < t.length) (hr : ∀ i, i < xs.length → 0 ≤ nth xs i ∧ nth xs i < t.length) : cjS t xs c < 2 ^ t.length :=
  bitsK_lt (conL_in hg hc hr) _ (by rw [conL_len]; exact Nat.le_refl _)
noncomputable def yConjugateSubgroup0 (t : List (List Int)) (xs : List Int) (c : Int) : List Int := if sgC t xs [c] = 0 then cjL t xs c.toNat else []
noncomputable def qConjugateSubgroup1 (t : List (List Int)) (xs : List Int) (c : Int) : Int := sgC t xs [c]
section
variable {t : List (List Int)} {xs : List Int} {c : Int}
theorem cjo_no {z : Int} (h : sgC t xs [c] = z) (hz : z ≠ 0) : yConjugateSubgroup0 t xs c = [] ∧ qConjugateSubgroup1 t xs c = z := by simp [yConjugateSubgroup0, qConjugateSubgroup1, h, hz]
theorem cjo_yes {m : Nat} (h : sgC t xs [(m : Int)] = 0) : yConjugateSubgroup0 t xs (m : Int) = cjL t xs m ∧ qConjugateSubgroup1 t xs (m : Int) = 0 := by simp [yConjugateSubgroup0, qConjugateSubgroup1, h]
theorem elI_len8 {s : Nat} (h : s < 256) : (elI s).length ≤ 8 := by
  have := elN_len s h
  simpa [elI] using this
theorem below_one {N : Nat} (h : belowB (N : Int) [c] = true) : ∃ m : Nat, c = (m : Int) ∧ m < N := by
  have h1 := belowB_inR h 0 (by simp)
  have h2 : nth [c] 0 = c := rfl
  rw [h2] at h1
  exact ⟨c.toNat, by omega, by omega⟩
theorem conjugateSubgroup_small0 (t : List (List Int)) (xs : List Int) (c : Int) : (yConjugateSubgroup0 t xs c).length ≤ 1048576 := by
  unfold yConjugateSubgroup0
  split
  · rename_i h
    obtain ⟨hg, hb, he, -⟩ := sgC_zero h
    obtain ⟨m, rfl, hm⟩ := below_one he
    have := elI_len8 (lt256 hg.n8 (cjS_lt hg hm (setB_true.1 hb).1))
    unfold cjL
    rw [Int.toNat_natCast]
    omega
  · simp
end

theorem wrap_pow : ∀ z : Nat, z < 8 → IntKind.i64.wrap ((2 : Int) ^ z) = wrap64 (2 ^ z) := by decide +kernel
theorem below1 (N : Nat) (c : Int) : belowB (N : Int) [c] = movB N c := by
  unfold belowB movB inB
  simp only [List.all_cons, List.all_nil, Bool.and_true]
  rw [Bool.eq_iff_iff]
  simp only [Bool.and_eq_true, decide_eq_true_eq]
  omega

end Go.Proofs.YtcdijeeabgmgmaaGreatDoor
