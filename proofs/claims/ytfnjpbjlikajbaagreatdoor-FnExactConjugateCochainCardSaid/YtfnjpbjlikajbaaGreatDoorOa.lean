/- ConjugateCochain: conjugate subgroups as subgroups, and the model. No program here. -/
import Derived.Test.YtfnjpbjlikajbaaGreatDoorUd
import Derived.Test.YtfnjpbjlikajbaaGreatDoorUi
import Derived.Test.YtfnjpbjlikajbaaGreatDoorUs
import Derived.Test.YtfnjpbjlikajbaaGreatDoorRdc
import Derived.Test.YtfnjpbjlikajbaaGreatDoorInc
namespace Go.Proofs.YtfnjpbjlikajbaaGreatDoor
open Go.RowKit

section
variable {t : List (List Int)} {c : Nat} (hg : IsGrp t) (hc : c < t.length)
include hg hc
theorem iv_left : mul t (iv t c) c = 0 := by
  obtain ⟨y, hy, h2, h3⟩ := hg.inv_ex hc
  have : y = iv t c := iv_only hg hc hy h2
  subst this
  exact h3
theorem con_back {z : Nat} (hz : z < t.length) : con t (con t z c) (iv t c) = z := by
  have hi := (iv_spec hg hc).1
  have h0 := iv_left hg hc
  have hcz := hg.mul_lt hc hz
  have hx := hg.mul_lt hcz hi
  have hii : iv t (iv t c) = c := (iv_only hg hi hc h0).symm
  unfold con
  rw [hii, hg.mul_assoc hi hx hc, hg.mul_assoc hcz hi hc, h0, hg.mul_zero hcz, ← hg.mul_assoc hi hc hz, h0, hg.zero_mul hz]
theorem con_mul {a b : Nat} (ha : a < t.length) (hb : b < t.length) : mul t (con t a c) (con t b c) = con t (mul t a b) c := by
  have hi := (iv_spec hg hc).1
  have h0 := iv_left hg hc
  have hca := hg.mul_lt hc ha
  have hcb := hg.mul_lt hc hb
  unfold con
  rw [← hg.mul_assoc (hg.mul_lt hca hi) hcb hi, hg.mul_assoc hca hi hcb, ← hg.mul_assoc hi hc hb, h0, hg.zero_mul hb, hg.mul_assoc hc ha hb]
theorem con_zero : con t 0 c = 0 := by
  unfold con
  rw [hg.mul_zero hc, (iv_spec hg hc).2]
end

theorem cjL_els {t : List (List Int)} {xs : List Int} {c : Nat} : elsL (cjL t xs c) = elN (cjS t xs c) := by
  unfold elsL cjL elI
  rw [List.map_map]
  exact (List.map_congr_left (fun a _ => by simp)).trans (List.map_id _)

theorem cjL_nd {t : List (List Int)} {xs : List Int} {c : Nat} : (elsL (cjL t xs c)).Nodup := by
  rw [cjL_els]
  exact List.Nodup.sublist List.filter_sublist List.nodup_range
section
variable {t : List (List Int)} {xs : List Int} {c : Nat} (h : SubX t xs) (hc : c < t.length)
include h hc
theorem cjL_mem {x : Nat} : x ∈ elsL (cjL t xs c) ↔ ∃ z ∈ elsL xs, x = con t z c := by
  rw [cjL_els, mem_elN8, cjS, bitsK_bit, decide_eq_true_eq]
  constructor
  · rintro ⟨-, i, hi, e⟩
    rw [conL_nth hi, Int.toNat_natCast] at e
    exact ⟨xN xs i, xN_mem hi, e.symm⟩
  · rintro ⟨z, hz, rfl⟩
    obtain ⟨i, hi, e⟩ := h.ex hz
    refine ⟨Nat.lt_of_lt_of_le (con_lt h.g (h.s.lt z hz) hc) h.g.n8, i, hi, ?_⟩
    rw [conL_nth hi, Int.toNat_natCast, e, Int.toNat_natCast]
theorem cjL_len : (cjL t xs c).length = xs.length := by
  have h1 : (elsL (cjL t xs c)).length ≤ ((elsL xs).map fun z => con t z c).length := List.Nodup.length_le_of_subset (cjL_nd) fun x hx => by
    obtain ⟨z, hz, rfl⟩ := (cjL_mem h hc).1 hx
    exact List.mem_map.2 ⟨z, hz, rfl⟩
  have h2 : (elsL xs).length ≤ ((elsL (cjL t xs c)).map fun x => con t x (iv t c)).length := List.Nodup.length_le_of_subset h.s.nd fun z hz =>
    List.mem_map.2 ⟨con t z c, (cjL_mem h hc).2 ⟨z, hz, rfl⟩, con_back h.g hc (h.s.lt z hz)⟩
  rw [List.length_map, elsL_len, elsL_len] at h1 h2
  omega
theorem cjL_sub : SubX t (cjL t xs c) := by
  have hlt : ∀ b ∈ elsL (cjL t xs c), b < t.length := fun b hb => by
    obtain ⟨z, hz, rfl⟩ := (cjL_mem h hc).1 hb
    exact con_lt h.g (h.s.lt z hz) hc
  refine ⟨h.g, ?_, hlt, cjL_nd, (cjL_mem h hc).2 ⟨0, h.s.z, (con_zero h.g hc).symm⟩, fun a ha b hb => ?_⟩
  · have hnth : ∀ i, i < (cjL t xs c).length → ∃ hi : i < (elN (cjS t xs c)).length, nth (cjL t xs c) i = ((elN (cjS t xs c))[i] : Int) := fun i hi => by
      have hi' : i < (elN (cjS t xs c)).length := by rw [cjL, elI_len] at hi; exact hi
      exact ⟨hi', by simp [nth, cjL, elI, hi']⟩
    refine setB_true.2 ⟨fun i hi => ?_, fun i h0 hi => ?_⟩
    · obtain ⟨hi', e⟩ := hnth i hi
      have := hlt (elN (cjS t xs c))[i] (by rw [cjL_els]; exact List.getElem_mem hi')
      rw [e]
      omega
    · obtain ⟨hi', e⟩ := hnth i hi
      obtain ⟨hi'', e'⟩ := hnth (i - 1) (by omega)
      have hp : (elN (cjS t xs c)).Pairwise (· < ·) := List.Pairwise.sublist List.filter_sublist List.pairwise_lt_range
      have := List.pairwise_iff_getElem.1 hp (i - 1) i hi'' hi' (by omega)
      rw [e, e']
      omega
  · obtain ⟨z, hz, rfl⟩ := (cjL_mem h hc).1 ha
    obtain ⟨y, hy, rfl⟩ := (cjL_mem h hc).1 hb
    exact (cjL_mem h hc).2 ⟨mul t z y, h.s.mul z hz y hy, con_mul h.g hc (h.s.lt z hz) (h.s.lt y hy)⟩
theorem cjL_back {x : Nat} (hx : x < xs.length) : con t (xN (cjL t xs c) x) (iv t c) ∈ elsL xs := by
  obtain ⟨z, hz, e⟩ := (cjL_mem h hc).1 (xN_mem (show x < (cjL t xs c).length by rw [cjL_len h hc]; exact hx))
  rw [e, con_back h.g hc (h.s.lt z hz)]
  exact hz
end

/-- Where a conjugation leads the number of an element of the conjugate subgroup. -/
noncomputable def cjV (t : List (List Int)) (xs : List Int) (c x : Nat) : Nat := plN xs (con t (xN (cjL t xs c) x) (iv t c))
theorem cjV_lt {t : List (List Int)} {xs : List Int} {c x : Nat} (h : SubX t xs) (hc : c < t.length) (hx : x < xs.length) : cjV t xs c x < xs.length := (h.pl (cjL_back h hc hx)).1

/-- The code of a cochain of a subgroup's module, and elements. -/
noncomputable def scC (t : List (List Int)) (m : Int) (us xs : List Int) (n : Int) (fs es : List Int) : Int := if mgE t m us xs es = 0 then (if cocB xs.length m n fs = true then 0 else 1) else mgE t m us xs es
noncomputable def cjC (t : List (List Int)) (m : Int) (us xs : List Int) (n : Int) (fs : List Int) (c : Int) : Int := if mgE t m us xs [c] = 0 then (if cocB xs.length m n fs = true then 0 else 1) else mgE t m us xs [c]
noncomputable def qConjugateCochain0 (t : List (List Int)) (m : Int) (us xs : List Int) (n : Int) (fs : List Int) (c : Int) : Int := if cjC t m us xs n fs c = 0 then n else 0
noncomputable def yConjugateCochain0 (t : List (List Int)) (m : Int) (us xs : List Int) (n : Int) (fs : List Int) (c : Int) : List Int := if cjC t m us xs n fs c = 0 then ledY m.toNat (nth us c.toNat) (pbY (fun x => (cjV t xs c.toNat x : Int)) fs xs.length xs.length n.toNat) else []
noncomputable def qConjugateCochain1 (t : List (List Int)) (m : Int) (us xs : List Int) (n : Int) (fs : List Int) (c : Int) : Int := cjC t m us xs n fs c
section
variable {t : List (List Int)} {m n c : Int} {us xs fs : List Int}
theorem cj_no {z : Int} (h : cjC t m us xs n fs c = z) (hz : z ≠ 0) : qConjugateCochain0 t m us xs n fs c = 0 ∧ yConjugateCochain0 t m us xs n fs c = [] ∧ qConjugateCochain1 t m us xs n fs c = z := by simp [qConjugateCochain0, yConjugateCochain0, qConjugateCochain1, h, hz]
theorem cj_yes {M d k : Nat} (h : cjC t (M : Int) us xs (d : Int) fs (k : Int) = 0) : qConjugateCochain0 t (M : Int) us xs (d : Int) fs (k : Int) = (d : Int) ∧ yConjugateCochain0 t (M : Int) us xs (d : Int) fs (k : Int) = ledY M (nth us k) (pbY (fun x => (cjV t xs k x : Int)) fs xs.length xs.length d) ∧ qConjugateCochain1 t (M : Int) us xs (d : Int) fs (k : Int) = 0 := by
  simp only [qConjugateCochain0, yConjugateCochain0, qConjugateCochain1, h, if_true, Int.toNat_natCast, and_self]
theorem cjC_err {z : Int} (h : mgE t m us xs [c] = z) (hz : z ≠ 0) : cjC t m us xs n fs c = z := by rw [cjC, h, if_neg hz]
theorem cjC_no (h : mgE t m us xs [c] = 0) (hb : cocB xs.length m n fs = false) : cjC t m us xs n fs c = 1 := by rw [cjC, h, if_pos rfl, hb, if_neg Bool.false_ne_true]
theorem cjC_yes (h : mgE t m us xs [c] = 0) (hb : cocB xs.length m n fs = true) : cjC t m us xs n fs c = 0 := by rw [cjC, h, if_pos rfl, hb, if_pos rfl]
/-- What the code 0 says. -/
theorem mgE_zero {es : List Int} (h : mgE t m us xs es = 0) : ∃ M : Nat, m = (M : Int) ∧ ModF t M us ∧ SubX t xs ∧ belowB (t.length : Int) es = true := by
  unfold mgE at h
  split at h
  · rename_i hg
    obtain ⟨M, rfl, hMF⟩ := gmB_f hg
    exact ⟨M, rfl, hMF, subX_code h, (sgC_zero h).2.2.1⟩
  · cases h
theorem conjugateCochain_small0 (t : List (List Int)) (m : Int) (us xs : List Int) (n : Int) (fs : List Int) (c : Int) : (yConjugateCochain0 t m us xs n fs c).length ≤ 1048576 := by
  unfold yConjugateCochain0
  split
  · rename_i h
    unfold cjC at h
    split at h
    · rename_i h1
      split at h
      · rename_i h2
        obtain ⟨M, rfl, hMF, hs, -⟩ := mgE_zero h1
        obtain ⟨h0, h3, -, -⟩ := cocB_yes h2
        rw [ledY_len, pbY_len]
        have := cellsN_le hs.len8 (show n.toNat ≤ 4 by omega)
        omega
      · cases h
    · rename_i h1
      exact absurd h h1
  · simp
end

end Go.Proofs.YtfnjpbjlikajbaaGreatDoor
