/- Chapter 7: the group of a subgroup, as a table. No program here. -/
import Derived.Test.YtalejhbdbclfaaaDoorUb
import Derived.Test.YtalejhbdbclfaaaDoorTb
namespace Go.Proofs.YtalejhbdbclfaaaDoor
open Go.RowKit

theorem asc_lt {xs : List Int} (h : ascP xs xs.length) {i : Nat} : ∀ {j : Nat}, i < j → j < xs.length → nth xs i < nth xs j
  | 0, h1, _ => absurd h1 (by omega)
  | j + 1, h1, h2 => by
    have h3 := h (j + 1) (by omega) h2
    rw [Nat.add_sub_cancel] at h3
    rcases Nat.lt_or_ge i j with h4 | h4
    · have := asc_lt h h4 (by omega)
      omega
    · obtain rfl : i = j := by omega
      exact h3
/-- The number i of a list, as an element; the place of an element. -/
def xN (xs : List Int) (i : Nat) : Nat := (nth xs i).toNat
open Classical in
noncomputable def plN (xs : List Int) (z : Nat) : Nat := if h : ∃ i, i < xs.length ∧ nth xs i = (z : Int) then Classical.choose h else 0
/-- The product of two numbers in the group of a subgroup; its table. -/
noncomputable def grV (t : List (List Int)) (xs : List Int) (i j : Nat) : Nat := plN xs (mul t (xN xs i) (xN xs j))
noncomputable def grT (t : List (List Int)) (xs : List Int) : List (List Int) := mkT xs.length xs.length fun i j => (grV t xs i j : Int)
theorem grT_len (t : List (List Int)) (xs : List Int) : (grT t xs).length = xs.length := mkT_len ..

theorem xN_mem {xs : List Int} {i : Nat} (hi : i < xs.length) : xN xs i ∈ elsL xs := List.mem_map.2 ⟨xs[i], List.getElem_mem hi, by unfold xN; rw [show nth xs i = xs[i] by simp [nth, hi]]⟩
theorem grT_ent {t : List (List Int)} {xs : List Int} {i j : Nat} (hi : i < xs.length) (hj : j < xs.length) : ent (grT t xs) i j = (grV t xs i j : Int) := mkT_ent hi hj
theorem grT_mul {t : List (List Int)} {xs : List Int} {i j : Nat} (hi : i < xs.length) (hj : j < xs.length) : mul (grT t xs) i j = grV t xs i j := by
  have := grT_ent (t := t) hi hj
  unfold ent at this
  unfold mul
  rw [this, Int.toNat_natCast]
/-- An ascending list that is a subgroup. -/
structure SubX (t : List (List Int)) (xs : List Int) : Prop where
  g : IsGrp t
  b : setB t.length xs = true
  s : SubL t (elsL xs)
theorem subX_of {t : List (List Int)} {xs : List Int} (hg : IsGrp t) (hb : setB t.length xs = true) (h : subB t (bitsK xs xs.length) = true) : SubX t xs := ⟨hg, hb, subL_of hg hb h⟩
theorem subX_code {t : List (List Int)} {xs es : List Int} (h : sgC t xs es = 0) : SubX t xs := let ⟨h1, h2, _, h4⟩ := sgC_zero h; subX_of h1 h2 h4

section
variable {t : List (List Int)} {xs : List Int} (h : SubX t xs)
include h
theorem SubX.rng {i : Nat} (hi : i < xs.length) : 0 ≤ nth xs i ∧ nth xs i < t.length := (setB_true.1 h.b).1 i hi
theorem SubX.nat {i : Nat} (hi : i < xs.length) : nth xs i = (xN xs i : Int) ∧ xN xs i < t.length := by
  have := h.rng hi
  unfold xN
  omega
theorem SubX.ex {z : Nat} (hz : z ∈ elsL xs) : ∃ i, i < xs.length ∧ nth xs i = (z : Int) := by
  obtain ⟨y, hy, rfl⟩ := List.mem_map.1 hz
  obtain ⟨i, hi, rfl⟩ := List.getElem_of_mem hy
  have h1 := h.rng hi
  have h2 : nth xs i = xs[i] := by simp [nth, hi]
  rw [h2] at h1
  exact ⟨i, hi, by rw [h2]; omega⟩
theorem SubX.pl {z : Nat} (hz : z ∈ elsL xs) : plN xs z < xs.length ∧ nth xs (plN xs z) = (z : Int) := by
  have he := h.ex hz
  unfold plN
  rw [dif_pos he]
  exact Classical.choose_spec he
theorem SubX.inj {i j : Nat} (hi : i < xs.length) (hj : j < xs.length) (e : nth xs i = nth xs j) : i = j := by
  have ha := (setB_true.1 h.b).2
  rcases Nat.lt_trichotomy i j with h1 | h1 | h1
  · have := asc_lt ha h1 hj
    omega
  · exact h1
  · have := asc_lt ha h1 hi
    omega
theorem SubX.x_pl {z : Nat} (hz : z ∈ elsL xs) : xN xs (plN xs z) = z := by
  unfold xN
  rw [(h.pl hz).2, Int.toNat_natCast]
theorem SubX.pl_x {i : Nat} (hi : i < xs.length) : plN xs (xN xs i) = i := by
  have h1 := h.pl (xN_mem hi)
  exact h.inj h1.1 hi (by rw [h1.2, ← (h.nat hi).1])
theorem SubX.before {z j : Nat} (hz : z ∈ elsL xs) (hj : j < plN xs z) : nth xs j ≠ (z : Int) := fun e => by
  have h1 := h.pl hz
  have := h.inj (by omega) h1.1 (e.trans h1.2.symm)
  omega
theorem SubX.pos : 0 < xs.length := by
  have := List.length_pos_of_mem h.s.z
  rwa [elsL_len] at this
theorem SubX.len : xs.length ≤ t.length := by
  have := List.Nodup.length_le_of_subset h.s.nd (l₂ := List.range t.length) fun x hx => List.mem_range.2 (h.s.lt x hx)
  rw [elsL_len] at this
  simpa using this
theorem SubX.len8 : xs.length ≤ 8 := Nat.le_trans h.len h.g.n8
theorem SubX.first : xN xs 0 = 0 := by
  have h1 := h.pl h.s.z
  rcases Nat.eq_zero_or_pos (plN xs 0) with h2 | h2
  · have := h.x_pl h.s.z
    rwa [h2] at this
  · have := asc_lt (setB_true.1 h.b).2 h2 h1.1
    have := (h.rng h.pos).1
    have := h1.2
    omega
theorem SubX.gr_mem {i j : Nat} (hi : i < xs.length) (hj : j < xs.length) : mul t (xN xs i) (xN xs j) ∈ elsL xs := h.s.mul _ (xN_mem hi) _ (xN_mem hj)
theorem SubX.gr_lt {i j : Nat} (hi : i < xs.length) (hj : j < xs.length) : grV t xs i j < xs.length := (h.pl (h.gr_mem hi hj)).1
theorem SubX.x_gr {i j : Nat} (hi : i < xs.length) (hj : j < xs.length) : xN xs (grV t xs i j) = mul t (xN xs i) (xN xs j) := h.x_pl (h.gr_mem hi hj)
theorem SubX.x_inj {i j : Nat} (hi : i < xs.length) (hj : j < xs.length) (e : xN xs i = xN xs j) : i = j := h.inj hi hj (by rw [(h.nat hi).1, (h.nat hj).1, e])
theorem SubX.grp : IsGrp (grT t xs) := by
  refine ⟨by rw [grT_len]; exact h.pos, by rw [grT_len]; exact h.len8, fun a ha => ?_, fun a ha b hb => ?_, fun a ha => ?_, fun a ha b hb c hc => ?_, fun a ha => ?_⟩
  · rw [grT_len] at ha ⊢
    exact mkT_row_len ha
  · rw [grT_len] at ha hb ⊢
    rw [grT_ent ha hb]
    have := h.gr_lt ha hb
    omega
  · rw [grT_len] at ha
    have h1 := (h.nat ha).2
    rw [grT_ent h.pos ha, grT_ent ha h.pos]
    constructor
    · congr 1
      refine h.x_inj (h.gr_lt h.pos ha) ha ?_
      rw [h.x_gr h.pos ha, h.first, h.g.zero_mul h1]
    · congr 1
      refine h.x_inj (h.gr_lt ha h.pos) ha ?_
      rw [h.x_gr ha h.pos, h.first, h.g.mul_zero h1]
  · rw [grT_len] at ha hb hc
    rw [grT_ent ha hb, grT_ent hb hc, Int.toNat_natCast, Int.toNat_natCast]
    have h1 := h.gr_lt ha hb
    have h2 := h.gr_lt hb hc
    rw [grT_ent h1 hc, grT_ent ha h2]
    congr 1
    refine h.x_inj (h.gr_lt h1 hc) (h.gr_lt ha h2) ?_
    rw [h.x_gr h1 hc, h.x_gr ha h2, h.x_gr ha hb, h.x_gr hb hc, h.g.mul_assoc (h.nat ha).2 (h.nat hb).2 (h.nat hc).2]
  · rw [grT_len] at ha ⊢
    obtain ⟨x, hx, h0⟩ := h.s.inv h.g (xN_mem ha)
    have hxN := h.s.lt x hx
    have haN := (h.nat ha).2
    have h1 := h.pl hx
    have h2 := h.x_pl hx
    have h3 : Go.Proofs.YtalejhbdbclfaaaDoor.mul t x (xN xs a) = 0 := by
      obtain ⟨y, hy, h4, h5⟩ := h.g.inv_ex haN
      have := h.g.left_cancel haN hxN hy (h0.trans h4.symm)
      rw [this]
      exact h5
    refine ⟨plN xs x, h1.1, ?_, ?_⟩
    · rw [grT_ent ha h1.1]
      have : grV t xs a (plN xs x) = 0 := by
        refine h.x_inj (h.gr_lt ha h1.1) h.pos ?_
        rw [h.x_gr ha h1.1, h2, h.first, h0]
      rw [this]
      rfl
    · rw [grT_ent h1.1 ha]
      have : grV t xs (plN xs x) a = 0 := by
        refine h.x_inj (h.gr_lt h1.1 ha) h.pos ?_
        rw [h.x_gr h1.1 ha, h2, h.first, h3]
      rw [this]
      rfl
end

end Go.Proofs.YtalejhbdbclfaaaDoor
