/- Map Re Wa Wb in one text. -/
import Derived.Test.YtcdijeeabgmgmaaGreatDoorMnm
import Derived.Test.YtcdijeeabgmgmaaGreatDoorBa
import Derived.Test.YtcdijeeabgmgmaaGreatDoorCel
import Derived.Test.YtcdijeeabgmgmaaGreatDoorFif
/- Maps of modules: the test of one number. -/
namespace Go.Proofs.YtcdijeeabgmgmaaGreatDoor
open Go.RowKit

/-- Is c a map, of M and the units us to N and the units vs? -/
def mapB (c M N : Nat) (us vs : List Int) : Bool := (c * M % N == 0) && (List.range us.length).all fun i => c * im us i % N == c * im vs i % N
section
variable {c M N : Nat} {us vs : List Int}
theorem mapB_mod (h : ¬ c * M % N = 0) : mapB c M N us vs = false := by
  simp [mapB, h]
theorem mapB_at {i : Nat} (hi : i < us.length) (h : ¬ c * im us i % N = c * im vs i % N) : mapB c M N us vs = false := by
  cases hq : mapB c M N us vs
  · rfl
  · simp only [mapB, Bool.and_eq_true, List.all_eq_true, List.mem_range, beq_iff_eq] at hq
    exact absurd (hq.2 i hi) h
theorem mapB_all (h0 : c * M % N = 0) (h : ∀ i, i < us.length → c * im us i % N = c * im vs i % N) : mapB c M N us vs = true := by
  simp only [mapB, Bool.and_eq_true, List.all_eq_true, List.mem_range, beq_iff_eq]
  exact ⟨h0, h⟩
end

/-- All that a round of the test reads. -/
structure MapW (W : World) (g h b o b' o' l c c' : Nat) (M N : Nat) (us vs : List Int) : Prop where
  ha : Has W g 52 #[.int .i64 (M : Int), .slice (some ⟨b, o, none⟩) l c]
  hb : Has W h 52 #[.int .i64 (N : Int), .slice (some ⟨b', o', none⟩) l c']
  x : ∀ k, k < l → W.cell? ⟨b, o + k, none⟩ = some (.int .i64 (im us k : Int))
  y : ∀ k, k < l → W.cell? ⟨b', o' + k, none⟩ = some (.int .i64 (im vs k : Int))

end Go.Proofs.YtcdijeeabgmgmaaGreatDoor

/- ReduceModule: the model's loop. -/
namespace Go.Proofs.YtcdijeeabgmgmaaGreatDoor
open Go.RowKit

end Go.Proofs.YtcdijeeabgmgmaaGreatDoor

/- Chapter 8: reduced units are units; the code of a group, a module and a divisor; the models of InnerModule and OuterModule. -/
namespace Go.Proofs.YtcdijeeabgmgmaaGreatDoor
open Go.RowKit

/-- The units, reduced. -/
def rdL (us : List Int) (K : Nat) : List Int := (List.range us.length).map fun i => ((im us i % K : Nat) : Int)
section
variable {t : List (List Int)} {M K Q : Nat} {us : List Int}
theorem rdL_len : (rdL us K).length = us.length := by simp [rdL]
theorem rdL_nth {i : Nat} (hi : i < us.length) : nth (rdL us K) i = ((im us i % K : Nat) : Int) := by simp [nth, rdL, hi]
theorem rdL_im {i : Nat} (hi : i < us.length) : im (rdL us K) i = im us i % K := by rw [im, rdL_nth hi]; rfl
theorem unit_red {u : Int} (hK : 2 ≤ K) (h : M % K = 0) (hu : unitB (M : Int) u = true) : unitB (K : Int) ((u.toNat % K : Nat) : Int) = true := by
  obtain ⟨h1, h2, h3⟩ := unitB_iff.1 hu
  rw [Int.toNat_natCast] at h3
  have hc : Nat.gcd K u.toNat = 1 := Nat.Coprime.coprime_dvd_left (Nat.dvd_of_mod_eq_zero h) h3
  rw [Nat.gcd_rec] at hc
  have hlt : u.toNat % K < K := Nat.mod_lt _ (by omega)
  have hne : u.toNat % K ≠ 0 := by
    intro h0
    rw [h0, Nat.gcd_zero_left] at hc
    omega
  rw [unitB_iff]
  refine ⟨by omega, by omega, ?_⟩
  rw [Int.toNat_natCast, Int.toNat_natCast, Nat.gcd_comm]
  exact hc
theorem gmB_red (hg : gmB t (M : Int) us = true) (hK : 2 ≤ K) (h : M % K = 0) : gmB t (K : Int) (rdL us K) = true := by
  obtain ⟨hgr, h2, h12, hl, hu, hk⟩ := gmB_true hg
  have hKM : K ≤ M := Nat.le_of_dvd (by omega) (Nat.dvd_of_mod_eq_zero h)
  have hu' : unitsB (K : Int) (rdL us K) = true := by
    rw [unitsB_iff]
    intro i hi
    rw [rdL_len] at hi
    rw [rdL_nth hi]
    exact unit_red hK h (unitsB_iff.1 hu i hi)
  have hr : (decide ((2 : Int) ≤ (K : Int)) && decide ((K : Int) ≤ 12)) = true := by simp; omega
  rw [gmB, grpB_iff.2 hgr, Bool.true_and, modB_keep hr (by rw [rdL_len, hl]) hu', Int.toNat_natCast]
  rw [Int.toNat_natCast] at hk
  refine keepPB_true fun i hi j hj => ?_
  have h0 := keepPB_iff.1 hk i hi j hj
  unfold KeepAtP at h0 ⊢
  have hm := hgr.mul_lt hi hj
  rw [rdL_im (by omega), rdL_im (by omega), rdL_im (by omega), h0]
  unfold umul
  rw [Nat.mod_mod_of_dvd _ (Nat.dvd_of_mod_eq_zero h), Nat.mul_mod]
theorem rdL_in (hK : 0 < K) : InR K (rdL us K) := fun i hi => by
  rw [rdL_len] at hi
  rw [rdL_nth hi]
  have := Nat.mod_lt (im us i) hK
  omega
end

/-- Is k a divisor with an inner and an outer module? -/
def seqB (m k : Int) : Bool := decide (2 ≤ k) && (decide (k < m) && (m.toNat % k.toNat == 0))
/-- What such a divisor gives. -/
structure SeqF (M K Q : Nat) : Prop where
  k2 : 2 ≤ K
  q2 : 2 ≤ Q
  lt : K < M
  dk : M % K = 0
  dq : M % Q = 0
  div : M / K = Q
  mul : Q * K = M
theorem seqB_f {M : Nat} {k : Int} (h : seqB (M : Int) k = true) : ∃ K Q : Nat, k = (K : Int) ∧ SeqF M K Q := by
  simp only [seqB, Bool.and_eq_true, decide_eq_true_eq, beq_iff_eq, Int.toNat_natCast] at h
  obtain ⟨h1, h2, h3⟩ := h
  have e : M / k.toNat * k.toNat = M := Nat.div_mul_cancel (Nat.dvd_of_mod_eq_zero h3)
  obtain ⟨K, rfl⟩ : ∃ K : Nat, k = (K : Int) := ⟨k.toNat, by omega⟩
  rw [Int.toNat_natCast] at e h3
  obtain ⟨Q, hQ⟩ : ∃ Q, M / K = Q := ⟨_, rfl⟩
  rw [hQ] at e
  have hq : 2 ≤ Q := by
    rcases Nat.lt_or_ge Q 2 with h | h
    · have : Q = 0 ∨ Q = 1 := by omega
      rcases this with h0 | h0 <;> rw [h0] at e <;> omega
    · exact h
  exact ⟨K, Q, rfl, by omega, hq, by omega, h3, by rw [← e]; exact Nat.mul_mod_right _ _, hQ, e⟩
theorem seqB_low {m k : Int} (h : k < 2) : seqB m k = false := by simp [seqB]; omega
theorem seqB_high {m k : Int} (h : m ≤ k) : seqB m k = false := by
  have : decide (k < m) = false := by simpa using h
  simp [seqB, this]
theorem seqB_mod {M K : Nat} (h : ¬ M % K = 0) : seqB (M : Int) (K : Int) = false := by simp [seqB, h]
theorem seqB_half {M K : Nat} (h : M < 2 * K) : seqB (M : Int) (K : Int) = false := by
  rcases Bool.eq_false_or_eq_true (seqB (M : Int) (K : Int)) with h' | h'
  · obtain ⟨K', Q, e, hS⟩ := seqB_f h'
    have hm := hS.mul
    have hq := hS.q2
    have : 2 * K' ≤ Q * K' := Nat.mul_le_mul_right _ hq
    omega
  · exact h'
theorem seqB_of {M K Q : Nat} (h : SeqF M K Q) : seqB (M : Int) (K : Int) = true := by
  have h1 := h.k2
  have h2 := h.lt
  simp [seqB, h.dk]
  omega

/-- The code of a group, a module and a divisor. -/
noncomputable def sqC (t : List (List Int)) (m : Int) (us : List Int) (k : Int) : Int := if gmB t m us = true then (if seqB m k = true then 0 else 2) else 1
section
variable {t : List (List Int)} {m k : Int} {us : List Int}
theorem sqC_no (h : gmB t m us = false) : sqC t m us k = 1 := by simp [sqC, h]
theorem sqC_out (h : gmB t m us = true) (h2 : seqB m k = false) : sqC t m us k = 2 := by simp [sqC, h, h2]
theorem sqC_yes (h : gmB t m us = true) (h2 : seqB m k = true) : sqC t m us k = 0 := by simp [sqC, h, h2]
theorem sqC_cases (t : List (List Int)) (m : Int) (us : List Int) (k : Int) : sqC t m us k = 0 ∨ sqC t m us k = 1 ∨ sqC t m us k = 2 := by
  unfold sqC
  split
  · split
    · exact .inl rfl
    · exact .inr (.inr rfl)
  · exact .inr (.inl rfl)
theorem sqC_f (h : sqC t m us k = 0) : ∃ M K Q : Nat, m = (M : Int) ∧ k = (K : Int) ∧ ModF t M us ∧ SeqF M K Q ∧ gmB t (M : Int) us = true ∧ gmB t (K : Int) (rdL us K) = true ∧ gmB t (Q : Int) (rdL us Q) = true := by
  unfold sqC at h
  split at h
  · rename_i hg
    split at h
    · rename_i hs
      obtain ⟨M, rfl, hF⟩ := gmB_f hg
      obtain ⟨K, Q, rfl, hS⟩ := seqB_f hs
      exact ⟨M, K, Q, rfl, rfl, hF, hS, hg, gmB_red hg hS.k2 hS.dk, gmB_red hg hS.q2 hS.dq⟩
    · cases h
  · cases h
end

noncomputable def qInnerModule0 (t : List (List Int)) (m : Int) (us : List Int) (k : Int) : Int := if sqC t m us k = 0 then k else 0
noncomputable def yInnerModule0 (t : List (List Int)) (m : Int) (us : List Int) (k : Int) : List Int := if sqC t m us k = 0 then rdL us k.toNat else []
noncomputable def qInnerModule1 (t : List (List Int)) (m : Int) (us : List Int) (k : Int) : Int := sqC t m us k
noncomputable def qOuterModule0 (t : List (List Int)) (m : Int) (us : List Int) (k : Int) : Int := if sqC t m us k = 0 then ((m.toNat / k.toNat : Nat) : Int) else 0
noncomputable def yOuterModule0 (t : List (List Int)) (m : Int) (us : List Int) (k : Int) : List Int := if sqC t m us k = 0 then rdL us (m.toNat / k.toNat) else []
noncomputable def qOuterModule1 (t : List (List Int)) (m : Int) (us : List Int) (k : Int) : Int := sqC t m us k
section
variable {t : List (List Int)} {m k : Int} {us : List Int}
theorem inn_no {z : Int} (h : sqC t m us k = z) (hz : z ≠ 0) : qInnerModule0 t m us k = 0 ∧ yInnerModule0 t m us k = [] ∧ qInnerModule1 t m us k = z := by simp [qInnerModule0, yInnerModule0, qInnerModule1, h, hz]
theorem inn_yes {K : Nat} (h : sqC t m us (K : Int) = 0) : qInnerModule0 t m us (K : Int) = (K : Int) ∧ yInnerModule0 t m us (K : Int) = rdL us K ∧ qInnerModule1 t m us (K : Int) = 0 := by simp [qInnerModule0, yInnerModule0, qInnerModule1, h]
theorem out_no {z : Int} (h : sqC t m us k = z) (hz : z ≠ 0) : qOuterModule0 t m us k = 0 ∧ yOuterModule0 t m us k = [] ∧ qOuterModule1 t m us k = z := by simp [qOuterModule0, yOuterModule0, qOuterModule1, h, hz]
theorem out_yes {M K Q : Nat} (h : sqC t (M : Int) us (K : Int) = 0) (hq : M / K = Q) : qOuterModule0 t (M : Int) us (K : Int) = (Q : Int) ∧ yOuterModule0 t (M : Int) us (K : Int) = rdL us Q ∧ qOuterModule1 t (M : Int) us (K : Int) = 0 := by
  subst hq
  simp only [qOuterModule0, yOuterModule0, qOuterModule1, h, if_true, Int.toNat_natCast, and_self]
theorem innerModule_small0 (t : List (List Int)) (m : Int) (us : List Int) (k : Int) : (yInnerModule0 t m us k).length ≤ 1048576 := by
  unfold yInnerModule0
  split
  · rename_i h
    obtain ⟨M, K, Q, rfl, rfl, hF, -⟩ := sqC_f h
    rw [rdL_len, hF.len]
    have := hF.g.n8
    omega
  · simp
theorem outerModule_small0 (t : List (List Int)) (m : Int) (us : List Int) (k : Int) : (yOuterModule0 t m us k).length ≤ 1048576 := by
  unfold yOuterModule0
  split
  · rename_i h
    obtain ⟨M, K, Q, rfl, rfl, hF, -⟩ := sqC_f h
    rw [rdL_len, hF.len]
    have := hF.g.n8
    omega
  · simp
end

end Go.Proofs.YtcdijeeabgmgmaaGreatDoor

/- Chapter 8: the specification's contracts of the code, InnerModule and OuterModule. -/
namespace Go.Proofs.YtcdijeeabgmgmaaGreatDoor
open Go.RowKit

/-- What is asked of the end of InnerModule and OuterModule. -/
def SqS (q0 : Int) (y0 : List Int) (q1 : Int) (W : World) (e : Ending) (W' : World) : Prop := ∃ (C0 : Option Addr) (e0 : Nat), e = .returned (.tuple #[.agg #[.int .i64 q0, .slice C0 y0.length e0], .int .i64 q1]) ∧ Ex W W' ∧ OwnL W' W.heap.size W'.heap.size C0 y0
theorem SqS.err {q0 q1 c : Int} {y0 : List Int} {W W' : World} {e : Ending} (h : q0 = 0 ∧ y0 = [] ∧ q1 = c) (he : e = .returned (.tuple #[.agg #[.int .i64 0, .slice none 0 0], .int .i64 c])) (hx : Ex W W') : SqS q0 y0 q1 W e W' :=
  ⟨none, 0, by rw [he, h.1, h.2.1, h.2.2]; rfl, hx, by rw [h.2.1]; exact OwnL.nil _ _ _ (Nat.le_refl _)⟩
theorem SqS.of {q0 q1 m : Int} {y0 ys : List Int} {W W' : World} {e : Ending} {C0 : Option Addr} {e0 : Nat} (h : q0 = m ∧ y0 = ys ∧ q1 = 0) (he : e = .returned (.tuple #[.agg #[.int .i64 m, .slice C0 ys.length e0], .int .i64 0])) (hx : Ex W W') (h0 : OwnL W' W.heap.size W'.heap.size C0 ys) : SqS q0 y0 q1 W e W' :=
  ⟨C0, e0, by rw [he, h.1, h.2.1, h.2.2], hx, by rw [h.2.1]; exact h0⟩

end Go.Proofs.YtcdijeeabgmgmaaGreatDoor
