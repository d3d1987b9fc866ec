/- A region that draws its order, walked by a relation that each of its operations keeps, in whatever order they come: no order is told apart. -/
import Derived.Orders
import Derived.Test.YtalejhbdbclfaaaDoorBa
namespace Go.Proofs.YtalejhbdbclfaaaDoor
open Go.RowKit

/-- How many of the first n are not done. -/
def undone (n : Nat) (done : Array Bool) : Nat := (List.range n).countP fun j => !done.getD j true
theorem undone_set {n j : Nat} {done : Array Bool} (hj : j < n) (h : done.getD j true = false) : undone n (done.setIfInBounds j true) < undone n done := by
  unfold undone
  have hs : j < done.size := by
    rcases Nat.lt_or_ge j done.size with h' | h'
    · exact h'
    · simp [Array.getD, Nat.not_lt.2 h'] at h
  induction n with
  | zero => omega
  | succ n ih =>
    rw [List.range_succ, List.countP_append, List.countP_append]
    have hle : ∀ m, (List.range m).countP (fun i => !(done.setIfInBounds j true).getD i true) ≤ (List.range m).countP fun i => !done.getD i true := fun m => List.countP_mono_left fun i _ hi => by
      by_cases hij : j = i
      · subst hij
        simp [Array.getD, hs] at hi
      · rwa [getD_set_ne true hij] at hi
    by_cases hjn : j = n
    · subst hjn
      have h1 := hle j
      have h2 : [j].countP (fun i => !(done.setIfInBounds j true).getD i true) = 0 := by simp [Array.getD, hs]
      have h3 : [j].countP (fun i => !done.getD i true) = 1 := by rw [List.countP_singleton, h]; rfl
      omega
    · have h1 := ih (by omega)
      have h2 : [n].countP (fun i => !(done.setIfInBounds j true).getD i true) ≤ [n].countP fun i => !done.getD i true := List.countP_mono_left fun i _ hi => by
        by_cases hij : j = i
        · subst hij
          simp [Array.getD, hs] at hi
        · rwa [getD_set_ne true hij] at hi
      omega

section
variable {P : Program} {md : Region.Mode} {ops : Array Oper} {Q : Exit → Act → World → Prop} {S : Array Bool → Act → World → Prop}
theorem wpAny_inv (hstep : ∀ done a w j, S done a w → j < ops.size → j ∈ Region.ready md ops done → wpOp P ops Q j (S (done.setIfInBounds j true)) a w)
    (hend : ∀ done a w, S done a w → Region.ready md ops done = [] → Q .normal a w) : ∀ (k : Nat) (done : Array Bool) (a : Act) (w : World), S done a w → done.size = ops.size → undone ops.size done ≤ k → wpAny P md ops Q k done a w
  | 0, done, a, w, hS, hz, hk => by
    have hr : Region.ready md ops done = [] := by
      rw [List.eq_nil_iff_forall_not_mem]
      intro j hj
      obtain ⟨hu, oj, hoj, _⟩ := mem_ready.1 hj
      have := undone_set (n := ops.size) (Array.getElem?_eq_some_iff.1 hoj).1 hu
      omega
    exact ⟨hr, hend _ _ _ hS hr⟩
  | k + 1, done, a, w, hS, hz, hk => ⟨fun hr => hend _ _ _ hS hr, fun j hj => by
    obtain ⟨hu, oj, hoj, _⟩ := mem_ready.1 hj
    have hjs := (Array.getElem?_eq_some_iff.1 hoj).1
    have := undone_set (n := ops.size) hjs hu
    exact wpOp_mono (fun a' w' h' => wpAny_inv hstep hend k _ a' w' h' (by simpa using hz) (by omega)) (hstep done a w j hS hjs hj)⟩
theorem region_inv {id : Nat} {a : Act} {w : World} (S : Array Bool → Act → World → Prop) (hm : P.follows .mixedOrders = true) (h0 : S (Array.replicate ops.size false) a w.drew)
    (hstep : ∀ done a w j, S done a w → j < ops.size → j ∈ Region.ready .any ops done → wpOp P ops Q j (S (done.setIfInBounds j true)) a w)
    (hend : ∀ done a w, S done a w → Region.ready .any ops done = [] → Q .normal a w) : (Code.region id ops true).wp P Q a w :=
  wp_region_any hm (wpAny_inv hstep hend _ _ _ _ h0 (by simp) (by unfold undone; exact Nat.le_trans List.countP_le_length (by simp)))
end

end Go.Proofs.YtalejhbdbclfaaaDoor
