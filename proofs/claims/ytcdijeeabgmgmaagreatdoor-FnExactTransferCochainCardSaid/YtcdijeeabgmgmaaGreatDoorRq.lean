/- RestrictModule: both contracts. -/
import Derived.Test.YtcdijeeabgmgmaaGreatDoorMw
import Derived.Test.YtcdijeeabgmgmaaGreatDoorMnm
import Derived.Test.YtcdijeeabgmgmaaGreatDoorBa
import Derived.Test.YtcdijeeabgmgmaaGreatDoorCel
import Derived.Test.YtcdijeeabgmgmaaGreatDoorHm
namespace Go.Proofs.YtcdijeeabgmgmaaGreatDoor
open Go.RowKit

/-- The code of a restriction. -/
noncomputable def resR (t u : List (List Int)) (xs : List Int) (m : Int) (us : List Int) : Int := if (grpB t && gmB u m us) = true then (if (decide (xs.length = t.length) && inRB u.length xs) = true then (if homB t u xs = true then 0 else 5) else 2) else 1
noncomputable def qRestrictModule0 (t u : List (List Int)) (xs : List Int) (m : Int) (us : List Int) : Int := if resR t u xs m us = 0 then m else 0
noncomputable def yRestrictModule0 (t u : List (List Int)) (xs : List Int) (m : Int) (us : List Int) : List Int := if resR t u xs m us = 0 then (List.range xs.length).map fun i => nth us (im xs i) else []
noncomputable def qRestrictModule1 (t u : List (List Int)) (xs : List Int) (m : Int) (us : List Int) : Int := resR t u xs m us
section
variable {t u : List (List Int)} {m : Int} {xs us : List Int}
theorem rs_err {c : Int} (h : resR t u xs m us = c) (hc : c ≠ 0) : qRestrictModule0 t u xs m us = 0 ∧ yRestrictModule0 t u xs m us = [] ∧ qRestrictModule1 t u xs m us = c := by simp [qRestrictModule0, yRestrictModule0, qRestrictModule1, h, hc]
theorem rs_yes (h : resR t u xs m us = 0) : qRestrictModule0 t u xs m us = m ∧ yRestrictModule0 t u xs m us = (List.range xs.length).map (fun i => nth us (im xs i)) ∧ qRestrictModule1 t u xs m us = 0 := by simp [qRestrictModule0, yRestrictModule0, qRestrictModule1, h]
theorem resR_t (h : grpB t = false) : resR t u xs m us = 1 := by simp [resR, h]
theorem resR_m (h : gmB u m us = false) : resR t u xs m us = 1 := by simp [resR, h]
theorem resR_l (h : grpB t = true) (h2 : gmB u m us = true) (h3 : ¬ xs.length = t.length) : resR t u xs m us = 2 := by simp [resR, h, h2, h3]
theorem resR_r (h : grpB t = true) (h2 : gmB u m us = true) (h3 : inRB u.length xs = false) : resR t u xs m us = 2 := by simp [resR, h, h2, h3]
theorem resR_h (h : grpB t = true) (h2 : gmB u m us = true) (h3 : xs.length = t.length) (h4 : inRB u.length xs = true) (h5 : homB t u xs = false) : resR t u xs m us = 5 := by simp [resR, h, h2, h3, h4, h5]
theorem resR_y (h : grpB t = true) (h2 : gmB u m us = true) (h3 : xs.length = t.length) (h4 : inRB u.length xs = true) (h5 : homB t u xs = true) : resR t u xs m us = 0 := by simp [resR, h, h2, h3, h4, h5]
theorem inRB_true {n : Nat} (h : inRB n xs = true) : InR n xs := by simpa [inRB] using h
theorem inRB_false {n : Nat} (h : inRB n xs = false) : ¬ InR n xs := by simpa [inRB] using h
theorem restrictModule_small0 (t u : List (List Int)) (xs : List Int) (m : Int) (us : List Int) : (yRestrictModule0 t u xs m us).length ≤ 1048576 := by
  unfold yRestrictModule0
  split
  · rename_i h
    have h3 : (decide (xs.length = t.length) && inRB u.length xs) = true := by
      cases hc : (decide (xs.length = t.length) && inRB u.length xs)
      · exfalso
        simp only [resR, hc] at h
        split at h <;> simp at h
      · rfl
    have h1 : (grpB t && gmB u m us) = true := by
      cases hc : (grpB t && gmB u m us)
      · exfalso
        simp [resR, hc] at h
      · rfl
    simp only [Bool.and_eq_true, decide_eq_true_eq] at h1 h3
    have := (grpB_iff.1 h1.1).n8
    simp
    omega
  · simp
end

/-- What is asked of a restriction. -/
def RsPost (t u : List (List Int)) (xs : List Int) (m : Int) (us : List Int) (W : World) (e : Ending) (W' : World) : Prop := ∃ (C0 : Option Addr) (e0 : Nat), e = .returned (.tuple #[.agg #[.int .i64 (qRestrictModule0 t u xs m us), .slice C0 (yRestrictModule0 t u xs m us).length e0], .int .i64 (qRestrictModule1 t u xs m us)]) ∧ Ex W W' ∧ OwnL W' W.heap.size W'.heap.size C0 (yRestrictModule0 t u xs m us)
theorem RsPost.of {t u : List (List Int)} {xs : List Int} {m : Int} {us : List Int} {W W' : World} {e : Ending} (h : ∃ (C0 : Option Addr) (e0 : Nat), e = .returned (.tuple #[.agg #[.int .i64 (qRestrictModule0 t u xs m us), .slice C0 (yRestrictModule0 t u xs m us).length e0], .int .i64 (qRestrictModule1 t u xs m us)]) ∧ Ex W W' ∧ OwnL W' W.heap.size W'.heap.size C0 (yRestrictModule0 t u xs m us)) : RsPost t u xs m us W e W' := h

end Go.Proofs.YtcdijeeabgmgmaaGreatDoor
