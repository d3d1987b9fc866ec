/- The centre: both sides' search for it; CentreOf: both contracts. -/
import Derived.Test.YtcdijeeabgmgmaaGreatDoorCel
import Derived.Test.YtcdijeeabgmgmaaGreatDoorBts
import Derived.Test.YtcdijeeabgmgmaaGreatDoorSm
import Derived.Test.YtcdijeeabgmgmaaGreatDoorIsg
namespace Go.Proofs.YtcdijeeabgmgmaaGreatDoor
open Go.RowKit Go.Shelf

attribute [local go_sem] Oper.semAt_some

/-- Is a b = b a, for the first j elements b? -/
def comAt (t : List (List Int)) (a b : Nat) : Bool := nth (row t a) b == nth (row t b) a
def comB (t : List (List Int)) (a j : Nat) : Bool := (List.range j).all fun b => comAt t a b
theorem comB_succ (t : List (List Int)) (a j : Nat) : comB t a (j + 1) = (comB t a j && comAt t a j) := by simp [comB, List.range_succ]
def cenP (t : List (List Int)) (a : Nat) : Bool := comB t a t.length
def ComAt (t : List (List Int)) (a b : Nat) : Prop := nth (row t a) b = nth (row t b) a
theorem cenP_true {t : List (List Int)} {a : Nat} (h : ∀ x : Fin t.length, ComAt t a x.val) : cenP t a = true := by
  simp only [cenP, comB, List.all_eq_true, List.mem_range, comAt, beq_iff_eq]
  exact fun b hb => h ⟨b, hb⟩
theorem cenP_false {t : List (List Int)} {a : Nat} (h : ∃ x : Fin t.length, ¬ ComAt t a x.val) : cenP t a = false := by
  obtain ⟨x, hx⟩ := h
  cases hc : cenP t a
  · rfl
  · simp only [cenP, comB, List.all_eq_true, List.mem_range, comAt, beq_iff_eq] at hc
    exact absurd (hc x.val x.isLt) hx

noncomputable def yCentreOf0 (t : List (List Int)) : List Int := if grpB t = true then selI (cenP t) t.length else []
noncomputable def qCentreOf1 (t : List (List Int)) : Int := if grpB t = true then 0 else 1
section
variable {t : List (List Int)}
theorem cn_no (h : grpB t = false) : yCentreOf0 t = [] ∧ qCentreOf1 t = 1 := by simp [yCentreOf0, qCentreOf1, h]
theorem cn_yes (h : grpB t = true) : yCentreOf0 t = selI (cenP t) t.length ∧ qCentreOf1 t = 0 := by simp [yCentreOf0, qCentreOf1, h]
theorem centreOf_small0 (t : List (List Int)) : (yCentreOf0 t).length ≤ 1048576 := by
  unfold yCentreOf0
  split
  · rename_i h
    have := (grpB_iff.1 h).n8
    have := selI_len (p := cenP t) (k := t.length)
    omega
  · simp
end


end Go.Proofs.YtcdijeeabgmgmaaGreatDoor
