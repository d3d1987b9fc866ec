/- ProductOf, of the program and of the specification. -/
import Derived.Deep.RegionHeld3
import Derived.Laws.Rows
import Derived.IntWalk
import Derived.Test.YtmmgmbgnlcfabaaIsG
namespace Go.Proofs.Ytmmgmbgnlcfabaa
open Go.RowKit

theorem IsGrp.tab {t : List (List Int)} (h : IsGrp t) : IsTab t := (isGrp_iff.1 h).1

set_option maxHeartbeats 400000 in
theorem l01N_any (A : Option Addr) (n c : Nat) (w : World) (_ : n ≤ 1048576) :
    Calls Try.prog 26 #[.agg #[.slice A n c]] w fun e w' => e = .returned (.int .i64 n) ∧ w' = w.alloc (.cells #[.slice A n c] 28) := by
  go_enter Try.func26, Try.ntmps26
  go_wp2
  go_ret
  exact ⟨rfl, rfl⟩

/-- Are all numbers of a list elements of a group of n elements? -/
def InR (n : Nat) (xs : List Int) : Prop := ∀ i, i < xs.length → 0 ≤ nth xs i ∧ nth xs i < n

open Classical in
/-- The code of a group and elements. -/
noncomputable def elemR (t : List (List Int)) (xs : List Int) : Int := if IsGrp t then (if InR t.length xs then 0 else 2) else 1

/-- The product of two elements, and the code. -/
noncomputable def productR (t : List (List Int)) (a b : Int) : Int × Int :=
  if elemR t [a, b] = 0 then (nth (row t a.toNat) b.toNat, 0) else (0, elemR t [a, b])

theorem productR_grp {t : List (List Int)} {a b : Int} (h : IsGrp t) (ha : 0 ≤ a ∧ a < t.length) (hb : 0 ≤ b ∧ b < t.length) : productR t a b = (nth (row t a.toNat) b.toNat, 0) := by
  have hi : InR t.length [a, b] := fun i hi => by
    match i, hi with
    | 0, _ => exact ha
    | 1, _ => exact hb
  rw [productR, elemR, if_pos h, if_pos hi, if_pos rfl]
theorem productR_out {t : List (List Int)} {a b : Int} (h : IsGrp t) (hn : ¬ ((0 ≤ a ∧ a < t.length) ∧ (0 ≤ b ∧ b < t.length))) : productR t a b = (0, 2) := by
  have hi : ¬ InR t.length [a, b] := fun hi => hn ⟨hi 0 (by simp), hi 1 (by simp)⟩
  rw [productR, elemR, if_pos h, if_neg hi, if_neg (by omega)]
theorem productR_none {t : List (List Int)} {a b : Int} (h : ¬ IsGrp t) : productR t a b = (0, 1) := by
  rw [productR, elemR, if_neg h, if_neg (by omega)]

end Go.Proofs.Ytmmgmbgnlcfabaa
