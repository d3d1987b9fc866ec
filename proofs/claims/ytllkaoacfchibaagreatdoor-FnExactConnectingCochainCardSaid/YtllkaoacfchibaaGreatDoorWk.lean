/- Chapter 8: EmbedCochain, ReduceCochain and LiftCochain, the program's contracts. -/
import Derived.Test.YtllkaoacfchibaaGreatDoorWj
namespace Go.Proofs.YtllkaoacfchibaaGreatDoor
open Go.RowKit

/-- What is asked of the end of ledAlong. -/
def LedS (t : List (List Int)) (m : Int) (us : List Int) (k m' n : Int) (fs : List Int) (dd : Int → Int) (ys : Nat → Nat → Nat → Int → List Int → List Int) (W : World) (e : Ending) (W' : World) : Prop :=
  (∃ M K Q C0 n0, gvC t m us k m' n fs = 0 ∧ m = ((M : Nat) : Int) ∧ k = ((K : Nat) : Int) ∧ SeqF M K Q ∧ e = .returned (.tuple #[.agg #[.int .i64 (dd n), .slice C0 (ys M K Q n fs).length n0], .int .i64 0]) ∧ Ex W W' ∧ OwnL W' W.heap.size W'.heap.size C0 (ys M K Q n fs))
  ∨ (gvC t m us k m' n fs ≠ 0 ∧ e = .returned (.tuple #[.agg #[.int .i64 0, .slice none 0 0], .int .i64 (gvC t m us k m' n fs)]) ∧ Ex W W')

/-- Short lists, out of the code. -/
theorem short_of {t : List (List Int)} {m k m' n : Int} {us fs : List Int} {X : Nat} (h : gvC t m us k m' n fs = 0) (hm : m' = (X : Int)) (hX : X ≤ 12) : ShortL n fs := by
  obtain ⟨hs, hc⟩ := gvC_f h
  obtain ⟨M, K, Q, rfl, rfl, hF, -⟩ := sqC_f hs
  subst hm
  obtain ⟨d, -, -, -, h3, h4⟩ := coc_f hF.g.n8 hc
  exact ⟨h3, fun i hi => ⟨(h4 i hi).1, by have := (h4 i hi).2; omega⟩⟩
theorem ouN_eq {M K Q : Nat} (h : SeqF M K Q) : ouN (M : Int) (K : Int) = (Q : Int) := by rw [ouN, Int.toNat_natCast, Int.toNat_natCast, h.div]

end Go.Proofs.YtllkaoacfchibaaGreatDoor
