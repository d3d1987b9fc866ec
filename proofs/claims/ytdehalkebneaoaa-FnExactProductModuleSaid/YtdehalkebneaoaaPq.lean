/- ProductModule: what it answers. -/
import Derived.Test.YtdehalkebneaoaaMw
import Derived.Test.YtdehalkebneaoaaMf
import Derived.Test.YtdehalkebneaoaaLt
import Derived.Test.YtdehalkebneaoaaMaq
namespace Go.Proofs.Ytdehalkebneaoaa
open Go.RowKit

theorem l02Code2_ex (A L L' : Option Addr) (t : List (List Int)) (m m' : Int) (us vs : List Int) (c c' c'' k : Nat) (w : World) (hR : RwsW w A t) (hX : IntsW w L us) (hY : IntsW w L' vs) (hs : SmallT t) (hx : us.length ≤ 1048576) (hy : vs.length ≤ 1048576)
    (hK : Has w k 36 #[.int .i64 m, .slice L us.length c', .int .i64 m', .slice L' vs.length c'']) :
    Calls Try.prog 76 #[.agg #[.slice A t.length c], .slice (some ⟨k, 0, none⟩) 2 2] w fun e w' => e = .returned (.int .i64 (gm2C t m us m' vs)) ∧ Ex w w' :=
  l02Code2_any A L L' t m m' us vs c c' c'' k _ _ _ w hR.rws hX.ints hY.ints hK (Nat.le_refl _) (Nat.le_refl _) (Nat.le_refl _) hs.1 hs.2 hx hy

/-- The unit of a product at i. -/
def pu (M : Nat) (us vs : List Int) (i : Nat) : Int := ((im us i * im vs i % M : Nat) : Int)
noncomputable def qProductModule0 (t : List (List Int)) (m : Int) (us : List Int) (m' : Int) (vs : List Int) : Int := if gm2B t m us m' vs = true ∧ m = m' then m else 0
noncomputable def yProductModule0 (t : List (List Int)) (m : Int) (us : List Int) (m' : Int) (vs : List Int) : List Int := if gm2B t m us m' vs = true ∧ m = m' then (List.range t.length).map (pu m.toNat us vs) else []
noncomputable def qProductModule1 (t : List (List Int)) (m : Int) (us : List Int) (m' : Int) (vs : List Int) : Int := if gm2B t m us m' vs = true then (if m = m' then 0 else 5) else 1
section
variable {t : List (List Int)} {m m' : Int} {us vs : List Int}
theorem pm_none (h : gm2B t m us m' vs = false) : qProductModule0 t m us m' vs = 0 ∧ yProductModule0 t m us m' vs = [] ∧ qProductModule1 t m us m' vs = 1 := by simp [qProductModule0, yProductModule0, qProductModule1, h]
theorem pm_no (h : gm2B t m us m' vs = true) (hm : ¬ m = m') : qProductModule0 t m us m' vs = 0 ∧ yProductModule0 t m us m' vs = [] ∧ qProductModule1 t m us m' vs = 5 := by simp [qProductModule0, yProductModule0, qProductModule1, h, hm]
theorem pm_yes {M : Nat} (h : gm2B t (M : Int) us (M : Int) vs = true) : qProductModule0 t (M : Int) us (M : Int) vs = (M : Int) ∧ yProductModule0 t (M : Int) us (M : Int) vs = (List.range t.length).map (pu M us vs) ∧ qProductModule1 t (M : Int) us (M : Int) vs = 0 := by simp [qProductModule0, yProductModule0, qProductModule1, h]
theorem gm2B_f (h : gm2B t m us m' vs = true) : gmB t m us = true ∧ gmB t m' vs = true := by simpa [gm2B] using h
theorem productModule_small0 (t : List (List Int)) (m : Int) (us : List Int) (m' : Int) (vs : List Int) : (yProductModule0 t m us m' vs).length ≤ 1048576 := by
  unfold yProductModule0
  split
  · rename_i h
    obtain ⟨M, _, hF⟩ := gmB_f (gm2B_f h.1).1
    have := hF.g.n8
    simp
    omega
  · simp
end


end Go.Proofs.Ytdehalkebneaoaa
