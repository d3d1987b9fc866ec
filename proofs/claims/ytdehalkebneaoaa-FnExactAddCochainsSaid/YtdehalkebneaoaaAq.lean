/- AddCochains: what it answers. -/
import Derived.Test.YtdehalkebneaoaaFd
import Derived.Test.YtdehalkebneaoaaRo
namespace Go.Proofs.Ytdehalkebneaoaa
open Go.RowKit

/-- One list and k times another one together. -/
def sumL (m : Int) (fs gs : List Int) (k : Int) : List Int := (List.range fs.length).map fun i => (nth fs i + k * nth gs i) % m
theorem sumL_len (m : Int) (fs gs : List Int) (k : Int) : (sumL m fs gs k).length = fs.length := by simp [sumL]
theorem sumL_at (m : Int) (fs gs : List Int) (k : Int) {i : Nat} (h : i < fs.length) : nth (sumL m fs gs k) i = (nth fs i + k * nth gs i) % m := by simp [sumL, nth, h]

noncomputable def addR (t : List (List Int)) (m : Int) (us : List Int) (n : Int) (fs : List Int) (n' : Int) (gs : List Int) (k : Int) : Int :=
  if (gmB t m us && (cocB t.length m n fs && cocB t.length m n' gs)) = true then (if n = n' ∧ inB k (-1000) 1000 = true then 0 else 2) else 1
noncomputable def qAddCochains0 (t : List (List Int)) (m : Int) (us : List Int) (n : Int) (fs : List Int) (n' : Int) (gs : List Int) (k : Int) : Int := if addR t m us n fs n' gs k = 0 then n else 0
noncomputable def yAddCochains0 (t : List (List Int)) (m : Int) (us : List Int) (n : Int) (fs : List Int) (n' : Int) (gs : List Int) (k : Int) : List Int := if addR t m us n fs n' gs k = 0 then sumL m fs gs k else []
noncomputable def qAddCochains1 (t : List (List Int)) (m : Int) (us : List Int) (n : Int) (fs : List Int) (n' : Int) (gs : List Int) (k : Int) : Int := addR t m us n fs n' gs k
section
variable {t : List (List Int)} {m n n' k : Int} {us fs gs : List Int}
theorem ad_err {c : Int} (h : addR t m us n fs n' gs k = c) (hc : c ≠ 0) : qAddCochains0 t m us n fs n' gs k = 0 ∧ yAddCochains0 t m us n fs n' gs k = [] ∧ qAddCochains1 t m us n fs n' gs k = c := by simp [qAddCochains0, yAddCochains0, qAddCochains1, h, hc]
theorem ad_yes (h : addR t m us n fs n' gs k = 0) : qAddCochains0 t m us n fs n' gs k = n ∧ yAddCochains0 t m us n fs n' gs k = sumL m fs gs k ∧ qAddCochains1 t m us n fs n' gs k = 0 := by simp [qAddCochains0, yAddCochains0, qAddCochains1, h]
theorem addR_1 (h : (gmB t m us && (cocB t.length m n fs && cocB t.length m n' gs)) = false) : addR t m us n fs n' gs k = 1 := by simp [addR, h]
theorem addR_2 (h : (gmB t m us && (cocB t.length m n fs && cocB t.length m n' gs)) = true) (h2 : ¬ n = n') : addR t m us n fs n' gs k = 2 := by simp [addR, h, h2]
theorem addR_3 (h : (gmB t m us && (cocB t.length m n fs && cocB t.length m n' gs)) = true) (h2 : inB k (-1000) 1000 = false) : addR t m us n fs n' gs k = 2 := by simp [addR, h, h2]
theorem addR_0 (h : (gmB t m us && (cocB t.length m n fs && cocB t.length m n' gs)) = true) (h2 : n = n') (h3 : inB k (-1000) 1000 = true) : addR t m us n fs n' gs k = 0 := by rw [addR, if_pos h, if_pos ⟨h2, h3⟩]
/-- What a cochain gives. -/
theorem cocB_true {N : Nat} (h : cocB N m n fs = true) : 0 ≤ n ∧ n ≤ 3 ∧ fs.length = cellsN N n.toNat ∧ belowB m fs = true := by
  simp only [cocB, Bool.and_eq_true, decide_eq_true_eq] at h
  exact ⟨(inB_true h.1).1, (inB_true h.1).2, h.2.1, h.2.2⟩
theorem addCochains_small0 (t : List (List Int)) (m : Int) (us : List Int) (n : Int) (fs : List Int) (n' : Int) (gs : List Int) (k : Int) : (yAddCochains0 t m us n fs n' gs k).length ≤ 1048576 := by
  unfold yAddCochains0
  split
  · rename_i h
    have h1 : (gmB t m us && (cocB t.length m n fs && cocB t.length m n' gs)) = true := by
      cases hc : (gmB t m us && (cocB t.length m n fs && cocB t.length m n' gs))
      · rw [addR_1 hc] at h
        exact absurd h (by decide)
      · rfl
    simp only [Bool.and_eq_true] at h1
    obtain ⟨M, _, hF⟩ := gmB_f h1.1
    have h2 := cocB_true h1.2.1
    have := cellsN_le hF.g.n8 (show n.toNat ≤ 4 by omega)
    rw [sumL_len]
    omega
  · simp
end

end Go.Proofs.Ytdehalkebneaoaa
