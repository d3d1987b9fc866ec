/- Chapter 8: the models of EmbedCochain, ReduceCochain, LiftCochain and ConnectingCochain. -/
import Derived.Test.YtllkaoacfchibaaGreatDoorWa
import Derived.Test.YtllkaoacfchibaaGreatDoorFdc
import Derived.Test.YtllkaoacfchibaaGreatDoorBv
namespace Go.Proofs.YtllkaoacfchibaaGreatDoor
open Go.RowKit

/-- The values, multiplied; their rests; their quotients. -/
def tmL (fs : List Int) (q : Nat) : List Int := (List.range fs.length).map fun i => (q : Int) * nth fs i
def rsL (fs : List Int) (q : Nat) : List Int := (List.range fs.length).map fun i => nth fs i % (q : Int)
def dvL (fs : List Int) (q : Nat) : List Int := (List.range fs.length).map fun i => nth fs i / (q : Int)
section
variable {fs : List Int} {q : Nat}
theorem tmL_len : (tmL fs q).length = fs.length := by simp [tmL]
theorem rsL_len : (rsL fs q).length = fs.length := by simp [rsL]
theorem dvL_len : (dvL fs q).length = fs.length := by simp [dvL]
theorem tmL_one : tmL fs 1 = fs := by
  refine List.ext_getElem (by simp [tmL]) fun i h1 h2 => ?_
  simp [tmL, nth, h2]
end

/-- The code of a group, a module, a divisor, and a cochain of a module with the number m'. -/
noncomputable def gvC (t : List (List Int)) (m : Int) (us : List Int) (k m' n : Int) (fs : List Int) : Int := if sqC t m us k = 0 then (if cocB t.length m' n fs = true then 0 else 1) else sqC t m us k
section
variable {t : List (List Int)} {m k m' n : Int} {us fs : List Int}
theorem gvC_no {z : Int} (h : sqC t m us k = z) (hz : z ≠ 0) : gvC t m us k m' n fs = z := by rw [gvC, h, if_neg hz]
theorem gvC_out (h : sqC t m us k = 0) (h2 : cocB t.length m' n fs = false) : gvC t m us k m' n fs = 1 := by rw [gvC, if_pos h, h2]; rfl
theorem gvC_yes (h : sqC t m us k = 0) (h2 : cocB t.length m' n fs = true) : gvC t m us k m' n fs = 0 := by rw [gvC, if_pos h, if_pos h2]
theorem gvC_f (h : gvC t m us k m' n fs = 0) : sqC t m us k = 0 ∧ cocB t.length m' n fs = true := by
  unfold gvC at h
  split at h
  · rename_i h1
    split at h
    · rename_i h2
      exact ⟨h1, h2⟩
    · cases h
  · rename_i h1
    exact absurd h h1
/-- What a cochain gives. -/
theorem coc_f {N K : Nat} (hN : N ≤ 8) (h : cocB N (K : Int) n fs = true) : ∃ d : Nat, n = (d : Int) ∧ d ≤ 3 ∧ fs.length = cellsN N d ∧ fs.length ≤ 343 ∧ InR K fs := by
  obtain ⟨h0, h3, hl, hb⟩ := cocB_yes h
  have hle : cellsN N n.toNat ≤ 343 := by
    have hn : n.toNat ≤ 3 := by omega
    exact Nat.le_trans (Nat.pow_le_pow_left (show N - 1 ≤ 7 by omega) _) (Nat.le_trans (Nat.pow_le_pow_right (show 0 < 7 by omega) hn) (by decide))
  exact ⟨n.toNat, by omega, by omega, hl, by rw [hl]; exact hle, belowB_inR hb⟩
end

noncomputable def qEmbedCochain0 (t : List (List Int)) (m : Int) (us : List Int) (k n : Int) (fs : List Int) : Int := if gvC t m us k k n fs = 0 then n else 0
noncomputable def yEmbedCochain0 (t : List (List Int)) (m : Int) (us : List Int) (k n : Int) (fs : List Int) : List Int := if gvC t m us k k n fs = 0 then tmL fs (m.toNat / k.toNat) else []
noncomputable def qEmbedCochain1 (t : List (List Int)) (m : Int) (us : List Int) (k n : Int) (fs : List Int) : Int := gvC t m us k k n fs
noncomputable def qReduceCochain0 (t : List (List Int)) (m : Int) (us : List Int) (k n : Int) (fs : List Int) : Int := if gvC t m us k m n fs = 0 then n else 0
noncomputable def yReduceCochain0 (t : List (List Int)) (m : Int) (us : List Int) (k n : Int) (fs : List Int) : List Int := if gvC t m us k m n fs = 0 then rsL fs (m.toNat / k.toNat) else []
noncomputable def qReduceCochain1 (t : List (List Int)) (m : Int) (us : List Int) (k n : Int) (fs : List Int) : Int := gvC t m us k m n fs
/-- The number of the outer module. -/
def ouN (m k : Int) : Int := ((m.toNat / k.toNat : Nat) : Int)
noncomputable def qLiftCochain0 (t : List (List Int)) (m : Int) (us : List Int) (k n : Int) (fs : List Int) : Int := if gvC t m us k (ouN m k) n fs = 0 then n else 0
noncomputable def yLiftCochain0 (t : List (List Int)) (m : Int) (us : List Int) (k n : Int) (fs : List Int) : List Int := if gvC t m us k (ouN m k) n fs = 0 then fs else []
noncomputable def qLiftCochain1 (t : List (List Int)) (m : Int) (us : List Int) (k n : Int) (fs : List Int) : Int := gvC t m us k (ouN m k) n fs
/-- The code of ConnectingCochain. -/
noncomputable def cnC (t : List (List Int)) (m : Int) (us : List Int) (k n : Int) (fs : List Int) : Int :=
  if gvC t m us k (ouN m k) n fs = 0 then (if 2 < n then 2 else if cyB t (m.toNat / k.toNat) n.toNat (rdL us (m.toNat / k.toNat)) fs = true then 0 else 5) else gvC t m us k (ouN m k) n fs
noncomputable def bdY (t : List (List Int)) (M n : Nat) (us fs : List Int) : List Int := (List.range (cellsN t.length (n + 1))).map fun j => bdV t M us fs (lsL t.length (n + 1) j)
noncomputable def qConnectingCochain0 (t : List (List Int)) (m : Int) (us : List Int) (k n : Int) (fs : List Int) : Int := if cnC t m us k n fs = 0 then n + 1 else 0
noncomputable def yConnectingCochain0 (t : List (List Int)) (m : Int) (us : List Int) (k n : Int) (fs : List Int) : List Int := if cnC t m us k n fs = 0 then dvL (bdY t m.toNat n.toNat us fs) (m.toNat / k.toNat) else []
noncomputable def qConnectingCochain1 (t : List (List Int)) (m : Int) (us : List Int) (k n : Int) (fs : List Int) : Int := cnC t m us k n fs
section
variable {t : List (List Int)} {m k n : Int} {us fs : List Int}
theorem emb_no {z : Int} (h : gvC t m us k k n fs = z) (hz : z ≠ 0) : qEmbedCochain0 t m us k n fs = 0 ∧ yEmbedCochain0 t m us k n fs = [] ∧ qEmbedCochain1 t m us k n fs = z := by simp [qEmbedCochain0, yEmbedCochain0, qEmbedCochain1, h, hz]
theorem emb_yes {M K Q : Nat} (h : gvC t (M : Int) us (K : Int) (K : Int) n fs = 0) (hq : M / K = Q) : qEmbedCochain0 t (M : Int) us (K : Int) n fs = n ∧ yEmbedCochain0 t (M : Int) us (K : Int) n fs = tmL fs Q ∧ qEmbedCochain1 t (M : Int) us (K : Int) n fs = 0 := by
  subst hq
  simp only [qEmbedCochain0, yEmbedCochain0, qEmbedCochain1, h, if_true, Int.toNat_natCast, and_self]
theorem rec_no {z : Int} (h : gvC t m us k m n fs = z) (hz : z ≠ 0) : qReduceCochain0 t m us k n fs = 0 ∧ yReduceCochain0 t m us k n fs = [] ∧ qReduceCochain1 t m us k n fs = z := by simp [qReduceCochain0, yReduceCochain0, qReduceCochain1, h, hz]
theorem rec_yes {M K Q : Nat} (h : gvC t (M : Int) us (K : Int) (M : Int) n fs = 0) (hq : M / K = Q) : qReduceCochain0 t (M : Int) us (K : Int) n fs = n ∧ yReduceCochain0 t (M : Int) us (K : Int) n fs = rsL fs Q ∧ qReduceCochain1 t (M : Int) us (K : Int) n fs = 0 := by
  subst hq
  simp only [qReduceCochain0, yReduceCochain0, qReduceCochain1, h, if_true, Int.toNat_natCast, and_self]
theorem lif_no {z : Int} (h : gvC t m us k (ouN m k) n fs = z) (hz : z ≠ 0) : qLiftCochain0 t m us k n fs = 0 ∧ yLiftCochain0 t m us k n fs = [] ∧ qLiftCochain1 t m us k n fs = z := by simp [qLiftCochain0, yLiftCochain0, qLiftCochain1, h, hz]
theorem lif_yes (h : gvC t m us k (ouN m k) n fs = 0) : qLiftCochain0 t m us k n fs = n ∧ yLiftCochain0 t m us k n fs = fs ∧ qLiftCochain1 t m us k n fs = 0 := by
  simp only [qLiftCochain0, yLiftCochain0, qLiftCochain1, h, if_true, and_self]
theorem con_no {z : Int} (h : cnC t m us k n fs = z) (hz : z ≠ 0) : qConnectingCochain0 t m us k n fs = 0 ∧ yConnectingCochain0 t m us k n fs = [] ∧ qConnectingCochain1 t m us k n fs = z := by simp [qConnectingCochain0, yConnectingCochain0, qConnectingCochain1, h, hz]
theorem con_yes {M K Q d : Nat} (h : cnC t (M : Int) us (K : Int) (d : Int) fs = 0) (hq : M / K = Q) : qConnectingCochain0 t (M : Int) us (K : Int) (d : Int) fs = (d : Int) + 1 ∧ yConnectingCochain0 t (M : Int) us (K : Int) (d : Int) fs = dvL (bdY t M d us fs) Q ∧ qConnectingCochain1 t (M : Int) us (K : Int) (d : Int) fs = 0 := by
  subst hq
  simp only [qConnectingCochain0, yConnectingCochain0, qConnectingCochain1, h, if_true, Int.toNat_natCast, and_self]
theorem cnC_no {z : Int} (h : gvC t m us k (ouN m k) n fs = z) (hz : z ≠ 0) : cnC t m us k n fs = z := by rw [cnC, h, if_neg hz]
theorem cnC_deg (h : gvC t m us k (ouN m k) n fs = 0) (h2 : 2 < n) : cnC t m us k n fs = 2 := by rw [cnC, if_pos h, if_pos h2]
theorem cnC_st {M K Q d : Nat} (h : gvC t (M : Int) us (K : Int) (ouN (M : Int) (K : Int)) (d : Int) fs = 0) (h2 : ¬ 2 < (d : Int)) (hq : M / K = Q) (h3 : cyB t Q d (rdL us Q) fs = false) : cnC t (M : Int) us (K : Int) (d : Int) fs = 5 := by
  subst hq
  rw [cnC, if_pos h, if_neg h2, Int.toNat_natCast, Int.toNat_natCast, Int.toNat_natCast, h3]
  rfl
theorem cnC_yes {M K Q d : Nat} (h : gvC t (M : Int) us (K : Int) (ouN (M : Int) (K : Int)) (d : Int) fs = 0) (h2 : ¬ 2 < (d : Int)) (hq : M / K = Q) (h3 : cyB t Q d (rdL us Q) fs = true) : cnC t (M : Int) us (K : Int) (d : Int) fs = 0 := by
  subst hq
  rw [cnC, if_pos h, if_neg h2, Int.toNat_natCast, Int.toNat_natCast, Int.toNat_natCast, if_pos h3]
theorem cnC_f (h : cnC t m us k n fs = 0) : gvC t m us k (ouN m k) n fs = 0 ∧ ¬ 2 < n := by
  unfold cnC at h
  split at h
  · rename_i h1
    split at h
    · cases h
    · rename_i h2
      exact ⟨h1, h2⟩
  · rename_i h1
    exact absurd h h1
/-- All lists that are answered are short. -/
theorem gv_short {m' : Int} {K : Nat} (hm : m' = (K : Int)) (h : gvC t m us k m' n fs = 0) : fs.length ≤ 343 := by
  obtain ⟨h1, h2⟩ := gvC_f h
  obtain ⟨M, K', Q, rfl, rfl, hF, -⟩ := sqC_f h1
  subst hm
  obtain ⟨d, -, -, -, hl, -⟩ := coc_f hF.g.n8 h2
  exact hl
theorem embedCochain_small0 (t : List (List Int)) (m : Int) (us : List Int) (k n : Int) (fs : List Int) : (yEmbedCochain0 t m us k n fs).length ≤ 1048576 := by
  unfold yEmbedCochain0
  split
  · rename_i h
    obtain ⟨M, K, Q, rfl, rfl, -⟩ := sqC_f (gvC_f h).1
    have := gv_short rfl h
    rw [tmL_len]
    omega
  · simp
theorem reduceCochain_small0 (t : List (List Int)) (m : Int) (us : List Int) (k n : Int) (fs : List Int) : (yReduceCochain0 t m us k n fs).length ≤ 1048576 := by
  unfold yReduceCochain0
  split
  · rename_i h
    obtain ⟨M, K, Q, rfl, rfl, -⟩ := sqC_f (gvC_f h).1
    have := gv_short rfl h
    rw [rsL_len]
    omega
  · simp
theorem liftCochain_small0 (t : List (List Int)) (m : Int) (us : List Int) (k n : Int) (fs : List Int) : (yLiftCochain0 t m us k n fs).length ≤ 1048576 := by
  unfold yLiftCochain0
  split
  · rename_i h
    have := gv_short rfl h
    omega
  · simp
theorem connectingCochain_small0 (t : List (List Int)) (m : Int) (us : List Int) (k n : Int) (fs : List Int) : (yConnectingCochain0 t m us k n fs).length ≤ 1048576 := by
  unfold yConnectingCochain0
  split
  · rename_i h
    obtain ⟨h1, h2⟩ := cnC_f h
    obtain ⟨hs, hc⟩ := gvC_f h1
    obtain ⟨M, K, Q, rfl, rfl, hF, -⟩ := sqC_f hs
    obtain ⟨d, rfl, -⟩ := coc_f hF.g.n8 hc
    rw [dvL_len]
    simp only [bdY, List.length_map, List.length_range, Int.toNat_natCast]
    have := cellsN_le hF.g.n8 (show d + 1 ≤ 4 by omega)
    omega
  · simp
end

end Go.Proofs.YtllkaoacfchibaaGreatDoor
