/- The model's code of a group, a module and one cochain. -/
import Derived.Test.YtdehalkebneaoaaDoorFd
namespace Go.Proofs.YtdehalkebneaoaaDoor
open Go.RowKit

theorem cocB_yes {N : Nat} {m n : Int} {fs : List Int} (h : cocB N m n fs = true) : 0 ≤ n ∧ n ≤ 3 ∧ fs.length = cellsN N n.toNat ∧ belowB m fs = true := by
  simp only [cocB, Bool.and_eq_true, decide_eq_true_eq] at h
  exact ⟨(inB_true h.1).1, (inB_true h.1).2, h.2.1, h.2.2⟩

/-- Is all that is given of the right kind? -/
noncomputable def gmcB (t : List (List Int)) (m : Int) (us : List Int) (n : Int) (fs : List Int) : Bool := gmB t m us && cocB t.length m n fs

theorem l03Code1_ex (B0 B1 B2 : Option Addr) (t0 : List (List Int)) (m : Int) (us : List Int) (n : Int) (fs : List Int) (d0 d1 d2 kb : Nat) (w : World) (hR : RwsW w B0 t0) (hX : IntsW w B1 us) (hF : IntsW w B2 fs) (hs : SmallT t0) (hu : us.length ≤ 1048576) (hf : fs.length ≤ 1048576)
    (hK : Has w kb 46 #[.int .i64 n, .slice B2 fs.length d2]) :
    Calls Tryd.prog 71 #[.agg #[.slice B0 t0.length d0], .agg #[.int .i64 m, .slice B1 us.length d1], .slice (some ⟨kb, 0, none⟩) 1 1] w fun e w' => e = .returned (.int .i64 (if gmcB t0 m us n fs = true then 0 else 1)) ∧ Ex w w' := by
  have h1 : ∀ i, i < 1 → i = 0 := fun i hi => by omega
  have hcol : CoL w kb 1 (fun _ => n) (fun _ => fs) (fun _ => B2) (fun _ => d2) := by
    refine ⟨hK.lt, fun i hi => ?_, fun i hi => ?_, fun i hi => hF, fun i hi => hf⟩
    · obtain rfl := h1 i hi
      exact hK.cell 0
    · obtain rfl := h1 i hi
      exact hK.cell 1
  refine (l03Code_any B0 B1 (some ⟨kb, 0, none⟩) t0 m us kb 1 1 _ _ _ _ d0 d1 w hR hX hs hu (by omega) (fun _ => ⟨rfl, hcol⟩)).mono fun e w' ⟨h3, h4⟩ => ⟨?_, h4⟩
  rw [h3]
  congr 2
  have hc : cocsB t0.length m 1 (fun _ => n) (fun _ => fs) = cocB t0.length m n fs := by
    have h01 : List.range 1 = [0] := rfl
    simp [cocsB, h01]
  rw [coC, hc, gmcB]
  simp only [Bool.and_eq_true]

/-- What a cochain gives. -/
theorem gmc_facts {t : List (List Int)} {m n : Int} {us fs : List Int} (h : gmcB t m us n fs = true) :
    ∃ (M k : Nat), m = (M : Int) ∧ n = (k : Int) ∧ ModF t M us ∧ k ≤ 3 ∧ fs.length = cellsN t.length k ∧ fs.length ≤ 343 ∧ InR M fs := by
  simp only [gmcB, Bool.and_eq_true] at h
  obtain ⟨M, rfl, hF⟩ := gmB_f h.1
  obtain ⟨h0, h1, h2, h3⟩ := cocB_yes h.2
  have hle : cellsN t.length n.toNat ≤ 343 := by
    have hn : n.toNat ≤ 3 := by omega
    exact Nat.le_trans (Nat.pow_le_pow_left (show t.length - 1 ≤ 7 by have := hF.g.n8; omega) _) (Nat.le_trans (Nat.pow_le_pow_right (show 0 < 7 by omega) hn) (by decide))
  exact ⟨M, n.toNat, rfl, by omega, hF, by omega, h2, by rw [h2]; exact hle, belowB_inR h3⟩

end Go.Proofs.YtdehalkebneaoaaDoor
