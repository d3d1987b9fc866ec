/- slices.SortFunc of rows of int64 by slices.Compare. -/
import Derived.Shelf.SlSortCmp.Whole1
import Derived.Shelf.Lay
import Derived.Test.YtfafccldngekgaaLm
import Derived.Test.YtfafccldngekgaaSx
namespace Go.Proofs.Ytfafccldngekgaa
open Go.RowKit Go.Shelf Go.Sort

shelf_lay_g SlLaysF.n6 Slsf 6 at Try 112 as Try.sortRows

theorem lexO {R : Nat → List Int} (x y : Nat) : ltOf (fun x y => lexC (R x) (R y)) x y = decide (lexC (R x) (R y) < 0) := rfl
theorem lexC_swo (R : Nat → List Int) : SWO (ltOf fun x y => lexC (R x) (R y)) where
  irrefl x := by simp [ltOf, lexC_same]
  trans x y z h1 h2 := by
    simp only [ltOf, decide_eq_true_eq] at *
    exact lexC_trans _ _ _ h1 h2
  ntrans x y z h1 h2 := by
    simp only [ltOf, decide_eq_false_iff_not] at *
    intro h3
    rcases Int.lt_trichotomy (lexC (R y) (R z)) 0 with h | h | h
    · exact h2 h
    · rw [lexC_zero h] at h1
      exact h1 h3
    · have h4 := lexC_trans _ _ _ h3 (show lexC (R z) (R y) < 0 by rw [lexC_swap]; omega)
      exact h1 h4

set_option maxHeartbeats 1000000 in
theorem sortRows_any (b n cap : Nat) (cs : Array Value) (A : Nat → Option Addr) (R : Nat → List Int) (C : Nat → Nat) (w : World) (hn2 : n ≤ 1048576) (hB : Has w b 25 cs) (hcs : ∀ i, i < n → cs[i]? = some (encR A R C i))
    (hR : ∀ i W, Only b (b + 1) w W → IntsW W (A i) (R i)) (hL : ∀ i, (R i).length ≤ 1048576) :
    Calls Try.prog 112 #[.slice (some ⟨b, 0, none⟩) n cap, .func (.func 91) #[] #[]] w fun e w' => e = .returned (.tuple #[]) ∧ ∃ (d : Array Nat) (cs' : Array Value), Only b (b + 1) w w' ∧ Has w' b 25 cs' ∧ d.size = n ∧ d.toList.Perm (List.range n) ∧ (∀ i, i < n → cs'[i]? = some (encR A R C d[i]!)) ∧ ∀ i j, i < j → j < n → 0 ≤ lexC (R d[j]!) (R d[i]!) := by
  have hs : (Array.range n).size = n := by simp
  have hcsz : ∀ i, i < n → i < cs.size := fun i hi => (Array.getElem?_eq_some_iff.1 (hcs i hi)).1
  have hH : Holds (encR A R C) w b 0 (Array.range n) := fun j hj => by
    rw [hs] at hj
    refine ⟨?_, by rw [Nat.zero_add]; exact hB.free j⟩
    rw [Nat.zero_add, hB.cell, hcs j hj]
    simp [hj]
  have hcmp : CmpReads Try.prog 91 #[] (encR A R C) (fun x y => lexC (R x) (R y)) b 0 (Array.range n).size w := fun m os dk _ x y => by
    have ho := sort_only (encR A R C) w b m dk os hB.lt
    exact (slicesCompare_w (A x) (A y) (R x) (R y) (C x) (C y) _ (hR x _ ho) (hR y _ ho) (hL x) (hL y)).mono fun _ _ ⟨h1, h2⟩ => ⟨h1, 0, h2.symm⟩
  have hcon := Any.slices_SortFunc Try.sortRows (encR A R C) (fun _ => rfl) (fun x y => lexC (R x) (R y)) (lexC_swo R) 91 #[] b 0 cap (Array.range n) w enters_cmp hcmp.lays hH hB.lt (by rw [hs]; omega)
  rw [hs] at hcon
  refine Calls.mono hcon ?_
  rintro e w' ⟨rfl, d, m, os, hp, hso, rfl⟩
  have hd : d.size = n := by rw [hp.1, hs]
  refine ⟨rfl, d, _, sort_only _ w b m d os hB.lt, sort_has _ d os hB, hd, ?_, fun i hi => ?_, fun i j hij hj => ?_⟩
  · have h := hp.2.2
    rw [show d.extract 0 n = d by rw [← hd]; simp, show (Array.range n).extract 0 n = Array.range n by simp] at h
    simpa using h
  · exact putCells_get _ d cs (by omega) (hcsz i hi)
  · have h := hso i j (Nat.zero_le _) hij hj
    rw [lexO] at h
    simpa using h

end Go.Proofs.Ytfafccldngekgaa
