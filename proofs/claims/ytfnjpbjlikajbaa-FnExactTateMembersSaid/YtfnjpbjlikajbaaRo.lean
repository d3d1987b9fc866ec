/- Renumberings: the specification's test. -/
import Derived.Test.YtfnjpbjlikajbaaRn
import Derived.Test.YtfnjpbjlikajbaaSpA
namespace Go.Proofs.Ytfnjpbjlikajbaa
open Go.RowKit Go.Shelf

attribute [local go_sem] Oper.semAt_some

theorem infoBool : (Try.prog.info? 4).map (fun i => (i.zero, i.size, i.bytes)) = some (some (.bool false), 1, 1) := by kernel_rfl
/-- make([]bool, n) -/
theorem makeBool (n : Nat) (hn : n ≤ 1048576) (w : World) :
    (Instr.makeSlice 62 (.int .i64 (n : Int)) (.int .i64 (n : Int))).run Try.prog w = .ok (.slice (some ⟨w.heap.size, 0, none⟩) n n) (w.alloc (.cells (tab n fun _ => .bool false) 4)) := by
  obtain ⟨i0, hi, hz0, hz1, hz2⟩ := info_parts infoBool
  have hr := run_make (P := Try.prog) w 62 4 i0 _ Try.underlying62 hi hz0 .i64 .i64 n n (by omega) (by omega) (by rw [hz2]; omega) (by omega)
  rw [hr, hz1, madeCells_one _ _ rfl]
  simp

/-- The first k numbers are elements, all different. -/
def NumK (N : Nat) (xs : List Int) (k : Nat) : Prop := ∀ i, i < k → (0 ≤ nth xs i ∧ nth xs i < N) ∧ ∀ j, j < i → nth xs j ≠ nth xs i
open Classical in
noncomputable def metB (N : Nat) (xs : List Int) (k : Nat) : Array Value := tab N fun x => .bool (decide (∃ i, i < k ∧ nth xs i = (x : Int)))
theorem numK_inj {N : Nat} {xs : List Int} {k : Nat} (h : NumK N xs k) : ∀ i j, i < k → j < k → nth xs i = nth xs j → i = j := fun i j hi hj e => by
  rcases Nat.lt_trichotomy i j with hij | hij | hij
  · exact absurd e ((h j hj).2 i hij)
  · exact hij
  · exact absurd e.symm ((h i hi).2 j hij)
theorem ren_numK {N : Nat} {xs : List Int} (h : RenP N xs) : NumK N xs xs.length := fun i hi => by
  rw [h.len] at hi
  exact ⟨h.rng i hi, fun j hj e => by have := h.inj j i (by omega) hi e; omega⟩
theorem ren_of {N : Nat} {xs : List Int} (h : NumK N xs xs.length) (hl : xs.length = N) (h0 : nth xs 0 = 0) : RenP N xs := by
  subst hl
  exact ⟨rfl, fun i hi => (h i hi).1, numK_inj h, h0⟩

end Go.Proofs.Ytfnjpbjlikajbaa
