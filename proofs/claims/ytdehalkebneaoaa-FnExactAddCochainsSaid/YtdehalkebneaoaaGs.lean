/- A list of the call's own whose numbers are set one by one. -/
import Derived.Laws.OwnMore
import Derived.Deep.AppendLies
import Derived.Test.YtdehalkebneaoaaGr
namespace Go.Proofs.Ytdehalkebneaoaa
open Go.RowKit

section
variable {a w w' : World} {lo b n : Nat} {v v' : Value} {xs : List Int} {T : TypeId} {cs : Array Value}
/-- Where it lies. -/
theorem GrowI.row (h : GrowI w lo v n xs) (hn : 0 < n) : ∃ g c, v = .slice (some ⟨g, 0, none⟩) n c ∧ lo ≤ g ∧ g < w.heap.size ∧ (∀ j, j < n → w.cell? ⟨g, j, none⟩ = some (.int .i64 (nth xs j))) ∧ ∀ j, w.frozen? ⟨g, j, none⟩ = false := by
  obtain ⟨g, c, rfl, hg, hl⟩ := h.1.form hn
  refine ⟨g, c, rfl, hg, hl, fun j hj => ?_, fun j => h.1.frozenAt j⟩
  rw [h.1.cellAt j (by omega)]
  have hj' : j < xs.length := by rw [h.2]; exact hj
  simp [nth, hj']
theorem GrowI.form (h : GrowI w lo v n xs) : ∃ A c, v = .slice A n c := by
  obtain ⟨A, c, rfl, _⟩ := h.own
  exact ⟨A, c, by rw [h.2]⟩
theorem GrowI.put {g c : Nat} (h : GrowI w lo (.slice (some ⟨g, 0, none⟩) n c) n xs) (j : Nat) (x : Int) : GrowI (w.setCell ⟨g, j, none⟩ (.int .i64 x)) lo (.slice (some ⟨g, 0, none⟩) n c) n (xs.set j x) := by
  refine ⟨?_, by simpa using h.2⟩
  rw [List.map_set]
  exact (h.1.stored j (.int .i64 x)).1
/-- A block of another type is another block. -/
theorem GrowI.apart {g c : Nat} (h : GrowI w lo (.slice (some ⟨g, 0, none⟩) n c) n xs) (hb : Has w b T cs) (hT : T ≠ 2) : b ≠ g := fun e => hb.not_row hT h (by rw [e]; rfl)
theorem nth_set_same {xs : List Int} {j : Nat} {x : Int} (h : j < xs.length) : nth (xs.set j x) j = x := by simp [nth, h]
theorem nth_set_other {xs : List Int} {i j : Nat} {x : Int} (h : i ≠ j) : nth (xs.set j x) i = nth xs i := by simp [nth, Ne.symm h]
theorem eq_of_nth {xs ys : List Int} (hl : xs.length = ys.length) (h : ∀ j, j < xs.length → nth xs j = nth ys j) : xs = ys := by
  refine List.ext_getElem hl fun i h1 h2 => ?_
  have := h i h1
  simpa [nth, h1, h2] using this
end

end Go.Proofs.Ytdehalkebneaoaa
