/- A growing list of rows; the program's principalMaps. -/
import Derived.Test.YtfafccldngekgaaMt
import Derived.Test.YtfafccldngekgaaLm
import Derived.Test.YtfafccldngekgaaCq
namespace Go.Proofs.Ytfafccldngekgaa
open Go.RowKit

section
variable {a w w' : World} {lo b n : Nat} {v v' : Value} {xs : List Value} {T e : TypeId} {cs : Array Value}
theorem Has.off_row (h : Has w b T cs) (hT : T ≠ e) (ho : w.ownsRow lo e 1 v n xs) : some b ≠ v.ownBlock := by
  rcases ho.2 with ⟨rfl, _⟩ | ⟨g, cap, cur, rfl, _, hgb, _⟩
  · simp [Value.ownBlock]
  · intro e'
    obtain rfl : b = g := by simpa [Value.ownBlock] using e'
    have := (show w.heap[b]? = _ from h).symm.trans hgb
    simp at this
    exact hT this.2
theorem Has.grewR (h : Has w b T cs) (hT : T ≠ e) (ho : w.ownsRow lo e 1 v n xs) (hg : w.grownBy w' v.ownBlock) : Has w' b T cs := (hg.block b h.lt (h.off_row hT ho)).trans h
theorem Ex.grewR (h : Ex a w) (ho : w.ownsRow lo e 1 v n xs) (hl : a.heap.size ≤ lo) (hg : w.grownBy w' v.ownBlock) : Ex a w' :=
  Below.grown h.below hg h.size fun k hk => Nat.le_trans hl (ho.lt k hk).1
theorem row_block (h : w.ownsRow lo e 1 v n xs) (hn : 0 < n) : ∃ g c cs, v = .slice (some ⟨g, 0, none⟩) n c ∧ lo ≤ g ∧ n ≤ c ∧ Has w g e cs ∧ ∀ i, i < n → cs[i]? = xs[i]? := by
  rcases h.2 with ⟨_, h0⟩ | ⟨g, cap, cur, rfl, hg, hh, hr1, hr2, hr3, hr4⟩
  · omega
  · refine ⟨g, cap, cur, rfl, hg, hr1, hh, fun i hi => ?_⟩
    rw [← hr4, Nat.mul_one, List.getElem?_take_of_lt hi]
    simp
end

/-- The rows that were made: where each lies, what it holds. -/
structure RowsAt (w : World) (lo N : Nat) (V : Nat → Nat → Int) (k : Nat) (G C : Nat → Nat) : Prop where
  lo_le : ∀ i, i < k → lo ≤ G i
  has : ∀ i, i < k → Has w (G i) 2 (tab N fun p => .int .i64 (V i p))
  apart : ∀ i j, i < k → j < k → i ≠ j → G i ≠ G j
theorem RowsAt.ex {w w' : World} {lo N k : Nat} {V : Nat → Nat → Int} {G C : Nat → Nat} (h : RowsAt w lo N V k G C) (he : Ex w w') : RowsAt w' lo N V k G C := ⟨h.lo_le, fun i hi => (h.has i hi).ex he, h.apart⟩
theorem RowsAt.grew {w w' : World} {lo lo' N k n : Nat} {V : Nat → Nat → Int} {G C : Nat → Nat} {v : Value} {xs : List Value} (h : RowsAt w lo N V k G C) (ho : w.ownsRow lo' 25 1 v n xs) (hg : w.grownBy w' v.ownBlock) : RowsAt w' lo N V k G C :=
  ⟨h.lo_le, fun i hi => (h.has i hi).grewR (by decide) ho hg, h.apart⟩
theorem RowsAt.snoc {w : World} {lo N k : Nat} {V : Nat → Nat → Int} {G C : Nat → Nat} (h : RowsAt w lo N V k G C) (g c : Nat) (hg : lo ≤ g) (hh : Has w g 2 (tab N fun p => .int .i64 (V k p))) (ha : ∀ i, i < k → G i ≠ g) :
    RowsAt w lo N V (k + 1) (fun i => if i = k then g else G i) (fun i => if i = k then c else C i) where
  lo_le i hi := by
    show lo ≤ if i = k then g else G i
    split
    · exact hg
    · exact h.lo_le i (by omega)
  has i hi := by
    show Has w (if i = k then g else G i) _ _
    by_cases hik : i = k
    · subst hik
      rw [if_pos rfl]
      exact hh
    · rw [if_neg hik]
      exact h.has i (by omega)
  apart i j hi hj hij := by
    show (if i = k then g else G i) ≠ if j = k then g else G j
    by_cases hik : i = k
    · rw [if_pos hik, if_neg (by omega)]
      exact fun e => ha j (by omega) e.symm
    · rw [if_neg hik]
      by_cases hjk : j = k
      · rw [if_pos hjk]
        exact ha i (by omega)
      · rw [if_neg hjk]
        exact h.apart i j (by omega) (by omega) hij
/-- The values of the list. -/
def rowVs (N k : Nat) (G C : Nat → Nat) : List Value := (List.range k).map fun i => .slice (some ⟨G i, 0, none⟩) N (C i)
theorem rowVs_len (N k : Nat) (G C : Nat → Nat) : (rowVs N k G C).length = k := by simp [rowVs]
theorem rowVs_get {N k : Nat} {G C : Nat → Nat} {i : Nat} (h : i < k) : (rowVs N k G C)[i]? = some (.slice (some ⟨G i, 0, none⟩) N (C i)) := by simp [rowVs, h]
theorem rowVs_snoc (N k : Nat) (G C : Nat → Nat) (g c : Nat) : rowVs N (k + 1) (fun i => if i = k then g else G i) (fun i => if i = k then c else C i) = rowVs N k G C ++ [.slice (some ⟨g, 0, none⟩) N c] := by
  unfold rowVs
  rw [List.range_succ, List.map_append]
  congr 1
  · refine List.map_congr_left fun i hi => ?_
    have : i ≠ k := by have := List.mem_range.1 hi; omega
    simp [this]
  · simp

end Go.Proofs.Ytfafccldngekgaa
