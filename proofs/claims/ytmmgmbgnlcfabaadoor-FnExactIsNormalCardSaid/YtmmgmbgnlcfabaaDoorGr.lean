/- A list of the call's own that grows by append. -/
import Derived.RangeFuncBox
import Derived.Test.YtmmgmbgnlcfabaaDoorEx
import Derived.Test.YtmmgmbgnlcfabaaDoorIsG
import Derived.Test.YtmmgmbgnlcfabaaDoorCe
namespace Go.Proofs.YtmmgmbgnlcfabaaDoor
open Go.RowKit

/-- A list that grows: the value v owns the n numbers xs, in a block from lo on. -/
def GrowI (w : World) (lo : Nat) (v : Value) (n : Nat) (xs : List Int) : Prop := w.ownsRow lo 2 1 v n (xs.map fun x => .int .i64 x) ∧ xs.length = n

section
variable {a w w' : World} {lo b n : Nat} {v v' : Value} {xs : List Int} {T : TypeId} {cs : Array Value}
theorem GrowI.ex (h : GrowI w lo v n xs) (k : Ex w w') : GrowI w' lo v n xs := ⟨own_below h.1 k, h.2⟩
theorem GrowI.nil (w : World) (lo : Nat) : GrowI w lo (.slice none 0 0) 0 [] := ⟨World.ownsRow_nil _ _ _ _, rfl⟩
theorem GrowI.empty (w : World) (h : lo ≤ w.heap.size) : GrowI (w.alloc (.cells #[] 2)) lo (.slice (some ⟨w.heap.size, 0, none⟩) 0 0) 0 [] := ⟨own_empty w lo _ h, rfl⟩
theorem Has.not_row (h : Has w b T cs) (hT : T ≠ 2) (ho : GrowI w lo v n xs) : some b ≠ v.ownBlock := by
  rcases ho.1.2 with ⟨rfl, _⟩ | ⟨g, cap, cur, rfl, _, hgb, _⟩
  · simp [Value.ownBlock]
  · intro e'
    obtain rfl : b = g := by simpa [Value.ownBlock] using e'
    have := (show w.heap[b]? = _ from h).symm.trans hgb
    simp at this
    exact hT this.2
theorem GrowI.kept (h : GrowI w lo v n xs) (hb : Has w b T cs) (hT : T ≠ 2) (hg : w.grownBy w' (some b)) : GrowI w' lo v n xs :=
  ⟨h.1.kept hg (.inr fun e => hb.not_row hT h e.symm), h.2⟩
theorem grownBy_set (w : World) (b o : Nat) (u : Value) : w.grownBy (w.setCell ⟨b, o, none⟩ u) (some b) :=
  ⟨rfl, rfl, rfl, (KeepsWalks.setCell w _ u).size, fun k _ hk => Below.heap_setCell _ _ _ k (fun e => hk (by rw [e]))⟩
theorem GrowI.set (h : GrowI w lo v n xs) (hb : Has w b T cs) (hT : T ≠ 2) (o : Nat) (u : Value) : GrowI (w.setCell ⟨b, o, none⟩ u) lo v n xs := h.kept hb hT (grownBy_set w b o u)
theorem Has.grew (h : Has w b T cs) (hT : T ≠ 2) (ho : GrowI w lo v n xs) (hg : w.grownBy w' v.ownBlock) : Has w' b T cs := (hg.block b h.lt (h.not_row hT ho)).trans h
theorem Ex.grew (h : Ex a w) (ho : GrowI w lo v n xs) (hl : a.heap.size ≤ lo) (hg : w.grownBy w' v.ownBlock) : Ex a w' :=
  Below.grown h.below hg h.size fun k hk => Nat.le_trans hl (ho.1.lt k hk).1
theorem GrowI.snoc {x : Int} (h : GrowI w lo v n xs) (ho : w'.ownsRow lo 2 1 v' (n + 1) ((xs.map fun x => .int .i64 x) ++ [.int .i64 x])) : GrowI w' lo v' (n + 1) (xs ++ [x]) :=
  ⟨by rw [List.map_append]; exact ho, by rw [List.length_append, h.2]; rfl⟩
theorem GrowI.own (h : GrowI w lo v n xs) : ∃ A c, v = .slice A xs.length c ∧ OwnL w lo w.heap.size A xs := by
  obtain ⟨h, rfl⟩ := h
  rcases h.2 with ⟨rfl, h0⟩ | ⟨g, cap, cur, rfl, hg, hh, hr1, hr2, hr3, hr4⟩
  · exact ⟨none, 0, by rw [h0], Nat.le_refl _, fun hp => by omega⟩
  · refine ⟨some ⟨g, 0, none⟩, cap, rfl, Nat.le_refl _, fun _ => ⟨g, 0, rfl, hg, (Array.getElem?_eq_some_iff.1 hh).1, fun j hj => ?_⟩⟩
    have h1 : w.cell? ⟨g, j, none⟩ = cur[j]? := cell_of_row w g j cur 2 (0, 0) hh
    rw [Nat.zero_add, h1]
    have h2 : cur[j]? = some (.int .i64 (nth xs j)) := by
      have h3 : (cur.toList.take (xs.length * 1))[j]? = some (.int .i64 (nth xs j)) := by
        rw [hr4]
        simp [nth, hj]
      rw [List.getElem?_take_of_lt (by omega)] at h3
      simpa using h3
    exact ⟨h2, by simp [World.frozen?, hh]⟩
end

end Go.Proofs.YtmmgmbgnlcfabaaDoor
