/- Slices and blocks of the call's own. -/
import Derived.Maps.AppendAt
import Derived.OwnWalk
import Derived.Test.YtdehalkebneaoaaDoorRng
namespace Go.Proofs.YtdehalkebneaoaaDoor
open Go.RowKit

/-- A slice of numbers of the call's own, from block lo on: it may be written. -/
def OwnI (w : World) (lo : Nat) (A : Option Addr) (xs : List Int) : Prop :=
  ∃ b o, (0 < xs.length → A = some ⟨b, o, none⟩) ∧ lo ≤ b ∧ b < w.heap.size ∧ (∀ j, j < xs.length → w.cell? ⟨b, o + j, none⟩ = some (.int .i64 (nth xs j)) ∧ w.frozen? ⟨b, o + j, none⟩ = false)

theorem own_below {w w' : World} {base : Nat} {e : TypeId} {size : Nat} {v : Value} {n : Nat} {xs : List Value} (h : w.ownsRow base e size v n xs) (hb : Below w.heap.size w w') : w'.ownsRow base e size v n xs := by
  refine ⟨h.1, ?_⟩
  rcases h.2 with h2 | ⟨g, cap, cur, hv, hg, hh, hr⟩
  · exact .inl h2
  · exact .inr ⟨g, cap, cur, hv, hg, (hb.block g (Array.getElem?_eq_some_iff.1 hh).1).trans hh, hr⟩

theorem own_empty (w : World) (base : Nat) (e : TypeId) (hb : base ≤ w.heap.size) : (w.alloc (.cells #[] e)).ownsRow base e 1 (.slice (some ⟨w.heap.size, 0, none⟩) 0 0) 0 [] :=
  ⟨rfl, .inr ⟨w.heap.size, 0, #[], rfl, hb, heap_alloc_new w _, Nat.le_refl _, Nat.zero_le _, rfl, rfl⟩⟩

/-- What a row of the call's own is as a slice of numbers. -/
theorem own_ints {w : World} {base : Nat} {e : TypeId} {v : Value} {n : Nat} {xs : List Int} (h : w.ownsRow base e 1 v n (xs.map fun x => .int .i64 x)) (hx : xs.length = n) (_ : base ≤ w.heap.size) (_ : 0 < w.heap.size) :
    ∃ A c, v = .slice A xs.length c ∧ (base < w.heap.size ∨ 0 < xs.length → OwnI w base A xs) := by
  subst hx
  rcases h.2 with ⟨rfl, h0⟩ | ⟨g, cap, cur, rfl, hg, hh, hr1, hr2, hr3, hr4⟩
  · refine ⟨none, 0, by rw [h0], fun hd => ?_⟩
    rcases hd with hd | hd
    · exact ⟨base, 0, fun h => absurd h (by omega), Nat.le_refl _, hd, fun j hj => absurd hj (by omega)⟩
    · omega
  · refine ⟨some ⟨g, 0, none⟩, cap, rfl, fun _ => ⟨g, 0, fun _ => rfl, hg, (Array.getElem?_eq_some_iff.1 hh).1, fun j hj => ?_⟩⟩
    have h1 : w.cell? ⟨g, j, none⟩ = cur[j]? := cell_of_row w g j cur e (0, 0) hh
    rw [Nat.zero_add, h1]
    have h2 : cur[j]? = some (.int .i64 (nth xs j)) := by
      have h3 : (cur.toList.take (xs.length * 1))[j]? = some (.int .i64 (nth xs j)) := by
        rw [hr4]
        simp [nth, hj]
      rw [List.getElem?_take_of_lt (by omega)] at h3
      simpa using h3
    exact ⟨h2, by simp [World.frozen?, hh]⟩

theorem OwnI.mono {w : World} {lo lo' : Nat} {A : Option Addr} {xs : List Int} (h : OwnI w lo A xs) (hl : lo' ≤ lo) : OwnI w lo' A xs :=
  let ⟨b, o, h1, h2, h3⟩ := h; ⟨b, o, h1, Nat.le_trans hl h2, h3⟩

theorem has_own {β : Type} (B : Nat) (e : TypeId) (f : β → Array Value) : Own (fun s W => Has W B e (f s)) := fun s X Y row hs hg hrow =>
  (hg.block B hs.lt (fun e' => by obtain ⟨o, ho, hc⟩ := hrow B e'.symm; rw [show X.heap[B]? = _ from hs] at ho; cases ho; cases hc)).trans hs

theorem cell_of_block {w w' : World} {b : Nat} (h : w'.heap[b]? = w.heap[b]?) (o : Nat) : w'.cell? ⟨b, o, none⟩ = w.cell? ⟨b, o, none⟩ := by simp [World.cell?, h]
theorem frozen_of_block {w w' : World} {b : Nat} (h : w'.heap[b]? = w.heap[b]?) (o : Nat) : w'.frozen? ⟨b, o, none⟩ = w.frozen? ⟨b, o, none⟩ := by simp [World.frozen?, h]

theorem OwnI.ints {w : World} {lo : Nat} {A : Option Addr} {xs : List Int} (h : OwnI w lo A xs) : Ints w w.heap.size A xs := by
  obtain ⟨b, o, h1, h2, h3, h4⟩ := h
  rcases xs with _ | ⟨x, xs⟩
  · exact .inl rfl
  · exact .inr ⟨b, o, h1 (by simp), h3, fun j hj => (h4 j hj).1⟩

theorem OwnI.below {w w' : World} {lo B : Nat} {A : Option Addr} {xs : List Int} (h : OwnI w lo A xs) (hb : Below B w w') (hB : w.heap.size ≤ B) : OwnI w' lo A xs := by
  obtain ⟨b, o, h1, h2, h3, h4⟩ := h
  have he := hb.block b (by omega)
  exact ⟨b, o, h1, h2, by have := hb.size; omega, fun j hj => ⟨(cell_of_block he _).trans (h4 j hj).1, (frozen_of_block he _).trans (h4 j hj).2⟩⟩

theorem OwnI.same {w w' : World} {lo : Nat} {A : Option Addr} {xs : List Int} (h : OwnI w lo A xs) (hs : w.heap.size ≤ w'.heap.size) (he : ∀ b, lo ≤ b → b < w.heap.size → w'.heap[b]? = w.heap[b]?) : OwnI w' lo A xs := by
  obtain ⟨b, o, h1, h2, h3, h4⟩ := h
  have hb := he b h2 h3
  exact ⟨b, o, h1, h2, by omega, fun j hj => ⟨(cell_of_block hb _).trans (h4 j hj).1, (frozen_of_block hb _).trans (h4 j hj).2⟩⟩

end Go.Proofs.YtdehalkebneaoaaDoor
