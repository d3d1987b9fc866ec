/- A list of numbers that came in; a module that came in. -/
import Derived.Test.YtmmgmbgnlcfabaaDoorFrm
namespace Go.Proofs.YtmmgmbgnlcfabaaDoor
open Go.ChangeShapes Go.WideShapes Go.ChangeAt Go.RowKit

section
variable {H : Type} {enc : TypeId × Value → H}

theorem open_nums {w : World} {base fuel : Nat} {held : Bool} {v : Value} {x : DataW H × List MemPlace} (h : DataW.trod enc Tryd.prog w base (fun _ => true) held fuel 26 [v] = some x) :
    ∃ L xs c, v = .slice L xs.length c ∧ Ints w w.heap.size L xs ∧ xs.length ≤ maxLen := by
  rcases open_ints Tryd.underlying26 Tryd.underlying2 cells1 h with ⟨hcs, _⟩ | ⟨a, len, cap, zs, hcs, _, hl, hm, hz, _, hcell, _⟩
  · simp only [List.cons.injEq, and_true] at hcs
    subst hcs
    exact ⟨none, [], 0, rfl, .inl rfl, Nat.zero_le _⟩
  · simp only [List.cons.injEq, and_true] at hcs
    subst hcs
    have hz' : zs.length = cap := by simpa using hz
    have hlen : (zs.take len).length = len := by rw [List.length_take, hz']; omega
    refine ⟨some a, zs.take len, cap, by rw [hlen], ?_, by rw [hlen]; omega⟩
    rcases Nat.eq_zero_or_pos len with h0 | h0
    · left
      rw [h0]
      rfl
    · obtain ⟨b', o', hab, hlt⟩ := addr_of_cell (hcell 0 (by omega))
      have ha : a = ⟨b', o', none⟩ := by simpa [Addr.add] using hab
      subst ha
      refine .inr ⟨b', o', rfl, hlt, fun j hj => ?_⟩
      rw [hlen] at hj
      have h8 := hcell j (by omega)
      rw [add_plain] at h8
      rw [h8]
      simp [nth, hj, List.getD]

end

end Go.Proofs.YtmmgmbgnlcfabaaDoor
