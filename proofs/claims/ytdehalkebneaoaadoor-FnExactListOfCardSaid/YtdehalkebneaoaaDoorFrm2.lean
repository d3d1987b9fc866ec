/- A list of numbers that came in; a module that came in. -/
import Derived.Test.YtdehalkebneaoaaDoorFrm
namespace Go.Proofs.YtdehalkebneaoaaDoor
open Go.ChangeShapes Go.WideShapes Go.ChangeAt Go.RowKit

theorem cellsM : Tryd.prog.cellsOf 37 = 2 := by kernel_rfl

section
variable {H : Type} {enc : TypeId × Value → H}

theorem open_nums {w : World} {base fuel : Nat} {held : Bool} {v : Value} {x : DataW H × List MemPlace} (h : DataW.trod enc Tryd.prog w base (fun _ => true) held fuel 26 [v] = some x) :
    ∃ L xs c, v = .slice L xs.length c ∧ Ints w w.heap.size L xs ∧ xs.length ≤ maxLen := by
  rcases open_ints Tryd.underlying26 Tryd.underlying2 cells1 h with ⟨hcs, _⟩ | ⟨a, len, cap, zs, hcs, _, hl, hm, hz, _, hcell, _⟩
  · simp only [List.cons.injEq, and_true] at hcs
    subst hcs
    exact ⟨none, [], 0, rfl, .inl rfl, Nat.zero_le _⟩
  · simp only [List.cons.injEq, and_true] at hcs
    subst hcs
    have hz' : zs.length = cap := by simpa using hz
    have hlen : (zs.take len).length = len := by rw [List.length_take, hz']; omega
    refine ⟨some a, zs.take len, cap, by rw [hlen], ?_, by rw [hlen]; omega⟩
    rcases Nat.eq_zero_or_pos len with h0 | h0
    · left
      rw [h0]
      rfl
    · obtain ⟨b', o', hab, hlt⟩ := addr_of_cell (hcell 0 (by omega))
      have ha : a = ⟨b', o', none⟩ := by simpa [Addr.add] using hab
      subst ha
      refine .inr ⟨b', o', rfl, hlt, fun j hj => ?_⟩
      rw [hlen] at hj
      have h8 := hcell j (by omega)
      rw [add_plain] at h8
      rw [h8]
      simp [nth, hj, List.getD]

set_option maxRecDepth 100000 in
/-- A module that came in. -/
theorem open_module {w : World} {r : Reach} {b0 base : Nat} {held : Bool} {v : Value} {d : DataW H} {p : List MemPlace} (hv : Value.okWide Tryd.prog w r b0 37 v)
    (h : DataW.Trod enc Tryd.prog w base (fun _ => true) held 37 v d p) :
    ∃ m L us c, v = .agg #[.int .i64 m, .slice L us.length c] ∧ Ints w w.heap.size L us ∧ us.length ≤ maxLen := by
  obtain ⟨cs, rfl, hsz⟩ := okWide_struct Tryd.underlying37 hv
  rw [cellsM] at hsz
  obtain ⟨l⟩ := cs
  match l, hsz with
  | [c0, c1], _ =>
    obtain ⟨fuel, hf⟩ := h
    obtain ⟨xs, n, _, _, _, hlen, hg⟩ := DataW.trod_struct Tryd.underlying37 hf
    have h0 := hg 0 _ rfl
    have h1 := hg 1 _ rfl
    match xs, hlen with
    | [y0, y1], _ =>
      have h0' : DataW.trod enc Tryd.prog w base (fun _ => true) held n 2 [c0] = some y0 := by simpa [Value.cells, cells1] using h0
      have h1' : DataW.trod enc Tryd.prog w base (fun _ => true) held n 26 [c1] = some y1 := by simpa [Value.cells, cellsI] using h1
      obtain ⟨m, hm, _, _⟩ := DataW.trod_int Tryd.underlying2 h0'
      simp only [List.cons.injEq, and_true] at hm
      subst hm
      obtain ⟨L, us, c, rfl, h2⟩ := open_nums h1'
      exact ⟨m, L, us, c, rfl, h2⟩
end

end Go.Proofs.YtdehalkebneaoaaDoor
