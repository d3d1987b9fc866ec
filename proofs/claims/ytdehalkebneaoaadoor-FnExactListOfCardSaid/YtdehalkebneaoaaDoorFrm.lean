/- From an argument that reads as data to what the walks ask; and back. -/
import Derived.ProofKit
import Derived.Deep.Matrix
import Derived.Deep.Fields
import Derived.Test.YtdehalkebneaoaaDoorRows
import Derived.Test.YtdehalkebneaoaaDoorMem
namespace Go.Proofs.YtdehalkebneaoaaDoor
open Go.ChangeShapes Go.WideShapes Go.ChangeAt Go.RowKit Go.Deep

theorem own_ : ownKnob Tryd.prog.godebug = none := by kernel_rfl
theorem laidOut_ : laidOutB Tryd.prog = true := by kernel_rfl
theorem cellsG : Tryd.prog.cellsOf 24 = 1 := by kernel_rfl
theorem cellsS : Tryd.prog.cellsOf 22 = 1 := by kernel_rfl
theorem cellsI : Tryd.prog.cellsOf 26 = 1 := by kernel_rfl
theorem cells1 : Tryd.prog.cellsOf 2 = 1 := by kernel_rfl

/-- An address with a cell, written out. -/
theorem addr_of_cell {w : World} {a : Addr} {v : Value} (h : w.cell? a = some v) : ∃ b o, a = ⟨b, o, none⟩ ∧ b < w.heap.size := by
  obtain ⟨b, o, s⟩ := a
  have hs : s = none := World.cell?_spot h
  subst hs
  exact ⟨b, o, rfl, World.block_lt_of_cell? _ _ h⟩

section
variable {H : Type} {enc : TypeId × Value → H}

/-- A slice of slices of integers that came in. -/
theorem open_table {w : World} {base fuel : Nat} {held : Bool} {v : Value} {x : DataW H × List MemPlace} (h : DataW.trod enc Tryd.prog w base (fun _ => true) held fuel 22 [v] = some x) :
    ∃ A t c, v = .slice A t.length c ∧ Rws w w.heap.size A t ∧ t.length ≤ maxLen ∧ (∀ i, i < t.length → (row t i).length ≤ maxLen) ∧ (∀ i, i < t.length → ∀ n ∈ row t i, (Lit.int .i64 n).wf = true) := by
  rcases open_int_rows Tryd.underlying22 Tryd.underlying26 Tryd.underlying2 cellsI cells1 h with ⟨hcs, _⟩ | ⟨a, len, cap, A, L, C, Z, hcs, _, hl, hm, _, hr⟩
  · simp only [List.cons.injEq, and_true] at hcs
    subst hcs
    exact ⟨none, [], 0, rfl, .inl rfl, Nat.zero_le _, fun i hi => absurd hi (by simp), fun i hi => absurd hi (by simp)⟩
  · simp only [List.cons.injEq, and_true] at hcs
    subst hcs
    have hrow : ∀ i, i < len → row ((List.range len).map fun r => (Z r).take (L r)) i = (Z i).take (L i) := fun i hi => by simp [row, hi]
    have hlen : ∀ i, i < len → ((Z i).take (L i)).length = L i := fun i hi => by
      obtain ⟨_, h1, _, h2, _⟩ := hr i (by omega)
      rw [List.length_take, h2]
      omega
    refine ⟨some a, (List.range len).map fun r => (Z r).take (L r), cap, by simp, ?_, by simp; omega, ?_, ?_⟩
    · rcases Nat.eq_zero_or_pos len with h0 | h0
      · subst h0
        exact .inl rfl
      · obtain ⟨hc0, _⟩ := hr 0 (by omega)
        obtain ⟨b, o, hab, hlt⟩ := addr_of_cell hc0
        have ha : a = ⟨b, o, none⟩ := by simpa [Addr.add] using hab
        subst ha
        refine .inr ⟨b, o, rfl, hlt, fun i hi => ?_⟩
        have hi' : i < len := by simpa using hi
        obtain ⟨hc, h1, h2, h3, h4, h5, h6⟩ := hr i (by omega)
        rw [add_plain] at hc
        refine ⟨A i, C i, by rw [hrow i hi', hlen i hi']; exact hc, ?_⟩
        rw [hrow i hi']
        rcases Nat.eq_zero_or_pos (L i) with hL | hL
        · left
          rw [hL]
          rfl
        · cases hA : A i with
          | none => have := h5 hA; omega
          | some a' =>
            obtain ⟨_, h7⟩ := h6 a' hA
            obtain ⟨b', o', hab', hlt'⟩ := addr_of_cell (h7 0 (by omega))
            have ha' : a' = ⟨b', o', none⟩ := by simpa [Addr.add] using hab'
            subst ha'
            refine .inr ⟨b', o', rfl, hlt', fun j hj => ?_⟩
            rw [hlen i hi'] at hj
            have h8 := h7 j (by omega)
            rw [add_plain] at h8
            rw [h8]
            simp [nth, hj, List.getD]
    · intro i hi
      have hi' : i < len := by simpa using hi
      rw [hrow i hi', hlen i hi']
      obtain ⟨_, h1, h2, _⟩ := hr i (by omega)
      omega
    · intro i hi n hn
      have hi' : i < len := by simpa using hi
      rw [hrow i hi'] at hn
      obtain ⟨_, _, _, _, h4, _⟩ := hr i (by omega)
      exact h4 n (List.mem_of_mem_take hn)

set_option maxRecDepth 100000 in
/-- A group that came in. -/
theorem open_group {w : World} {r : Reach} {b0 base : Nat} {held : Bool} {v : Value} {d : DataW H} {p : List MemPlace} (hv : Value.okWide Tryd.prog w r b0 24 v)
    (h : DataW.Trod enc Tryd.prog w base (fun _ => true) held 24 v d p) :
    ∃ A t c, v = .agg #[.slice A t.length c] ∧ Rws w w.heap.size A t ∧ t.length ≤ maxLen ∧ (∀ i, i < t.length → (row t i).length ≤ maxLen) ∧ (∀ i, i < t.length → ∀ n ∈ row t i, (Lit.int .i64 n).wf = true) := by
  obtain ⟨cs, rfl, hsz⟩ := okWide_struct Tryd.underlying24 hv
  rw [cellsG] at hsz
  obtain ⟨l⟩ := cs
  match l, hsz with
  | [c0], _ =>
    obtain ⟨fuel, hf⟩ := h
    obtain ⟨xs, n, _, _, _, hlen, hg⟩ := DataW.trod_struct Tryd.underlying24 hf
    have h0 := hg 0 _ rfl
    match xs, hlen with
    | [y0], _ =>
      have h1 : DataW.trod enc Tryd.prog w base (fun _ => true) held n 22 [c0] = some y0 := by simpa [Value.cells, cellsS] using h0
      obtain ⟨A, t, c, rfl, h2⟩ := open_table h1
      exact ⟨A, t, c, rfl, h2⟩

set_option maxRecDepth 100000 in
/-- What is asked behind the call of a law that answered true, where nothing that was there has turned. -/
theorem law_post {f : Func} {s : ChangeSpec} {W W' : World} {args : Array Value} {ds : List (DataW H)} {places pa : List MemPlace}
    (hW : DataW.Whole enc Tryd.prog f.params.toList s.vars false W args.toList ds [] places) (hb : Below W.heap.size W W') (hr : f.resultTypes = #[4]) (hv : s.vars = [])
    (hfn : s.fn H (ds ++ []) = { results := [.lit (.bool true)], args := ds })
    (hargs : DataW.TrodAll enc Tryd.prog W' 0 (fun b => decide (b < W.heap.size)) true f.params.toList args.toList ds pa) (hps : places = pa) :
    s.post enc Tryd.prog f false true false false W args (.bool true) W' := by
  refine ⟨ds, [], places, [], pa, [], hW, ?_, ?_, ?_, World.keptBut_mono (fun p hp => ⟨hp, ?_⟩) (hb.frame (· ∈ places)), fun h => by cases h⟩
  · rw [hfn, hr]
    exact trodAll_mk1 (shut_bool Tryd.underlying4 true)
  · rw [hfn]
    exact hargs
  · rw [hfn, hv]
    rfl
  · subst hps
    exact .inr (.inl hp)
end

end Go.Proofs.YtdehalkebneaoaaDoor
