/- Frm Frm2 Frm3 in one text. -/
import Derived.ProofKit
import Derived.Deep.Matrix
import Derived.Deep.Fields
import Derived.Carry
import Derived.Test.YtcdijeeabgmgmaaGreatDoorRows
import Derived.Test.YtcdijeeabgmgmaaGreatDoorBa
/- From an argument that reads as data to what the walks ask; and back. -/
namespace Go.Proofs.YtcdijeeabgmgmaaGreatDoor
open Go.ChangeShapes Go.WideShapes Go.ChangeAt Go.RowKit Go.Deep

theorem own_ : ownKnob Tryz.prog.godebug = none := by kernel_rfl
theorem laidOut_ : laidOutB Tryz.prog = true := by kernel_rfl
theorem cellsG : Tryz.prog.cellsOf 24 = 1 := by kernel_rfl
theorem cellsS : Tryz.prog.cellsOf 22 = 1 := by kernel_rfl
theorem cellsI : Tryz.prog.cellsOf 25 = 1 := by kernel_rfl
theorem cells1 : Tryz.prog.cellsOf 2 = 1 := by kernel_rfl

/-- An address with a cell, written out. -/
theorem addr_of_cell {w : World} {a : Addr} {v : Value} (h : w.cell? a = some v) : ∃ b o, a = ⟨b, o, none⟩ ∧ b < w.heap.size := by
  obtain ⟨b, o, s⟩ := a
  have hs : s = none := World.cell?_spot h
  subst hs
  exact ⟨b, o, rfl, World.block_lt_of_cell? _ _ h⟩

section
variable {H : Type} {enc : TypeId × Value → H}

/-- A slice of slices of integers that came in. -/
theorem open_table {w : World} {base fuel : Nat} {held : Bool} {v : Value} {x : DataW H × List MemPlace} (h : DataW.trod enc Tryz.prog w base (fun _ => true) held fuel 22 [v] = some x) :
    ∃ A t c, v = .slice A t.length c ∧ Rws w w.heap.size A t ∧ t.length ≤ maxLen ∧ (∀ i, i < t.length → (row t i).length ≤ maxLen) ∧ (∀ i, i < t.length → ∀ n ∈ row t i, (Lit.int .i64 n).wf = true) := by
  rcases open_int_rows Tryz.underlying22 Tryz.underlying25 Tryz.underlying2 cellsI cells1 h with ⟨hcs, _⟩ | ⟨a, len, cap, A, L, C, Z, hcs, _, hl, hm, _, hr⟩
  · simp only [List.cons.injEq, and_true] at hcs
    subst hcs
    exact ⟨none, [], 0, rfl, .inl rfl, Nat.zero_le _, fun i hi => absurd hi (by simp), fun i hi => absurd hi (by simp)⟩
  · simp only [List.cons.injEq, and_true] at hcs
    subst hcs
    have hrow : ∀ i, i < len → row ((List.range len).map fun r => (Z r).take (L r)) i = (Z i).take (L i) := fun i hi => by simp [row, hi]
    have hlen : ∀ i, i < len → ((Z i).take (L i)).length = L i := fun i hi => by
      obtain ⟨_, h1, _, h2, _⟩ := hr i (by omega)
      rw [List.length_take, h2]
      omega
    refine ⟨some a, (List.range len).map fun r => (Z r).take (L r), cap, by simp, ?_, by simp; omega, ?_, ?_⟩
    · rcases Nat.eq_zero_or_pos len with h0 | h0
      · subst h0
        exact .inl rfl
      · obtain ⟨hc0, _⟩ := hr 0 (by omega)
        obtain ⟨b, o, hab, hlt⟩ := addr_of_cell hc0
        have ha : a = ⟨b, o, none⟩ := by simpa [Addr.add] using hab
        subst ha
        refine .inr ⟨b, o, rfl, hlt, fun i hi => ?_⟩
        have hi' : i < len := by simpa using hi
        obtain ⟨hc, h1, h2, h3, h4, h5, h6⟩ := hr i (by omega)
        rw [add_plain] at hc
        refine ⟨A i, C i, by rw [hrow i hi', hlen i hi']; exact hc, ?_⟩
        rw [hrow i hi']
        rcases Nat.eq_zero_or_pos (L i) with hL | hL
        · left
          rw [hL]
          rfl
        · cases hA : A i with
          | none => have := h5 hA; omega
          | some a' =>
            obtain ⟨_, h7⟩ := h6 a' hA
            obtain ⟨b', o', hab', hlt'⟩ := addr_of_cell (h7 0 (by omega))
            have ha' : a' = ⟨b', o', none⟩ := by simpa [Addr.add] using hab'
            subst ha'
            refine .inr ⟨b', o', rfl, hlt', fun j hj => ?_⟩
            rw [hlen i hi'] at hj
            have h8 := h7 j (by omega)
            rw [add_plain] at h8
            rw [h8]
            simp [nth, hj, List.getD]
    · intro i hi
      have hi' : i < len := by simpa using hi
      rw [hrow i hi', hlen i hi']
      obtain ⟨_, h1, h2, _⟩ := hr i (by omega)
      omega
    · intro i hi n hn
      have hi' : i < len := by simpa using hi
      rw [hrow i hi'] at hn
      obtain ⟨_, _, _, _, h4, _⟩ := hr i (by omega)
      exact h4 n (List.mem_of_mem_take hn)

set_option maxRecDepth 100000 in
/-- A group that came in. -/
theorem open_group {w : World} {r : Reach} {b0 base : Nat} {held : Bool} {v : Value} {d : DataW H} {p : List MemPlace} (hv : Value.okWide Tryz.prog w r b0 24 v)
    (h : DataW.Trod enc Tryz.prog w base (fun _ => true) held 24 v d p) :
    ∃ A t c, v = .agg #[.slice A t.length c] ∧ Rws w w.heap.size A t ∧ t.length ≤ maxLen ∧ (∀ i, i < t.length → (row t i).length ≤ maxLen) ∧ (∀ i, i < t.length → ∀ n ∈ row t i, (Lit.int .i64 n).wf = true) := by
  obtain ⟨cs, rfl, hsz⟩ := okWide_struct Tryz.underlying24 hv
  rw [cellsG] at hsz
  obtain ⟨l⟩ := cs
  match l, hsz with
  | [c0], _ =>
    obtain ⟨fuel, hf⟩ := h
    obtain ⟨xs, n, _, _, _, hlen, hg⟩ := DataW.trod_struct Tryz.underlying24 hf
    have h0 := hg 0 _ rfl
    match xs, hlen with
    | [y0], _ =>
      have h1 : DataW.trod enc Tryz.prog w base (fun _ => true) held n 22 [c0] = some y0 := by simpa [Value.cells, cellsS] using h0
      obtain ⟨A, t, c, rfl, h2⟩ := open_table h1
      exact ⟨A, t, c, rfl, h2⟩

set_option maxRecDepth 100000 in
/-- What is asked behind the call of a law that answered true, where nothing that was there has turned. -/
theorem law_post {f : Func} {s : ChangeSpec} {W W' : World} {args : Array Value} {ds : List (DataW H)} {places pa : List MemPlace}
    (hW : DataW.Whole enc Tryz.prog f.params.toList s.vars false W args.toList ds [] places) (hb : Below W.heap.size W W') (hr : f.resultTypes = #[4]) (hv : s.vars = [])
    (hfn : s.fn H (ds ++ []) = { results := [.lit (.bool true)], args := ds })
    (hargs : DataW.TrodAll enc Tryz.prog W' 0 (fun b => decide (b < W.heap.size)) true f.params.toList args.toList ds pa) (hps : places = pa) :
    s.post enc Tryz.prog f false true false false W args (.bool true) W' := by
  refine ⟨ds, [], places, [], pa, [], hW, ?_, ?_, ?_, World.keptBut_mono (fun p hp => ⟨hp, ?_⟩) (hb.frame (· ∈ places)), fun h => by cases h⟩
  · rw [hfn, hr]
    exact trodAll_mk1 (shut_bool Tryz.underlying4 true)
  · rw [hfn]
    exact hargs
  · rw [hfn, hv]
    rfl
  · subst hps
    exact .inr (.inl hp)
end

end Go.Proofs.YtcdijeeabgmgmaaGreatDoor

/- A list of numbers that came in; a module that came in. -/
namespace Go.Proofs.YtcdijeeabgmgmaaGreatDoor
open Go.ChangeShapes Go.WideShapes Go.ChangeAt Go.RowKit

theorem cellsM : Tryz.prog.cellsOf 48 = 2 := by kernel_rfl

section
variable {H : Type} {enc : TypeId × Value → H}

theorem open_nums {w : World} {base fuel : Nat} {held : Bool} {v : Value} {x : DataW H × List MemPlace} (h : DataW.trod enc Tryz.prog w base (fun _ => true) held fuel 25 [v] = some x) :
    ∃ L xs c, v = .slice L xs.length c ∧ Ints w w.heap.size L xs ∧ xs.length ≤ maxLen := by
  rcases open_ints Tryz.underlying25 Tryz.underlying2 cells1 h with ⟨hcs, _⟩ | ⟨a, len, cap, zs, hcs, _, hl, hm, hz, _, hcell, _⟩
  · simp only [List.cons.injEq, and_true] at hcs
    subst hcs
    exact ⟨none, [], 0, rfl, .inl rfl, Nat.zero_le _⟩
  · simp only [List.cons.injEq, and_true] at hcs
    subst hcs
    have hz' : zs.length = cap := by simpa using hz
    have hlen : (zs.take len).length = len := by rw [List.length_take, hz']; omega
    refine ⟨some a, zs.take len, cap, by rw [hlen], ?_, by rw [hlen]; omega⟩
    rcases Nat.eq_zero_or_pos len with h0 | h0
    · left
      rw [h0]
      rfl
    · obtain ⟨b', o', hab, hlt⟩ := addr_of_cell (hcell 0 (by omega))
      have ha : a = ⟨b', o', none⟩ := by simpa [Addr.add] using hab
      subst ha
      refine .inr ⟨b', o', rfl, hlt, fun j hj => ?_⟩
      rw [hlen] at hj
      have h8 := hcell j (by omega)
      rw [add_plain] at h8
      rw [h8]
      simp [nth, hj, List.getD]

set_option maxRecDepth 100000 in
/-- A module that came in. -/
theorem open_module {w : World} {r : Reach} {b0 base : Nat} {held : Bool} {v : Value} {d : DataW H} {p : List MemPlace} (hv : Value.okWide Tryz.prog w r b0 48 v)
    (h : DataW.Trod enc Tryz.prog w base (fun _ => true) held 48 v d p) :
    ∃ m L us c, v = .agg #[.int .i64 m, .slice L us.length c] ∧ Ints w w.heap.size L us ∧ us.length ≤ maxLen := by
  obtain ⟨cs, rfl, hsz⟩ := okWide_struct Tryz.underlying48 hv
  rw [cellsM] at hsz
  obtain ⟨l⟩ := cs
  match l, hsz with
  | [c0, c1], _ =>
    obtain ⟨fuel, hf⟩ := h
    obtain ⟨xs, n, _, _, _, hlen, hg⟩ := DataW.trod_struct Tryz.underlying48 hf
    have h0 := hg 0 _ rfl
    have h1 := hg 1 _ rfl
    match xs, hlen with
    | [y0, y1], _ =>
      have h0' : DataW.trod enc Tryz.prog w base (fun _ => true) held n 2 [c0] = some y0 := by simpa [Value.cells, cells1] using h0
      have h1' : DataW.trod enc Tryz.prog w base (fun _ => true) held n 25 [c1] = some y1 := by simpa [Value.cells, cellsI] using h1
      obtain ⟨m, hm, _, _⟩ := DataW.trod_int Tryz.underlying2 h0'
      simp only [List.cons.injEq, and_true] at hm
      subst hm
      obtain ⟨L, us, c, rfl, h2⟩ := open_nums h1'
      exact ⟨m, L, us, c, rfl, h2⟩
end

end Go.Proofs.YtcdijeeabgmgmaaGreatDoor

/- A cochain and a list of numbers that came in; five arguments. -/
namespace Go.Proofs.YtcdijeeabgmgmaaGreatDoor
open Go.ChangeShapes Go.WideShapes Go.ChangeAt Go.RowKit

theorem cellsC : Tryz.prog.cellsOf 27 = 2 := by kernel_rfl

set_option maxRecDepth 100000 in
/-- A list of numbers that came in. -/
theorem open_list {H : Type} {enc : TypeId × Value → H} {w : World} {r : Reach} {b0 base : Nat} {held : Bool} {v : Value} {d : DataW H} {p : List MemPlace} (hv : Value.okWide Tryz.prog w r b0 25 v)
    (h : DataW.Trod enc Tryz.prog w base (fun _ => true) held 25 v d p) :
    ∃ L xs c, v = .slice L xs.length c ∧ Ints w w.heap.size L xs ∧ xs.length ≤ maxLen := by
  obtain ⟨a0, len0, cap0, rfl⟩ := okWide_slice Tryz.underlying25 hv
  obtain ⟨fuel, hf⟩ := h
  rcases open_ints Tryz.underlying25 Tryz.underlying2 cells1 hf with ⟨hcs, _⟩ | ⟨a, len, cap, zs, hcs, _, hl, hm, hz, _, hcell, _⟩
  · simp [Value.cells] at hcs
    obtain ⟨rfl, rfl, rfl⟩ := hcs
    exact ⟨none, [], 0, rfl, .inl rfl, Nat.zero_le _⟩
  · simp [Value.cells] at hcs
    obtain ⟨rfl, rfl, rfl⟩ := hcs
    have hz' : zs.length = cap0 := by simpa using hz
    have hlen : (zs.take len0).length = len0 := by rw [List.length_take, hz']; omega
    refine ⟨some a, zs.take len0, cap0, by rw [hlen], ?_, by rw [hlen]; omega⟩
    rcases Nat.eq_zero_or_pos len0 with h0 | h0
    · left
      rw [h0]
      rfl
    · obtain ⟨b', o', hab, hlt⟩ := addr_of_cell (hcell 0 (by omega))
      have ha : a = ⟨b', o', none⟩ := by simpa [Addr.add] using hab
      subst ha
      refine .inr ⟨b', o', rfl, hlt, fun j hj => ?_⟩
      rw [hlen] at hj
      have h8 := hcell j (by omega)
      rw [add_plain] at h8
      rw [h8]
      simp [nth, hj, List.getD]

section
variable {H : Type} {enc : TypeId × Value → H}

set_option maxRecDepth 100000 in
/-- A cochain that came in. -/
theorem open_cochain {w : World} {r : Reach} {b0 base : Nat} {held : Bool} {v : Value} {d : DataW H} {p : List MemPlace} (hv : Value.okWide Tryz.prog w r b0 27 v)
    (h : DataW.Trod enc Tryz.prog w base (fun _ => true) held 27 v d p) :
    ∃ m L us c, v = .agg #[.int .i64 m, .slice L us.length c] ∧ Ints w w.heap.size L us ∧ us.length ≤ maxLen := by
  obtain ⟨cs, rfl, hsz⟩ := okWide_struct Tryz.underlying27 hv
  rw [cellsC] at hsz
  obtain ⟨l⟩ := cs
  match l, hsz with
  | [c0, c1], _ =>
    obtain ⟨fuel, hf⟩ := h
    obtain ⟨xs, n, _, _, _, hlen, hg⟩ := DataW.trod_struct Tryz.underlying27 hf
    have h0 := hg 0 _ rfl
    have h1 := hg 1 _ rfl
    match xs, hlen with
    | [y0, y1], _ =>
      have h0' : DataW.trod enc Tryz.prog w base (fun _ => true) held n 2 [c0] = some y0 := by simpa [Value.cells, cells1] using h0
      have h1' : DataW.trod enc Tryz.prog w base (fun _ => true) held n 25 [c1] = some y1 := by simpa [Value.cells, cellsI] using h1
      obtain ⟨m, hm, _, _⟩ := DataW.trod_int Tryz.underlying2 h0'
      simp only [List.cons.injEq, and_true] at hm
      subst hm
      obtain ⟨L, us, c, rfl, h2⟩ := open_nums h1'
      exact ⟨m, L, us, c, rfl, h2⟩
end

section
variable {H : Type} {enc : TypeId × Value → H} {P : Program} {w : World} {base : Nat} {spare : Nat → Bool} {held : Bool}
theorem trodAll_five {t0 t1 t2 t3 t4 : TypeId} {args : Array Value} {ds : List (DataW H)} {ps : List MemPlace} (h : DataW.TrodAll enc P w base spare held [t0, t1, t2, t3, t4] args.toList ds ps) :
    ∃ v0 v1 v2 v3 v4 d0 d1 d2 d3 d4 p0 p1 p2 p3 p4, args = #[v0, v1, v2, v3, v4] ∧ ds = [d0, d1, d2, d3, d4] ∧ ps = p0 ++ p1 ++ p2 ++ p3 ++ p4 ∧ DataW.Trod enc P w base spare held t0 v0 d0 p0 ∧ DataW.Trod enc P w base spare held t1 v1 d1 p1 ∧ DataW.Trod enc P w base spare held t2 v2 d2 p2 ∧
      DataW.Trod enc P w base spare held t3 v3 d3 p3 ∧ DataW.Trod enc P w base spare held t4 v4 d4 p4 := by
  obtain ⟨v0, vs0, d0, ds0, p0, q0, hargs, rfl, rfl, h0, r0⟩ := trodAll_cons h
  obtain ⟨v1, vs1, d1, ds1, p1, q1, rfl, rfl, rfl, h1, r1⟩ := trodAll_cons r0
  obtain ⟨v2, vs2, d2, ds2, p2, q2, rfl, rfl, rfl, h2, r2⟩ := trodAll_cons r1
  obtain ⟨v3, vs3, d3, ds3, p3, q3, rfl, rfl, rfl, h3, r3⟩ := trodAll_cons r2
  obtain ⟨v4, vs4, d4, ds4, p4, q4, rfl, rfl, rfl, h4, r4⟩ := trodAll_cons r3
  obtain ⟨rfl, rfl, rfl⟩ := trodAll_nil r4
  exact ⟨v0, v1, v2, v3, v4, d0, d1, d2, d3, d4, p0, p1, p2, p3, p4, by cases args; simp_all, rfl, by simp, h0, h1, h2, h3, h4⟩

theorem trodAll_mk5 {t0 t1 t2 t3 t4 : TypeId} {v0 v1 v2 v3 v4 : Value} {d0 d1 d2 d3 d4 : DataW H} {p0 p1 p2 p3 p4 : List MemPlace} (h0 : DataW.Trod enc P w base spare held t0 v0 d0 p0) (h1 : DataW.Trod enc P w base spare held t1 v1 d1 p1)
    (h2 : DataW.Trod enc P w base spare held t2 v2 d2 p2) (h3 : DataW.Trod enc P w base spare held t3 v3 d3 p3) (h4 : DataW.Trod enc P w base spare held t4 v4 d4 p4) :
    DataW.TrodAll enc P w base spare held [t0, t1, t2, t3, t4] [v0, v1, v2, v3, v4] [d0, d1, d2, d3, d4] (p0 ++ (p1 ++ (p2 ++ (p3 ++ p4)))) := ⟨p0, p1 ++ (p2 ++ (p3 ++ p4)), h0, trodAll_mk4 h1 h2 h3 h4, rfl⟩
end

end Go.Proofs.YtcdijeeabgmgmaaGreatDoor
