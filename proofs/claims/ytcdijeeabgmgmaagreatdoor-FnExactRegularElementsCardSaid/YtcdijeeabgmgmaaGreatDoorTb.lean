/- Tables: rows that grow, and rows in one block. -/
import Derived.Test.YtcdijeeabgmgmaaGreatDoorExv
import Derived.Test.YtcdijeeabgmgmaaGreatDoorCel
namespace Go.Proofs.YtcdijeeabgmgmaaGreatDoor
open Go.RowKit

section
variable {a w w' : World} {lo b n : Nat} {v v' : Value} {xs : List Value} {T e : TypeId} {cs : Array Value}
theorem Has.off_row (h : Has w b T cs) (hT : T ≠ e) (ho : w.ownsRow lo e 1 v n xs) : some b ≠ v.ownBlock := by
  rcases ho.2 with ⟨rfl, _⟩ | ⟨g, cap, cur, rfl, _, hgb, _⟩
  · simp [Value.ownBlock]
  · intro e'
    obtain rfl : b = g := by simpa [Value.ownBlock] using e'
    have := (show w.heap[b]? = _ from h).symm.trans hgb
    simp at this
    exact hT this.2
theorem Has.grewR (h : Has w b T cs) (hT : T ≠ e) (ho : w.ownsRow lo e 1 v n xs) (hg : w.grownBy w' v.ownBlock) : Has w' b T cs := (hg.block b h.lt (h.off_row hT ho)).trans h
theorem Ex.grewR (h : Ex a w) (ho : w.ownsRow lo e 1 v n xs) (hl : a.heap.size ≤ lo) (hg : w.grownBy w' v.ownBlock) : Ex a w' :=
  Below.grown h.below hg h.size fun k hk => Nat.le_trans hl (ho.lt k hk).1
theorem row_block (h : w.ownsRow lo e 1 v n xs) (hn : 0 < n) : ∃ g c cs, v = .slice (some ⟨g, 0, none⟩) n c ∧ lo ≤ g ∧ n ≤ c ∧ Has w g e cs ∧ ∀ i, i < n → cs[i]? = xs[i]? := by
  rcases h.2 with ⟨_, h0⟩ | ⟨g, cap, cur, rfl, hg, hh, hr1, hr2, hr3, hr4⟩
  · omega
  · refine ⟨g, cap, cur, rfl, hg, hr1, hh, fun i hi => ?_⟩
    rw [← hr4, Nat.mul_one, List.getElem?_take_of_lt hi]
    simp
end

/-- The values of the list. -/
def rowVs (N k : Nat) (G C : Nat → Nat) : List Value := (List.range k).map fun i => .slice (some ⟨G i, 0, none⟩) N (C i)
theorem rowVs_len (N k : Nat) (G C : Nat → Nat) : (rowVs N k G C).length = k := by simp [rowVs]
theorem rowVs_get {N k : Nat} {G C : Nat → Nat} {i : Nat} (h : i < k) : (rowVs N k G C)[i]? = some (.slice (some ⟨G i, 0, none⟩) N (C i)) := by simp [rowVs, h]
theorem rowVs_snoc (N k : Nat) (G C : Nat → Nat) (g c : Nat) : rowVs N (k + 1) (fun i => if i = k then g else G i) (fun i => if i = k then c else C i) = rowVs N k G C ++ [.slice (some ⟨g, 0, none⟩) N c] := by
  unfold rowVs
  rw [List.range_succ, List.map_append]
  congr 1
  · refine List.map_congr_left fun i hi => ?_
    have : i ≠ k := by have := List.mem_range.1 hi; omega
    simp [this]
  · simp

/-- The table of what a function tells. -/
def mkT (k N : Nat) (V : Nat → Nat → Int) : List (List Int) := (List.range k).map fun i => (List.range N).map fun j => V i j
theorem mkT_len (k N : Nat) (V : Nat → Nat → Int) : (mkT k N V).length = k := by simp [mkT]
theorem mkT_row {k N i : Nat} {V : Nat → Nat → Int} (h : i < k) : row (mkT k N V) i = (List.range N).map fun j => V i j := by simp [mkT, row, h]
theorem mkT_row_len {k N i : Nat} {V : Nat → Nat → Int} (h : i < k) : (row (mkT k N V) i).length = N := by simp [mkT_row h]
theorem mkT_ent {k N i j : Nat} {V : Nat → Nat → Int} (h : i < k) (hj : j < N) : nth (row (mkT k N V) i) j = V i j := by simp [mkT_row h, nth, hj]
theorem mkT_congr {k N : Nat} {V U : Nat → Nat → Int} (h : ∀ i, i < k → ∀ j, j < N → V i j = U i j) : mkT k N V = mkT k N U := by
  unfold mkT
  refine List.map_congr_left fun i hi => List.map_congr_left fun j hj => h i (List.mem_range.1 hi) j (List.mem_range.1 hj)
theorem mkT_small {k N : Nat} {V : Nat → Nat → Int} (hk : k ≤ 1048576) (hN : N ≤ 1048576) : SmallT (mkT k N V) :=
  ⟨by rw [mkT_len]; exact hk, fun i hi => by rw [mkT_len] at hi; rw [mkT_row_len hi]; exact hN⟩

/-- Rows of numbers in blocks of their own. -/
structure RowsO (w : World) (lo N : Nat) (V : Nat → Nat → Int) (k : Nat) (G : Nat → Nat) : Prop where
  lo_le : ∀ i, i < k → lo ≤ G i
  has : ∀ i, i < k → ∃ cs, Has w (G i) 2 cs ∧ ∀ j, j < N → cs[j]? = some (.int .i64 (V i j))
  apart : ∀ i j, i < k → j < k → i ≠ j → G i ≠ G j
theorem RowsO.ex {w w' : World} {lo N k : Nat} {V : Nat → Nat → Int} {G : Nat → Nat} (h : RowsO w lo N V k G) (he : Ex w w') : RowsO w' lo N V k G :=
  ⟨h.lo_le, fun i hi => let ⟨cs, h1, h2⟩ := h.has i hi; ⟨cs, h1.ex he, h2⟩, h.apart⟩
theorem RowsO.grew {w w' : World} {lo lo' N k n : Nat} {V : Nat → Nat → Int} {G : Nat → Nat} {v : Value} {xs : List Value} (h : RowsO w lo N V k G) (ho : w.ownsRow lo' 25 1 v n xs) (hg : w.grownBy w' v.ownBlock) : RowsO w' lo N V k G :=
  ⟨h.lo_le, fun i hi => let ⟨cs, h1, h2⟩ := h.has i hi; ⟨cs, h1.grewR (by decide) ho hg, h2⟩, h.apart⟩
theorem RowsO.lt {w : World} {lo N k : Nat} {V : Nat → Nat → Int} {G : Nat → Nat} (h : RowsO w lo N V k G) {i : Nat} (hi : i < k) : G i < w.heap.size := let ⟨_, h1, _⟩ := h.has i hi; h1.lt
theorem RowsO.snoc {w : World} {lo N k : Nat} {V : Nat → Nat → Int} {G : Nat → Nat} (h : RowsO w lo N V k G) {g : Nat} {cs : Array Value} (hg : lo ≤ g) (hh : Has w g 2 cs) (hc : ∀ j, j < N → cs[j]? = some (.int .i64 (V k j))) (ha : ∀ i, i < k → G i ≠ g) :
    RowsO w lo N V (k + 1) (fun i => if i = k then g else G i) where
  lo_le i hi := by
    show lo ≤ if i = k then g else G i
    split
    · exact hg
    · exact h.lo_le i (by omega)
  has i hi := by
    show ∃ cs, Has w (if i = k then g else G i) _ cs ∧ _
    by_cases hik : i = k
    · subst hik
      rw [if_pos rfl]
      exact ⟨cs, hh, hc⟩
    · rw [if_neg hik]
      exact h.has i (by omega)
  apart i j hi hj hij := by
    show (if i = k then g else G i) ≠ if j = k then g else G j
    by_cases hik : i = k
    · rw [if_pos hik, if_neg (by omega)]
      exact fun e => ha j (by omega) e.symm
    · rw [if_neg hik]
      by_cases hjk : j = k
      · rw [if_pos hjk]
        exact ha i (by omega)
      · rw [if_neg hjk]
        exact h.apart i j (by omega) (by omega) hij

/-- A list of rows that grows. -/
def GrowT (w : World) (lo : Nat) (v : Value) (k N : Nat) (V : Nat → Nat → Int) : Prop := ∃ G C, w.ownsRow lo 25 1 v k (rowVs N k G C) ∧ RowsO w lo N V k G

section
variable {a w w' : World} {lo b k N c g : Nat} {v v' : Value} {V : Nat → Nat → Int} {T : TypeId} {cs : Array Value}
theorem GrowT.ex (h : GrowT w lo v k N V) (he : Ex w w') : GrowT w' lo v k N V := let ⟨G, C, h1, h2⟩ := h; ⟨G, C, own_below h1 he, h2.ex he⟩
theorem GrowT.nil (w : World) (lo N : Nat) (V : Nat → Nat → Int) : GrowT w lo (.slice none 0 0) 0 N V := ⟨id, id, World.ownsRow_nil _ _ _ _, ⟨fun i hi => by omega, fun i hi => by omega, fun i j hi => by omega⟩⟩
theorem GrowT.empty (w : World) (N : Nat) (V : Nat → Nat → Int) (h : lo ≤ w.heap.size) : GrowT (w.alloc (.cells #[] 25)) lo (.slice (some ⟨w.heap.size, 0, none⟩) 0 0) 0 N V :=
  ⟨id, id, own_empty w lo _ h, ⟨fun i hi => by omega, fun i hi => by omega, fun i j hi => by omega⟩⟩
theorem GrowT.off (h : GrowT w lo v k N V) (hb : Has w b T cs) (hT : T ≠ 25) : some b ≠ v.ownBlock := let ⟨_, _, h1, _⟩ := h; hb.off_row hT h1
theorem GrowT.has (h : GrowT w lo v k N V) (hb : Has w b T cs) (hT : T ≠ 25) (hg : w.grownBy w' v.ownBlock) : Has w' b T cs := let ⟨_, _, h1, _⟩ := h; hb.grewR hT h1 hg
theorem GrowT.world (h : GrowT w lo v k N V) (he : Ex a w) (hl : a.heap.size ≤ lo) (hg : w.grownBy w' v.ownBlock) : Ex a w' := let ⟨_, _, h1, _⟩ := h; he.grewR h1 hl hg
theorem GrowT.push {G C : Nat → Nat} (h1 : w.ownsRow lo 25 1 v k (rowVs N k G C)) (h2 : RowsO w lo N V k G) (hg : lo ≤ g) (hh : Has w g 2 cs) (hc : ∀ j, j < N → cs[j]? = some (.int .i64 (V k j))) (ha : ∀ i, i < k → G i ≠ g)
    (hgr : w.grownBy w' v.ownBlock) (ho : w'.ownsRow lo 25 1 v' (k + 1) (rowVs N k G C ++ [.slice (some ⟨g, 0, none⟩) N c])) : GrowT w' lo v' (k + 1) N V :=
  ⟨_, fun i => if i = k then c else C i, by rw [rowVs_snoc]; exact ho, (h2.snoc hg hh hc ha).grew h1 hgr⟩
theorem GrowT.set (h : GrowT w lo v k N V) (hb : Has w b T cs) (hT : T ≠ 25) (hT2 : T ≠ 2) (o : Nat) (u : Value) : GrowT (w.setCell ⟨b, o, none⟩ u) lo v k N V := by
  obtain ⟨G, C, h1, h2⟩ := h
  refine ⟨G, C, h1.kept (grownBy_set w b o u) (.inr fun e => hb.off_row hT h1 e.symm), h2.lo_le, fun i hi => ?_, h2.apart⟩
  obtain ⟨cs', h3, h4⟩ := h2.has i hi
  refine ⟨cs', h3.far (p := ⟨b, o, none⟩) (fun e => ?_) u, h4⟩
  have e' : G i = b := e
  rw [e'] at h3
  have h5 := (show w.heap[b]? = _ from hb).symm.trans (show w.heap[b]? = _ from h3)
  simp at h5
  exact hT2 h5.2
theorem GrowT.own (h : GrowT w lo v k N V) : ∃ A c, v = .slice A k c ∧ OwnT w lo w.heap.size A (mkT k N V) := by
  obtain ⟨G, C, ho, hr⟩ := h
  rcases Nat.eq_zero_or_pos k with h0 | h0
  · subst h0
    rcases ho.2 with ⟨rfl, _⟩ | ⟨g, cap, cur, rfl, _⟩
    · exact ⟨none, 0, rfl, OwnT.nil _ _ _ (Nat.le_refl _)⟩
    · exact ⟨_, _, rfl, OwnT.nil _ _ _ (Nat.le_refl _)⟩
  · obtain ⟨g, c, cs, rfl, hlo, hnc, hhas, hget⟩ := row_block ho h0
    refine ⟨_, _, rfl, Nat.le_refl _, fun _ => ⟨g, 0, fun i => some ⟨G i, 0, none⟩, G, fun _ => 0, C, rfl, hlo, hhas.lt, ?_, ?_, ?_⟩⟩
    · rw [mkT_len]
      exact {
        outer := fun i hi => by
          rw [Nat.zero_add, hhas.cell, hget i hi, rowVs_get hi]
          simp only [mkT_row_len hi]
        addr := fun i hi _ => rfl
        wr := fun i hi j hj => by
          try dsimp only at hj
          rw [mkT_row_len hi] at hj
          obtain ⟨cs', h1, h2⟩ := hr.has i hi
          exact ⟨⟨_, by rw [Nat.zero_add, h1.cell, h2 j hj]⟩, h1.free _⟩
        apart := fun i hi i' hi' hne o' hs => by
          have e := hs.1.1
          exact hr.apart i i' hi hi' hne e.symm
        off := fun i hi _ e => by
          obtain ⟨cs', h1, _⟩ := hr.has i hi
          have e' : G i = g := e
          rw [e'] at h1
          have h3 := (show w.heap[g]? = _ from h1).symm.trans (show w.heap[g]? = _ from hhas)
          simp at h3 }
    · intro i hi _
      rw [mkT_len] at hi
      exact ⟨hr.lo_le i hi, hr.lt hi⟩
    · intro i hi j hj
      rw [mkT_len] at hi
      rw [mkT_row_len hi] at hj
      obtain ⟨cs', h1, h2⟩ := hr.has i hi
      rw [Nat.zero_add, h1.cell, h2 j hj, mkT_ent hi hj]
end

/-- A row as far as it was made. -/
def rowP (f : Nat → Int) (j : Nat) : List Int := (List.range j).map f
theorem rowP_snoc (f : Nat → Int) (j : Nat) : rowP f (j + 1) = rowP f j ++ [f j] := by simp [rowP, List.range_succ]
theorem rowP_get {f : Nat → Int} {j n : Nat} (h : j < n) : ((rowP f n).map fun x => Value.int .i64 x)[j]? = some (.int .i64 (f j)) := by simp [rowP, h]
/-- A table whose rows are parts of one block. -/
theorem OwnT.of_block {w : World} {lo G R N : Nat} {C : Nat → Nat} {V : Nat → Nat → Int} (hG : Has w G 2 (tab (N * N) fun p => .int .i64 (V (p / N) (p % N)))) (hR : Has w R 25 (tab N fun i => .slice (some ⟨G, i * N, none⟩) N (C i))) (hlG : lo ≤ G) (hlR : lo ≤ R) :
    OwnT w lo w.heap.size (some ⟨R, 0, none⟩) (mkT N N V) := by
  have hpl : ∀ i j, i < N → j < N → i * N + j < N * N := fun i j hi hj => by
    have : (i + 1) * N ≤ N * N := Nat.mul_le_mul_right N hi
    rw [Nat.succ_mul] at this
    omega
  have hdiv : ∀ i j, j < N → (i * N + j) / N = i := fun i j hj => by
    rw [Nat.mul_comm, Nat.mul_add_div (by omega), Nat.div_eq_of_lt hj, Nat.add_zero]
  have hmod : ∀ i j, j < N → (i * N + j) % N = j := fun i j hj => by
    rw [Nat.mul_comm, Nat.mul_add_mod, Nat.mod_eq_of_lt hj]
  have hne : G ≠ R := by
    rintro rfl
    have h3 := (show w.heap[G]? = _ from hG).symm.trans (show w.heap[G]? = _ from hR)
    simp at h3
  refine ⟨Nat.le_refl _, fun _ => ⟨R, 0, fun i => some ⟨G, i * N, none⟩, fun _ => G, fun i => i * N, C, rfl, hlR, hR.lt, ?_, ?_, ?_⟩⟩
  · rw [mkT_len]
    exact {
      outer := fun i hi => by
        rw [Nat.zero_add, hR.cell, tab_get hi]
        simp only [mkT_row_len hi]
      addr := fun i hi _ => rfl
      wr := fun i hi j hj => by
        try dsimp only at hj
        rw [mkT_row_len hi] at hj
        exact ⟨⟨_, by rw [hG.cell, tab_get (hpl i j hi hj)]⟩, hG.free _⟩
      apart := fun i hi i' hi' hii o' hs => by
        try dsimp only at hs
        rw [mkT_row_len hi, mkT_row_len hi'] at hs
        obtain ⟨⟨_, h1, h2⟩, _, h3, h4⟩ := hs
        rcases Nat.lt_or_gt_of_ne hii with h | h
        · have : (i + 1) * N ≤ i' * N := Nat.mul_le_mul_right N h
          rw [Nat.succ_mul] at this
          omega
        · have : (i' + 1) * N ≤ i * N := Nat.mul_le_mul_right N h
          rw [Nat.succ_mul] at this
          omega
      off := fun i hi _ => hne }
  · intro i hi _
    exact ⟨hlG, hG.lt⟩
  · intro i hi j hj
    rw [mkT_len] at hi
    rw [mkT_row_len hi] at hj
    rw [hG.cell, tab_get (hpl i j hi hj), hdiv i j hj, hmod i j hj, mkT_ent hi hj]

end Go.Proofs.YtcdijeeabgmgmaaGreatDoor
