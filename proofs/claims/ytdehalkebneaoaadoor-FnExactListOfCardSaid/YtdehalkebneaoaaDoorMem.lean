/- Words for memory: slices of integers and of rows that read as lists, kept while memory grows; struct results. -/
import Derived.WalkKit
import Derived.WalkSpells
import Derived.Deep.LoopGhost
import Derived.Lib.Hide
import Derived.Deep.DeepMust
import Derived.Outline
import Derived.Deep.Draws
import Derived.Deep.QuietTactic
import Derived.BigQuiet
namespace Go.Proofs.YtdehalkebneaoaaDoor
open Go.RowKit

/-- The element k of a list, the row k of a table: names that simp does not open. -/
def nth (xs : List Int) (k : Nat) : Int := xs[k]?.getD 0
def row (t : List (List Int)) (k : Nat) : List Int := t[k]?.getD []

/-- All numbers of a list are in the range of 64 bits with a sign. -/
def InI64 (xs : List Int) : Prop := ∀ i, i < xs.length → -9223372036854775808 ≤ nth xs i ∧ nth xs i ≤ 9223372036854775807

/-- The slice at A reads as the list xs, below block B. -/
def Ints (w : World) (B : Nat) (A : Option Addr) (xs : List Int) : Prop :=
  xs = [] ∨ ∃ b o, A = some ⟨b, o, none⟩ ∧ b < B ∧ ∀ j, j < xs.length → w.cell? ⟨b, o + j, none⟩ = some (.int .i64 (nth xs j))

/-- The slice of slices at A reads as the table t, below block B. -/
def Rws (w : World) (B : Nat) (A : Option Addr) (t : List (List Int)) : Prop :=
  t = [] ∨ ∃ b o, A = some ⟨b, o, none⟩ ∧ b < B ∧ ∀ i, i < t.length → ∃ R c, w.cell? ⟨b, o + i, none⟩ = some (.slice R (row t i).length c) ∧ Ints w B R (row t i)

theorem Ints.keep {w w' : World} {B : Nat} {A : Option Addr} {xs : List Int} (h : Ints w B A xs) (hk : ∀ p : Addr, p.block < B → w'.cell? p = w.cell? p) : Ints w' B A xs := by
  rcases h with h | ⟨b, o, e, hb, hc⟩
  · exact .inl h
  · exact .inr ⟨b, o, e, hb, fun j hj => (hk ⟨b, o + j, none⟩ hb).trans (hc j hj)⟩

theorem Ints.below {w w' : World} {B B' : Nat} {A : Option Addr} {xs : List Int} (h : Ints w B A xs) (hb : Below B' w w') (hB : B ≤ B') : Ints w' B A xs :=
  h.keep fun _ hp => hb.cell (by omega)

theorem Ints.more {w : World} {B B' : Nat} {A : Option Addr} {xs : List Int} (h : Ints w B A xs) (hB : B ≤ B') : Ints w B' A xs := by
  rcases h with h | ⟨b, o, e, hb, hc⟩
  · exact .inl h
  · exact .inr ⟨b, o, e, by omega, hc⟩

theorem Rws.keep {w w' : World} {B : Nat} {A : Option Addr} {t : List (List Int)} (h : Rws w B A t) (hk : ∀ p : Addr, p.block < B → w'.cell? p = w.cell? p) : Rws w' B A t := by
  rcases h with h | ⟨b, o, e, hb, hc⟩
  · exact .inl h
  · refine .inr ⟨b, o, e, hb, fun i hi => ?_⟩
    obtain ⟨R, c, h1, h2⟩ := hc i hi
    exact ⟨R, c, (hk ⟨b, o + i, none⟩ hb).trans h1, h2.keep hk⟩

theorem Rws.below {w w' : World} {B B' : Nat} {A : Option Addr} {t : List (List Int)} (h : Rws w B A t) (hb : Below B' w w') (hB : B ≤ B') : Rws w' B A t :=
  h.keep fun _ hp => hb.cell (by omega)

theorem Rws.more {w : World} {B B' : Nat} {A : Option Addr} {t : List (List Int)} (h : Rws w B A t) (hB : B ≤ B') : Rws w B' A t := by
  rcases h with h | ⟨b, o, e, hb, hc⟩
  · exact .inl h
  · refine .inr ⟨b, o, e, by omega, fun i hi => ?_⟩
    obtain ⟨R, c, h1, h2⟩ := hc i hi
    exact ⟨R, c, h1, h2.more hB⟩

/-! ### Blocks known whole -/

/-- The n values f 0, .., f (n - 1), as cells. -/
def tab (n : Nat) (f : Nat → Value) : Array Value := ((List.range n).map f).toArray

theorem tab_get {n : Nat} {f : Nat → Value} {j : Nat} (h : j < n) : (tab n f)[j]? = some (f j) := by
  simp [tab, h]

theorem tab_get_out {n : Nat} {f : Nat → Value} {j : Nat} (h : n ≤ j) : (tab n f)[j]? = none := by
  simp [tab, h]

theorem tab_size (n : Nat) (f : Nat → Value) : (tab n f).size = n := by simp [tab]

theorem tab_ext {n : Nat} {f : Nat → Value} {c : Array Value} (hs : c.size = n) (h : ∀ j, j < n → c[j]? = some (f j)) : c = tab n f := by
  apply Array.ext_getElem?
  intro j
  rcases Nat.lt_or_ge j n with hj | hj
  · rw [h j hj, tab_get hj]
  · rw [tab_get_out hj, Array.getElem?_eq_none (by omega)]

theorem tab_congr {n : Nat} {f g : Nat → Value} (h : ∀ j, j < n → f j = g j) : tab n f = tab n g :=
  tab_ext (tab_size n f) fun j hj => by rw [tab_get hj, h j hj]

theorem tab_set {n : Nat} {f : Nat → Value} {k : Nat} {v : Value} (hk : k < n) : (tab n f).setIfInBounds k v = tab n fun j => if j = k then v else f j := by
  apply tab_ext (by simp [tab_size])
  intro j hj
  by_cases h : j = k
  · subst h
    rw [Array.getElem?_setIfInBounds_self_of_lt (by rw [tab_size]; exact hj), if_pos rfl]
  · rw [Array.getElem?_setIfInBounds_ne (fun e => h e.symm), tab_get hj, if_neg h]

/-- Block g is just the cells cs, with elements of the type e, and none of them is frozen. -/
def Has (w : World) (g : Nat) (e : TypeId) (cs : Array Value) : Prop := w.heap[g]? = some (.cells cs e (0, 0))

section
variable {w w' : World} {g : Nat} {e : TypeId} {cs : Array Value}

theorem Has.lt (h : Has w g e cs) : g < w.heap.size := (Array.getElem?_eq_some_iff.1 h).1
theorem Has.cell (h : Has w g e cs) (j : Nat) : w.cell? ⟨g, j, none⟩ = cs[j]? := cell_of_row w g j cs e (0, 0) h
theorem Has.free (h : Has w g e cs) (j : Nat) : w.frozen? ⟨g, j, none⟩ = false := by
  have h' : w.heap[g]? = some (.cells cs e (0, 0)) := h
  simp [World.frozen?, h']
theorem Has.new (w : World) (e : TypeId) (cs : Array Value) : Has (w.alloc (.cells cs e)) w.heap.size e cs := heap_alloc_new w _
theorem Has.newAt {w : World} {e : TypeId} {cs : Array Value} {k : Nat} (hk : w.heap.size = k) : Has (w.alloc (.cells cs e)) k e cs := hk ▸ Has.new w e cs
theorem Has.alloc (h : Has w g e cs) (o : Obj) : Has (w.alloc o) g e cs := (Below.heap_alloc w o g h.lt).trans h
theorem Has.below {B : Nat} (h : Has w g e cs) (hb : Below B w w') (hg : g < B) : Has w' g e cs := (hb.block g hg).trans h
theorem Has.far (h : Has w g e cs) {p : Addr} (hp : g ≠ p.block) (u : Value) : Has (w.setCell p u) g e cs := (Below.heap_setCell w p u g hp).trans h
theorem Has.put (h : Has w g e cs) (j : Nat) (u : Value) : Has (w.setCell ⟨g, j, none⟩ u) g e (cs.setIfInBounds j u) := by
  have h' : w.heap[g]? = some (.cells cs e (0, 0)) := h
  show (w.setCell ⟨g, j, none⟩ u).heap[g]? = _
  simp [World.setCell, Array.getElem?_modify, h']
theorem Has.drewN (h : Has w g e cs) (n : Nat) : Has (w.drewN n) g e cs := h
end

theorem below_drewN {B : Nat} {a w : World} (h : Below B a w) (n : Nat) : Below B a (w.drewN n) := ⟨h.os, h.tape, h.output, h.size, h.block⟩

/-- A row of numbers that lies whole in its own block. -/
theorem Ints.of_has {w : World} {g n : Nat} {e : TypeId} {xs : List Int} (h : Has w g e (tab n fun j => .int .i64 (nth xs j))) (hn : n = xs.length) : Ints w (g + 1) (some ⟨g, 0, none⟩) xs :=
  .inr ⟨g, 0, rfl, by omega, fun j hj => by rw [Nat.zero_add, h.cell, tab_get (by omega)]⟩

/-- A table in new memory: the outer block G, and its rows behind it, each in its own block. -/
structure FreshT (w : World) (G : Nat) (eo ei : TypeId) (t : List (List Int)) : Prop where
  outer : Has w G eo (tab t.length fun i => .slice (some ⟨G + 1 + i, 0, none⟩) (row t i).length (row t i).length)
  inner : ∀ i, i < t.length → Has w (G + 1 + i) ei (tab (row t i).length fun j => .int .i64 (nth (row t i) j))

theorem FreshT.rws {w : World} {G : Nat} {eo ei : TypeId} {t : List (List Int)} (h : FreshT w G eo ei t) : Rws w (G + 1 + t.length) (some ⟨G, 0, none⟩) t :=
  .inr ⟨G, 0, rfl, by omega, fun i hi => ⟨some ⟨G + 1 + i, 0, none⟩, (row t i).length, by rw [Nat.zero_add, h.outer.cell, tab_get hi], (Ints.of_has (h.inner i hi) rfl).more (by omega)⟩⟩

theorem FreshT.below {w w' : World} {G B : Nat} {eo ei : TypeId} {t : List (List Int)} (h : FreshT w G eo ei t) (hb : Below B w w') (hB : G + 1 + t.length ≤ B) : FreshT w' G eo ei t :=
  ⟨h.outer.below hb (by omega), fun i hi => (h.inner i hi).below hb (by omega)⟩

/-- Nothing has turned but the count of draws. -/
def Drawn (w w' : World) : Prop := ∃ m, w' = w.drewN m
theorem Drawn.refl (w : World) : Drawn w w := ⟨0, rfl⟩
theorem Drawn.more {w w' : World} (h : Drawn w w') (n : Nat) : Drawn w (w'.drewN n) := by
  obtain ⟨m, rfl⟩ := h
  exact ⟨m + n, by rw [World.drewN_drewN]⟩
theorem Drawn.trans {a b c : World} (h : Drawn a b) (k : Drawn b c) : Drawn a c := by
  obtain ⟨n, rfl⟩ := k
  exact h.more n
theorem Drawn.below {w w' : World} (h : Drawn w w') (B : Nat) : Below B w w' := by
  obtain ⟨m, rfl⟩ := h
  exact below_drewN (Below.refl _ _) m
theorem Drawn.cell {w w' : World} (h : Drawn w w') (p : Addr) : w'.cell? p = w.cell? p := by
  obtain ⟨m, rfl⟩ := h
  rfl
theorem Drawn.size {w w' : World} (h : Drawn w w') : w'.heap.size = w.heap.size := by
  obtain ⟨m, rfl⟩ := h
  rfl
theorem Drawn.ints {w w' : World} (h : Drawn w w') {B : Nat} {A : Option Addr} {xs : List Int} (hx : Ints w B A xs) : Ints w' B A xs := hx.keep fun p _ => h.cell p
theorem Drawn.rws {w w' : World} (h : Drawn w w') {B : Nat} {A : Option Addr} {t : List (List Int)} (hx : Rws w B A t) : Rws w' B A t := hx.keep fun p _ => h.cell p

/-- One number, one row, as the walk wants to read them. -/
theorem Ints.at_ {w : World} {B : Nat} {A : Option Addr} {xs : List Int} (h : Ints w B A xs) {j : Nat} (hj : j < xs.length) :
    ∃ b o, A = some ⟨b, o, none⟩ ∧ b < B ∧ w.cell? ⟨b, o + j, none⟩ = some (.int .i64 (nth xs j)) := by
  rcases h with rfl | ⟨b, o, e, hb, hc⟩
  · exact absurd hj (by simp)
  · exact ⟨b, o, e, hb, hc j hj⟩

theorem Rws.at_ {w : World} {B : Nat} {A : Option Addr} {t : List (List Int)} (h : Rws w B A t) {i : Nat} (hi : i < t.length) :
    ∃ b o R c, A = some ⟨b, o, none⟩ ∧ b < B ∧ w.cell? ⟨b, o + i, none⟩ = some (.slice R (row t i).length c) ∧ Ints w B R (row t i) := by
  rcases h with rfl | ⟨b, o, e, hb, hc⟩
  · exact absurd hi (by simp)
  · obtain ⟨R, c, h1, h2⟩ := hc i hi
    exact ⟨b, o, R, c, e, hb, h1, h2⟩

/-- The table at ⟨b, o⟩, the address of its row k being R k, with the capacity C k. -/
def Tab (w : World) (B b o : Nat) (R : Nat → Option Addr) (C : Nat → Nat) (t : List (List Int)) : Prop :=
  b < B ∧ ∀ i, i < t.length → w.cell? ⟨b, o + i, none⟩ = some (.slice (R i) (row t i).length (C i)) ∧ Ints w B (R i) (row t i)

theorem Rws.tab {w : World} {B : Nat} {A : Option Addr} {t : List (List Int)} (h : Rws w B A t) (hn : 0 < t.length) :
    ∃ b o R C, A = some ⟨b, o, none⟩ ∧ Tab w B b o R C t := by
  rcases h with rfl | ⟨b, o, e, hb, hc⟩
  · exact absurd hn (by simp)
  · have hh : ∀ i, ∃ p : Option Addr × Nat, i < t.length → w.cell? ⟨b, o + i, none⟩ = some (.slice p.1 (row t i).length p.2) ∧ Ints w B p.1 (row t i) := by
      intro i
      by_cases hi : i < t.length
      · obtain ⟨R, c, h1, h2⟩ := hc i hi
        exact ⟨(R, c), fun _ => ⟨h1, h2⟩⟩
      · exact ⟨(none, 0), fun h => absurd h hi⟩
    obtain ⟨f, hf⟩ := Classical.axiomOfChoice hh
    exact ⟨b, o, fun i => (f i).1, fun i => (f i).2, e, hb, hf⟩

theorem Tab.keep {w w' : World} {B b o : Nat} {R : Nat → Option Addr} {C : Nat → Nat} {t : List (List Int)} (h : Tab w B b o R C t) (hk : ∀ p : Addr, p.block < B → w'.cell? p = w.cell? p) : Tab w' B b o R C t :=
  ⟨h.1, fun i hi => ⟨(hk ⟨b, o + i, none⟩ h.1).trans (h.2 i hi).1, (h.2 i hi).2.keep hk⟩⟩
theorem Tab.below {w w' : World} {B B' b o : Nat} {R : Nat → Option Addr} {C : Nat → Nat} {t : List (List Int)} (h : Tab w B b o R C t) (hb : Below B' w w') (hB : B ≤ B') : Tab w' B b o R C t :=
  h.keep fun _ hp => hb.cell (by omega)
theorem Drawn.tab {w w' : World} (h : Drawn w w') {B b o : Nat} {R : Nat → Option Addr} {C : Nat → Nat} {t : List (List Int)} (hx : Tab w B b o R C t) : Tab w' B b o R C t := hx.keep fun p _ => h.cell p
theorem Tab.row_ {w : World} {B b o : Nat} {R : Nat → Option Addr} {C : Nat → Nat} {t : List (List Int)} (h : Tab w B b o R C t) {i : Nat} (hi : i < t.length) :
    w.cell? ⟨b, o + i, none⟩ = some (.slice (R i) (row t i).length (C i)) := (h.2 i hi).1
theorem Tab.ent_ {w : World} {B b o : Nat} {R : Nat → Option Addr} {C : Nat → Nat} {t : List (List Int)} (h : Tab w B b o R C t) {i j : Nat} (hi : i < t.length) (hj : j < (row t i).length) :
    ∃ b' o', R i = some ⟨b', o', none⟩ ∧ b' < B ∧ w.cell? ⟨b', o' + j, none⟩ = some (.int .i64 (nth (row t i) j)) := (h.2 i hi).2.at_ hj

/-- A square table at ⟨b, o⟩: its row i lies at ⟨bb i, oo i⟩ with the capacity C i. -/
def SqT (w : World) (B b o : Nat) (bb oo C : Nat → Nat) (t : List (List Int)) : Prop :=
  b < B ∧ ∀ i, i < t.length → w.cell? ⟨b, o + i, none⟩ = some (.slice (some ⟨bb i, oo i, none⟩) t.length (C i)) ∧ bb i < B ∧
    ∀ j, j < t.length → w.cell? ⟨bb i, oo i + j, none⟩ = some (.int .i64 (nth (row t i) j))

theorem Tab.sq {w : World} {B b o : Nat} {R : Nat → Option Addr} {C : Nat → Nat} {t : List (List Int)} (h : Tab w B b o R C t) (hn : 0 < t.length) (hs : ∀ i, i < t.length → (row t i).length = t.length) :
    ∃ bb oo, SqT w B b o bb oo C t := by
  have hh : ∀ i, ∃ p : Nat × Nat, i < t.length → R i = some ⟨p.1, p.2, none⟩ ∧ p.1 < B ∧ ∀ j, j < t.length → w.cell? ⟨p.1, p.2 + j, none⟩ = some (.int .i64 (nth (row t i) j)) := by
    intro i
    by_cases hi : i < t.length
    · obtain ⟨_, h2⟩ := h.2 i hi
      rcases h2 with h2 | ⟨b', o', e, hb, hc⟩
      · have := hs i hi
        rw [h2] at this
        simp at this
        omega
      · exact ⟨(b', o'), fun _ => ⟨e, hb, fun j hj => hc j (by rw [hs i hi]; exact hj)⟩⟩
    · exact ⟨(0, 0), fun h => absurd h hi⟩
  obtain ⟨f, hf⟩ := Classical.axiomOfChoice hh
  refine ⟨fun i => (f i).1, fun i => (f i).2, h.1, fun i hi => ?_⟩
  obtain ⟨h1, h2, h3⟩ := hf i hi
  obtain ⟨h4, _⟩ := h.2 i hi
  rw [h1, hs i hi] at h4
  exact ⟨h4, h2, h3⟩

theorem Rws.sq {w : World} {B : Nat} {A : Option Addr} {t : List (List Int)} (h : Rws w B A t) (hn : 0 < t.length) (hs : ∀ i, i < t.length → (row t i).length = t.length) :
    ∃ b o bb oo C, A = some ⟨b, o, none⟩ ∧ SqT w B b o bb oo C t := by
  obtain ⟨b, o, R, C, e, hT⟩ := h.tab hn
  obtain ⟨bb, oo, hq⟩ := hT.sq hn hs
  exact ⟨b, o, bb, oo, C, e, hq⟩

section
variable {w w' : World} {B b o : Nat} {bb oo C : Nat → Nat} {t : List (List Int)}
theorem SqT.keep (h : SqT w B b o bb oo C t) (hk : ∀ p : Addr, p.block < B → w'.cell? p = w.cell? p) : SqT w' B b o bb oo C t :=
  ⟨h.1, fun i hi => ⟨(hk ⟨b, o + i, none⟩ h.1).trans (h.2 i hi).1, (h.2 i hi).2.1, fun j hj => (hk ⟨bb i, oo i + j, none⟩ (h.2 i hi).2.1).trans ((h.2 i hi).2.2 j hj)⟩⟩
theorem SqT.below {B' : Nat} (h : SqT w B b o bb oo C t) (hb : Below B' w w') (hB : B ≤ B') : SqT w' B b o bb oo C t := h.keep fun _ hp => hb.cell (by omega)
theorem Drawn.sqt (h : Drawn w w') (hx : SqT w B b o bb oo C t) : SqT w' B b o bb oo C t := hx.keep fun p _ => h.cell p
theorem SqT.row_ (h : SqT w B b o bb oo C t) {i : Nat} (hi : i < t.length) : w.cell? ⟨b, o + i, none⟩ = some (.slice (some ⟨bb i, oo i, none⟩) t.length (C i)) := (h.2 i hi).1
theorem SqT.row0 (h : SqT w B b o bb oo C t) (hi : 0 < t.length) : w.cell? ⟨b, o, none⟩ = some (.slice (some ⟨bb 0, oo 0, none⟩) t.length (C 0)) := (h.2 0 hi).1
theorem SqT.ent_ (h : SqT w B b o bb oo C t) {i j : Nat} (hi : i < t.length) (hj : j < t.length) : w.cell? ⟨bb i, oo i + j, none⟩ = some (.int .i64 (nth (row t i) j)) := (h.2 i hi).2.2 j hj
theorem SqT.ent0 (h : SqT w B b o bb oo C t) {i : Nat} (hi : i < t.length) : w.cell? ⟨bb i, oo i, none⟩ = some (.int .i64 (nth (row t i) 0)) := (h.2 i hi).2.2 0 (by omega)
theorem SqT.rws (h : SqT w B b o bb oo C t) (hs : ∀ i, i < t.length → (row t i).length = t.length) : Rws w B (some ⟨b, o, none⟩) t :=
  .inr ⟨b, o, rfl, h.1, fun i hi => ⟨_, C i, by rw [hs i hi]; exact h.row_ hi, .inr ⟨bb i, oo i, rfl, (h.2 i hi).2.1, fun j hj => h.ent_ hi (by rw [hs i hi] at hj; exact hj)⟩⟩⟩
/-- An entry that is an index. -/
theorem SqT.nat_ (h : SqT w B b o bb oo C t) {i j : Nat} (hi : i < t.length) (hj : j < t.length) (h0 : 0 ≤ nth (row t i) j) :
    w.cell? ⟨bb i, oo i + j, none⟩ = some (.int .i64 ((nth (row t i) j).toNat : Int)) := by
  rw [h.ent_ hi hj, Int.toNat_of_nonneg h0]
end

theorem SqT.idx {w : World} {B b o : Nat} {bb oo C : Nat → Nat} {t : List (List Int)} (h : SqT w B b o bb oo C t) {i j : Nat} (hi : i < t.length) (hj : j < t.length) (hr : 0 ≤ nth (row t i) j ∧ nth (row t i) j < t.length) :
    ∃ m : Nat, m < t.length ∧ Hid ((nth (row t i) j).toNat = m) ∧ w.cell? ⟨bb i, oo i + j, none⟩ = some (.int .i64 (m : Int)) :=
  ⟨(nth (row t i) j).toNat, by have := hr.1; have := hr.2; omega, Lib.hid rfl, h.nat_ hi hj hr.1⟩

theorem FreshT.drew {w : World} {G : Nat} {eo ei : TypeId} {t : List (List Int)} (h : FreshT w G eo ei t) : FreshT w.drew G eo ei t := ⟨h.outer, h.inner⟩
theorem FreshT.drewN {w : World} {G : Nat} {eo ei : TypeId} {t : List (List Int)} (h : FreshT w G eo ei t) (n : Nat) : FreshT (w.drewN n) G eo ei t := ⟨h.outer, h.inner⟩

end Go.Proofs.YtdehalkebneaoaaDoor
