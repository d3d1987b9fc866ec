/- Mem Base Grp Alg Gcd Rng Own It Mk Lt Rnp in one text. -/
import Derived.WalkKit
import Derived.WalkSpells
import Derived.Deep.LoopGhost
import Derived.Lib.Hide
import Derived.Deep.DeepMust
import Derived.Outline
import Derived.Deep.Draws
import Derived.Deep.QuietTactic
import Derived.BigQuiet
import Derived.Laws.MakeOwn
import Derived.RangeFuncNested
import Derived.RangeFuncBound
import Derived.RangeFuncCalls
import Derived.RangeFuncLeaves
import Derived.Sort.BigQuietIn
import Derived.Deep.RegionHeld3
import Derived.Maps.AppendAt
import Derived.OwnWalk
import Derived.Shelf.Abstract
import Derived.OwnWalkIn
import Derived.TacticsInMore
import Derived.LoopNIn
import Derived.LoopIn
import Derived.Test.YtcdijeeabgmgmaaGreatDoorProg
/- Words for memory: slices of integers and of rows that read as lists, kept while memory grows; struct results. -/
namespace Go.Proofs.YtcdijeeabgmgmaaGreatDoor
open Go.RowKit

/-- The element k of a list, the row k of a table: names that simp does not open. -/
def nth (xs : List Int) (k : Nat) : Int := xs[k]?.getD 0
def row (t : List (List Int)) (k : Nat) : List Int := t[k]?.getD []

/-- All numbers of a list are in the range of 64 bits with a sign. -/
def InI64 (xs : List Int) : Prop := ∀ i, i < xs.length → -9223372036854775808 ≤ nth xs i ∧ nth xs i ≤ 9223372036854775807

/-- The slice at A reads as the list xs, below block B. -/
def Ints (w : World) (B : Nat) (A : Option Addr) (xs : List Int) : Prop :=
  xs = [] ∨ ∃ b o, A = some ⟨b, o, none⟩ ∧ b < B ∧ ∀ j, j < xs.length → w.cell? ⟨b, o + j, none⟩ = some (.int .i64 (nth xs j))

/-- The slice of slices at A reads as the table t, below block B. -/
def Rws (w : World) (B : Nat) (A : Option Addr) (t : List (List Int)) : Prop :=
  t = [] ∨ ∃ b o, A = some ⟨b, o, none⟩ ∧ b < B ∧ ∀ i, i < t.length → ∃ R c, w.cell? ⟨b, o + i, none⟩ = some (.slice R (row t i).length c) ∧ Ints w B R (row t i)

theorem Ints.keep {w w' : World} {B : Nat} {A : Option Addr} {xs : List Int} (h : Ints w B A xs) (hk : ∀ p : Addr, p.block < B → w'.cell? p = w.cell? p) : Ints w' B A xs := by
  rcases h with h | ⟨b, o, e, hb, hc⟩
  · exact .inl h
  · exact .inr ⟨b, o, e, hb, fun j hj => (hk ⟨b, o + j, none⟩ hb).trans (hc j hj)⟩

theorem Ints.below {w w' : World} {B B' : Nat} {A : Option Addr} {xs : List Int} (h : Ints w B A xs) (hb : Below B' w w') (hB : B ≤ B') : Ints w' B A xs :=
  h.keep fun _ hp => hb.cell (by omega)

theorem Ints.more {w : World} {B B' : Nat} {A : Option Addr} {xs : List Int} (h : Ints w B A xs) (hB : B ≤ B') : Ints w B' A xs := by
  rcases h with h | ⟨b, o, e, hb, hc⟩
  · exact .inl h
  · exact .inr ⟨b, o, e, by omega, hc⟩

theorem Rws.keep {w w' : World} {B : Nat} {A : Option Addr} {t : List (List Int)} (h : Rws w B A t) (hk : ∀ p : Addr, p.block < B → w'.cell? p = w.cell? p) : Rws w' B A t := by
  rcases h with h | ⟨b, o, e, hb, hc⟩
  · exact .inl h
  · refine .inr ⟨b, o, e, hb, fun i hi => ?_⟩
    obtain ⟨R, c, h1, h2⟩ := hc i hi
    exact ⟨R, c, (hk ⟨b, o + i, none⟩ hb).trans h1, h2.keep hk⟩

theorem Rws.below {w w' : World} {B B' : Nat} {A : Option Addr} {t : List (List Int)} (h : Rws w B A t) (hb : Below B' w w') (hB : B ≤ B') : Rws w' B A t :=
  h.keep fun _ hp => hb.cell (by omega)

theorem Rws.more {w : World} {B B' : Nat} {A : Option Addr} {t : List (List Int)} (h : Rws w B A t) (hB : B ≤ B') : Rws w B' A t := by
  rcases h with h | ⟨b, o, e, hb, hc⟩
  · exact .inl h
  · refine .inr ⟨b, o, e, by omega, fun i hi => ?_⟩
    obtain ⟨R, c, h1, h2⟩ := hc i hi
    exact ⟨R, c, h1, h2.more hB⟩

/-! ### Blocks known whole -/

/-- The n values f 0, .., f (n - 1), as cells. -/
def tab (n : Nat) (f : Nat → Value) : Array Value := ((List.range n).map f).toArray

theorem tab_get {n : Nat} {f : Nat → Value} {j : Nat} (h : j < n) : (tab n f)[j]? = some (f j) := by
  simp [tab, h]

theorem tab_get_out {n : Nat} {f : Nat → Value} {j : Nat} (h : n ≤ j) : (tab n f)[j]? = none := by
  simp [tab, h]

theorem tab_size (n : Nat) (f : Nat → Value) : (tab n f).size = n := by simp [tab]

theorem tab_ext {n : Nat} {f : Nat → Value} {c : Array Value} (hs : c.size = n) (h : ∀ j, j < n → c[j]? = some (f j)) : c = tab n f := by
  apply Array.ext_getElem?
  intro j
  rcases Nat.lt_or_ge j n with hj | hj
  · rw [h j hj, tab_get hj]
  · rw [tab_get_out hj, Array.getElem?_eq_none (by omega)]

theorem tab_congr {n : Nat} {f g : Nat → Value} (h : ∀ j, j < n → f j = g j) : tab n f = tab n g :=
  tab_ext (tab_size n f) fun j hj => by rw [tab_get hj, h j hj]

theorem tab_set {n : Nat} {f : Nat → Value} {k : Nat} {v : Value} (hk : k < n) : (tab n f).setIfInBounds k v = tab n fun j => if j = k then v else f j := by
  apply tab_ext (by simp [tab_size])
  intro j hj
  by_cases h : j = k
  · subst h
    rw [Array.getElem?_setIfInBounds_self_of_lt (by rw [tab_size]; exact hj), if_pos rfl]
  · rw [Array.getElem?_setIfInBounds_ne (fun e => h e.symm), tab_get hj, if_neg h]

/-- Block g is just the cells cs, with elements of the type e, and none of them is frozen. -/
def Has (w : World) (g : Nat) (e : TypeId) (cs : Array Value) : Prop := w.heap[g]? = some (.cells cs e (0, 0))

section
variable {w w' : World} {g : Nat} {e : TypeId} {cs : Array Value}

theorem Has.lt (h : Has w g e cs) : g < w.heap.size := (Array.getElem?_eq_some_iff.1 h).1
theorem Has.cell (h : Has w g e cs) (j : Nat) : w.cell? ⟨g, j, none⟩ = cs[j]? := cell_of_row w g j cs e (0, 0) h
theorem Has.free (h : Has w g e cs) (j : Nat) : w.frozen? ⟨g, j, none⟩ = false := by
  have h' : w.heap[g]? = some (.cells cs e (0, 0)) := h
  simp [World.frozen?, h']
theorem Has.new (w : World) (e : TypeId) (cs : Array Value) : Has (w.alloc (.cells cs e)) w.heap.size e cs := heap_alloc_new w _
theorem Has.newAt {w : World} {e : TypeId} {cs : Array Value} {k : Nat} (hk : w.heap.size = k) : Has (w.alloc (.cells cs e)) k e cs := hk ▸ Has.new w e cs
theorem Has.alloc (h : Has w g e cs) (o : Obj) : Has (w.alloc o) g e cs := (Below.heap_alloc w o g h.lt).trans h
theorem Has.below {B : Nat} (h : Has w g e cs) (hb : Below B w w') (hg : g < B) : Has w' g e cs := (hb.block g hg).trans h
theorem Has.far (h : Has w g e cs) {p : Addr} (hp : g ≠ p.block) (u : Value) : Has (w.setCell p u) g e cs := (Below.heap_setCell w p u g hp).trans h
theorem Has.put (h : Has w g e cs) (j : Nat) (u : Value) : Has (w.setCell ⟨g, j, none⟩ u) g e (cs.setIfInBounds j u) := by
  have h' : w.heap[g]? = some (.cells cs e (0, 0)) := h
  show (w.setCell ⟨g, j, none⟩ u).heap[g]? = _
  simp [World.setCell, Array.getElem?_modify, h']
theorem Has.drewN (h : Has w g e cs) (n : Nat) : Has (w.drewN n) g e cs := h
end

theorem below_drewN {B : Nat} {a w : World} (h : Below B a w) (n : Nat) : Below B a (w.drewN n) := ⟨h.os, h.tape, h.output, h.size, h.block⟩

/-- A row of numbers that lies whole in its own block. -/
theorem Ints.of_has {w : World} {g n : Nat} {e : TypeId} {xs : List Int} (h : Has w g e (tab n fun j => .int .i64 (nth xs j))) (hn : n = xs.length) : Ints w (g + 1) (some ⟨g, 0, none⟩) xs :=
  .inr ⟨g, 0, rfl, by omega, fun j hj => by rw [Nat.zero_add, h.cell, tab_get (by omega)]⟩

/-- A table in new memory: the outer block G, and its rows behind it, each in its own block. -/
structure FreshT (w : World) (G : Nat) (eo ei : TypeId) (t : List (List Int)) : Prop where
  outer : Has w G eo (tab t.length fun i => .slice (some ⟨G + 1 + i, 0, none⟩) (row t i).length (row t i).length)
  inner : ∀ i, i < t.length → Has w (G + 1 + i) ei (tab (row t i).length fun j => .int .i64 (nth (row t i) j))

theorem FreshT.rws {w : World} {G : Nat} {eo ei : TypeId} {t : List (List Int)} (h : FreshT w G eo ei t) : Rws w (G + 1 + t.length) (some ⟨G, 0, none⟩) t :=
  .inr ⟨G, 0, rfl, by omega, fun i hi => ⟨some ⟨G + 1 + i, 0, none⟩, (row t i).length, by rw [Nat.zero_add, h.outer.cell, tab_get hi], (Ints.of_has (h.inner i hi) rfl).more (by omega)⟩⟩

theorem FreshT.below {w w' : World} {G B : Nat} {eo ei : TypeId} {t : List (List Int)} (h : FreshT w G eo ei t) (hb : Below B w w') (hB : G + 1 + t.length ≤ B) : FreshT w' G eo ei t :=
  ⟨h.outer.below hb (by omega), fun i hi => (h.inner i hi).below hb (by omega)⟩

/-- Nothing has turned but the count of draws. -/
def Drawn (w w' : World) : Prop := ∃ m, w' = w.drewN m
theorem Drawn.refl (w : World) : Drawn w w := ⟨0, rfl⟩
theorem Drawn.more {w w' : World} (h : Drawn w w') (n : Nat) : Drawn w (w'.drewN n) := by
  obtain ⟨m, rfl⟩ := h
  exact ⟨m + n, by rw [World.drewN_drewN]⟩
theorem Drawn.trans {a b c : World} (h : Drawn a b) (k : Drawn b c) : Drawn a c := by
  obtain ⟨n, rfl⟩ := k
  exact h.more n
theorem Drawn.below {w w' : World} (h : Drawn w w') (B : Nat) : Below B w w' := by
  obtain ⟨m, rfl⟩ := h
  exact below_drewN (Below.refl _ _) m
theorem Drawn.cell {w w' : World} (h : Drawn w w') (p : Addr) : w'.cell? p = w.cell? p := by
  obtain ⟨m, rfl⟩ := h
  rfl
theorem Drawn.size {w w' : World} (h : Drawn w w') : w'.heap.size = w.heap.size := by
  obtain ⟨m, rfl⟩ := h
  rfl
theorem Drawn.ints {w w' : World} (h : Drawn w w') {B : Nat} {A : Option Addr} {xs : List Int} (hx : Ints w B A xs) : Ints w' B A xs := hx.keep fun p _ => h.cell p
theorem Drawn.rws {w w' : World} (h : Drawn w w') {B : Nat} {A : Option Addr} {t : List (List Int)} (hx : Rws w B A t) : Rws w' B A t := hx.keep fun p _ => h.cell p

/-- One number, one row, as the walk wants to read them. -/
theorem Ints.at_ {w : World} {B : Nat} {A : Option Addr} {xs : List Int} (h : Ints w B A xs) {j : Nat} (hj : j < xs.length) :
    ∃ b o, A = some ⟨b, o, none⟩ ∧ b < B ∧ w.cell? ⟨b, o + j, none⟩ = some (.int .i64 (nth xs j)) := by
  rcases h with rfl | ⟨b, o, e, hb, hc⟩
  · exact absurd hj (by simp)
  · exact ⟨b, o, e, hb, hc j hj⟩

theorem Rws.at_ {w : World} {B : Nat} {A : Option Addr} {t : List (List Int)} (h : Rws w B A t) {i : Nat} (hi : i < t.length) :
    ∃ b o R c, A = some ⟨b, o, none⟩ ∧ b < B ∧ w.cell? ⟨b, o + i, none⟩ = some (.slice R (row t i).length c) ∧ Ints w B R (row t i) := by
  rcases h with rfl | ⟨b, o, e, hb, hc⟩
  · exact absurd hi (by simp)
  · obtain ⟨R, c, h1, h2⟩ := hc i hi
    exact ⟨b, o, R, c, e, hb, h1, h2⟩

/-- The table at ⟨b, o⟩, the address of its row k being R k, with the capacity C k. -/
def Tab (w : World) (B b o : Nat) (R : Nat → Option Addr) (C : Nat → Nat) (t : List (List Int)) : Prop :=
  b < B ∧ ∀ i, i < t.length → w.cell? ⟨b, o + i, none⟩ = some (.slice (R i) (row t i).length (C i)) ∧ Ints w B (R i) (row t i)

theorem Rws.tab {w : World} {B : Nat} {A : Option Addr} {t : List (List Int)} (h : Rws w B A t) (hn : 0 < t.length) :
    ∃ b o R C, A = some ⟨b, o, none⟩ ∧ Tab w B b o R C t := by
  rcases h with rfl | ⟨b, o, e, hb, hc⟩
  · exact absurd hn (by simp)
  · have hh : ∀ i, ∃ p : Option Addr × Nat, i < t.length → w.cell? ⟨b, o + i, none⟩ = some (.slice p.1 (row t i).length p.2) ∧ Ints w B p.1 (row t i) := by
      intro i
      by_cases hi : i < t.length
      · obtain ⟨R, c, h1, h2⟩ := hc i hi
        exact ⟨(R, c), fun _ => ⟨h1, h2⟩⟩
      · exact ⟨(none, 0), fun h => absurd h hi⟩
    obtain ⟨f, hf⟩ := Classical.axiomOfChoice hh
    exact ⟨b, o, fun i => (f i).1, fun i => (f i).2, e, hb, hf⟩

theorem Tab.keep {w w' : World} {B b o : Nat} {R : Nat → Option Addr} {C : Nat → Nat} {t : List (List Int)} (h : Tab w B b o R C t) (hk : ∀ p : Addr, p.block < B → w'.cell? p = w.cell? p) : Tab w' B b o R C t :=
  ⟨h.1, fun i hi => ⟨(hk ⟨b, o + i, none⟩ h.1).trans (h.2 i hi).1, (h.2 i hi).2.keep hk⟩⟩
theorem Tab.below {w w' : World} {B B' b o : Nat} {R : Nat → Option Addr} {C : Nat → Nat} {t : List (List Int)} (h : Tab w B b o R C t) (hb : Below B' w w') (hB : B ≤ B') : Tab w' B b o R C t :=
  h.keep fun _ hp => hb.cell (by omega)
theorem Drawn.tab {w w' : World} (h : Drawn w w') {B b o : Nat} {R : Nat → Option Addr} {C : Nat → Nat} {t : List (List Int)} (hx : Tab w B b o R C t) : Tab w' B b o R C t := hx.keep fun p _ => h.cell p
theorem Tab.row_ {w : World} {B b o : Nat} {R : Nat → Option Addr} {C : Nat → Nat} {t : List (List Int)} (h : Tab w B b o R C t) {i : Nat} (hi : i < t.length) :
    w.cell? ⟨b, o + i, none⟩ = some (.slice (R i) (row t i).length (C i)) := (h.2 i hi).1
theorem Tab.ent_ {w : World} {B b o : Nat} {R : Nat → Option Addr} {C : Nat → Nat} {t : List (List Int)} (h : Tab w B b o R C t) {i j : Nat} (hi : i < t.length) (hj : j < (row t i).length) :
    ∃ b' o', R i = some ⟨b', o', none⟩ ∧ b' < B ∧ w.cell? ⟨b', o' + j, none⟩ = some (.int .i64 (nth (row t i) j)) := (h.2 i hi).2.at_ hj

/-- A square table at ⟨b, o⟩: its row i lies at ⟨bb i, oo i⟩ with the capacity C i. -/
def SqT (w : World) (B b o : Nat) (bb oo C : Nat → Nat) (t : List (List Int)) : Prop :=
  b < B ∧ ∀ i, i < t.length → w.cell? ⟨b, o + i, none⟩ = some (.slice (some ⟨bb i, oo i, none⟩) t.length (C i)) ∧ bb i < B ∧
    ∀ j, j < t.length → w.cell? ⟨bb i, oo i + j, none⟩ = some (.int .i64 (nth (row t i) j))

theorem Tab.sq {w : World} {B b o : Nat} {R : Nat → Option Addr} {C : Nat → Nat} {t : List (List Int)} (h : Tab w B b o R C t) (hn : 0 < t.length) (hs : ∀ i, i < t.length → (row t i).length = t.length) :
    ∃ bb oo, SqT w B b o bb oo C t := by
  have hh : ∀ i, ∃ p : Nat × Nat, i < t.length → R i = some ⟨p.1, p.2, none⟩ ∧ p.1 < B ∧ ∀ j, j < t.length → w.cell? ⟨p.1, p.2 + j, none⟩ = some (.int .i64 (nth (row t i) j)) := by
    intro i
    by_cases hi : i < t.length
    · obtain ⟨_, h2⟩ := h.2 i hi
      rcases h2 with h2 | ⟨b', o', e, hb, hc⟩
      · have := hs i hi
        rw [h2] at this
        simp at this
        omega
      · exact ⟨(b', o'), fun _ => ⟨e, hb, fun j hj => hc j (by rw [hs i hi]; exact hj)⟩⟩
    · exact ⟨(0, 0), fun h => absurd h hi⟩
  obtain ⟨f, hf⟩ := Classical.axiomOfChoice hh
  refine ⟨fun i => (f i).1, fun i => (f i).2, h.1, fun i hi => ?_⟩
  obtain ⟨h1, h2, h3⟩ := hf i hi
  obtain ⟨h4, _⟩ := h.2 i hi
  rw [h1, hs i hi] at h4
  exact ⟨h4, h2, h3⟩

theorem Rws.sq {w : World} {B : Nat} {A : Option Addr} {t : List (List Int)} (h : Rws w B A t) (hn : 0 < t.length) (hs : ∀ i, i < t.length → (row t i).length = t.length) :
    ∃ b o bb oo C, A = some ⟨b, o, none⟩ ∧ SqT w B b o bb oo C t := by
  obtain ⟨b, o, R, C, e, hT⟩ := h.tab hn
  obtain ⟨bb, oo, hq⟩ := hT.sq hn hs
  exact ⟨b, o, bb, oo, C, e, hq⟩

section
variable {w w' : World} {B b o : Nat} {bb oo C : Nat → Nat} {t : List (List Int)}
theorem SqT.keep (h : SqT w B b o bb oo C t) (hk : ∀ p : Addr, p.block < B → w'.cell? p = w.cell? p) : SqT w' B b o bb oo C t :=
  ⟨h.1, fun i hi => ⟨(hk ⟨b, o + i, none⟩ h.1).trans (h.2 i hi).1, (h.2 i hi).2.1, fun j hj => (hk ⟨bb i, oo i + j, none⟩ (h.2 i hi).2.1).trans ((h.2 i hi).2.2 j hj)⟩⟩
theorem SqT.below {B' : Nat} (h : SqT w B b o bb oo C t) (hb : Below B' w w') (hB : B ≤ B') : SqT w' B b o bb oo C t := h.keep fun _ hp => hb.cell (by omega)
theorem Drawn.sqt (h : Drawn w w') (hx : SqT w B b o bb oo C t) : SqT w' B b o bb oo C t := hx.keep fun p _ => h.cell p
theorem SqT.row_ (h : SqT w B b o bb oo C t) {i : Nat} (hi : i < t.length) : w.cell? ⟨b, o + i, none⟩ = some (.slice (some ⟨bb i, oo i, none⟩) t.length (C i)) := (h.2 i hi).1
theorem SqT.row0 (h : SqT w B b o bb oo C t) (hi : 0 < t.length) : w.cell? ⟨b, o, none⟩ = some (.slice (some ⟨bb 0, oo 0, none⟩) t.length (C 0)) := (h.2 0 hi).1
theorem SqT.ent_ (h : SqT w B b o bb oo C t) {i j : Nat} (hi : i < t.length) (hj : j < t.length) : w.cell? ⟨bb i, oo i + j, none⟩ = some (.int .i64 (nth (row t i) j)) := (h.2 i hi).2.2 j hj
theorem SqT.ent0 (h : SqT w B b o bb oo C t) {i : Nat} (hi : i < t.length) : w.cell? ⟨bb i, oo i, none⟩ = some (.int .i64 (nth (row t i) 0)) := (h.2 i hi).2.2 0 (by omega)
theorem SqT.rws (h : SqT w B b o bb oo C t) (hs : ∀ i, i < t.length → (row t i).length = t.length) : Rws w B (some ⟨b, o, none⟩) t :=
  .inr ⟨b, o, rfl, h.1, fun i hi => ⟨_, C i, by rw [hs i hi]; exact h.row_ hi, .inr ⟨bb i, oo i, rfl, (h.2 i hi).2.1, fun j hj => h.ent_ hi (by rw [hs i hi] at hj; exact hj)⟩⟩⟩
/-- An entry that is an index. -/
theorem SqT.nat_ (h : SqT w B b o bb oo C t) {i j : Nat} (hi : i < t.length) (hj : j < t.length) (h0 : 0 ≤ nth (row t i) j) :
    w.cell? ⟨bb i, oo i + j, none⟩ = some (.int .i64 ((nth (row t i) j).toNat : Int)) := by
  rw [h.ent_ hi hj, Int.toNat_of_nonneg h0]
end

theorem SqT.idx {w : World} {B b o : Nat} {bb oo C : Nat → Nat} {t : List (List Int)} (h : SqT w B b o bb oo C t) {i j : Nat} (hi : i < t.length) (hj : j < t.length) (hr : 0 ≤ nth (row t i) j ∧ nth (row t i) j < t.length) :
    ∃ m : Nat, m < t.length ∧ Hid ((nth (row t i) j).toNat = m) ∧ w.cell? ⟨bb i, oo i + j, none⟩ = some (.int .i64 (m : Int)) :=
  ⟨(nth (row t i) j).toNat, by have := hr.1; have := hr.2; omega, Lib.hid rfl, h.nat_ hi hj hr.1⟩

theorem FreshT.drew {w : World} {G : Nat} {eo ei : TypeId} {t : List (List Int)} (h : FreshT w G eo ei t) : FreshT w.drew G eo ei t := ⟨h.outer, h.inner⟩
theorem FreshT.drewN {w : World} {G : Nat} {eo ei : TypeId} {t : List (List Int)} (h : FreshT w G eo ei t) (n : Nat) : FreshT (w.drewN n) G eo ei t := ⟨h.outer, h.inner⟩

end Go.Proofs.YtcdijeeabgmgmaaGreatDoor

/- Facts of this translation that the walks share: make of slices. -/
namespace Go.Proofs.YtcdijeeabgmgmaaGreatDoor
open Go.RowKit

theorem infoI : (Tryz.prog.info? 2).map (fun i => (i.zero, i.size, i.bytes)) = some (some (.int .i64 0), 1, 8) := by kernel_rfl
theorem infoS : (Tryz.prog.info? 25).map (fun i => (i.zero, i.size, i.bytes)) = some (some (.slice none 0 0), 1, 24) := by kernel_rfl

theorem madeCells_one (z : Value) (n : Nat) (hz : z.cells = #[z]) : madeCells z.cells n = tab n fun _ => z := by
  rw [hz]
  apply tab_ext (size_madeCells _ _)
  intro j hj
  simp [madeCells, hj, Nat.mod_one]

/-- make([]int64, n) -/
theorem makeI (n : Nat) (hn : n ≤ 1048576) (w : World) :
    (Instr.makeSlice 25 (.int .i64 (n : Int)) (.int .i64 (n : Int))).run Tryz.prog w = .ok (.slice (some ⟨w.heap.size, 0, none⟩) n n) (w.alloc (.cells (tab n fun _ => .int .i64 0) 2)) := by
  obtain ⟨i0, hi, hz0, hz1, hz2⟩ := info_parts infoI
  have hr := run_make (P := Tryz.prog) w 25 2 i0 _ Tryz.underlying25 hi hz0 .i64 .i64 n n (by omega) (by omega) (by rw [hz2]; omega) (by omega)
  rw [hr, hz1, madeCells_one _ _ rfl]
  simp

/-- make([][]int64, n) -/
theorem makeS (n : Nat) (hn : n ≤ 1048576) (w : World) :
    (Instr.makeSlice 22 (.int .i64 (n : Int)) (.int .i64 (n : Int))).run Tryz.prog w = .ok (.slice (some ⟨w.heap.size, 0, none⟩) n n) (w.alloc (.cells (tab n fun _ => .slice none 0 0) 25)) := by
  obtain ⟨i0, hi, hz0, hz1, hz2⟩ := info_parts infoS
  have hr := run_make (P := Tryz.prog) w 22 25 i0 _ Tryz.underlying22 hi hz0 .i64 .i64 n n (by omega) (by omega) (by rw [hz2]; omega) (by omega)
  rw [hr, hz1, madeCells_one _ _ rfl]
  simp

end Go.Proofs.YtcdijeeabgmgmaaGreatDoor

/- What a group is, on lists of lists of numbers. No program here. -/
namespace Go.Proofs.YtcdijeeabgmgmaaGreatDoor

/-- The entry of a table in a row and a column. -/
def ent (t : List (List Int)) (a b : Nat) : Int := nth (row t a) b

/-- A table of a group, by what is asked of it. -/
structure IsGrp (t : List (List Int)) : Prop where
  n1 : 1 ≤ t.length
  n8 : t.length ≤ 8
  sq : ∀ a, a < t.length → (row t a).length = t.length
  rng : ∀ a, a < t.length → ∀ b, b < t.length → 0 ≤ ent t a b ∧ ent t a b < t.length
  id : ∀ a, a < t.length → ent t 0 a = a ∧ ent t a 0 = a
  assoc : ∀ a, a < t.length → ∀ b, b < t.length → ∀ c, c < t.length → ent t (ent t a b).toNat c = ent t a (ent t b c).toNat
  inv : ∀ a, a < t.length → ∃ b, b < t.length ∧ ent t a b = 0 ∧ ent t b a = 0

open Classical in
/-- Is a table one of a group? -/
noncomputable def grpB (t : List (List Int)) : Bool := decide (IsGrp t)

theorem grpB_true {t : List (List Int)} (h : IsGrp t) : grpB t = true := by simp [grpB, h]
theorem grpB_false {t : List (List Int)} (h : ¬ IsGrp t) : grpB t = false := by simp [grpB, h]
theorem grpB_iff {t : List (List Int)} : grpB t = true ↔ IsGrp t := by simp [grpB]

/-- A square table of a permitted size with numbers of its rows. -/
structure IsTab (t : List (List Int)) : Prop where
  n1 : 1 ≤ t.length
  n8 : t.length ≤ 8
  sq : ∀ a, a < t.length → (row t a).length = t.length
  rng : ∀ a, a < t.length → ∀ b, b < t.length → 0 ≤ nth (row t a) b ∧ nth (row t a) b < t.length

/-- 0 a and a 0 are a. -/
def IsKeep (t : List (List Int)) : Prop := ∀ a, a < t.length → nth (row t 0) a = a ∧ nth (row t a) 0 = a
/-- Products do not depend on brackets. -/
def IsAssoc (t : List (List Int)) : Prop := ∀ a, a < t.length → ∀ b, b < t.length → ∀ c, c < t.length → nth (row t (nth (row t a) b).toNat) c = nth (row t a) (nth (row t b) c).toNat
/-- The first 0 of each row is at an inverse. -/
def IsInv (t : List (List Int)) : Prop := ∀ a, a < t.length → ∃ b, b < t.length ∧ nth (row t a) b = 0 ∧ (∀ c, c < b → nth (row t a) c ≠ 0) ∧ nth (row t b) a = 0

open Classical in
noncomputable def tabB (t : List (List Int)) : Bool := decide (IsTab t)
open Classical in
noncomputable def keepB (t : List (List Int)) : Bool := decide (IsKeep t)
open Classical in
noncomputable def assocB (t : List (List Int)) : Bool := decide (IsAssoc t)
open Classical in
noncomputable def invB (t : List (List Int)) : Bool := decide (IsInv t)

theorem least_zero (f : Nat → Int) : ∀ b, f b = 0 → ∃ m, m ≤ b ∧ f m = 0 ∧ ∀ c, c < m → f c ≠ 0 := by
  intro b
  induction b using Nat.strongRecOn with
  | ind b ih =>
    intro hb
    by_cases h : ∃ c, c < b ∧ f c = 0
    · obtain ⟨c, hc, h0⟩ := h
      obtain ⟨m, h1, h2, h3⟩ := ih c hc h0
      exact ⟨m, by omega, h2, h3⟩
    · exact ⟨b, Nat.le_refl _, hb, fun c hc h0 => h ⟨c, hc, h0⟩⟩

/-- THE TWO TESTS ARE ONE: the program looks at the first 0 of a row alone, the specification at all. -/
theorem isGrp_iff {t : List (List Int)} : IsGrp t ↔ IsTab t ∧ IsKeep t ∧ IsAssoc t ∧ IsInv t := by
  constructor
  · intro h
    refine ⟨⟨h.n1, h.n8, h.sq, h.rng⟩, h.id, h.assoc, fun a ha => ?_⟩
    obtain ⟨b, hb, h1, h2⟩ := h.inv a ha
    obtain ⟨m, hm, h0, hl⟩ := least_zero (fun c => nth (row t a) c) b h1
    have hmn : m < t.length := by omega
    refine ⟨m, hmn, h0, hl, ?_⟩
    -- m = 0 m = (b a) m = b (a m) = b 0 = b
    have e := h.assoc b hb a ha m hmn
    rw [h2] at e
    have h0' : ent t a m = 0 := h0
    rw [h0'] at e
    have e1 := (h.id m hmn).1
    have e2 := (h.id b hb).2
    have e3 : (m : Int) = b := by
      rw [← e1, ← e2]
      exact e
    obtain rfl : m = b := by omega
    exact h2
  · rintro ⟨h1, h2, h3, h4⟩
    refine ⟨h1.n1, h1.n8, h1.sq, h1.rng, h2, h3, fun a ha => ?_⟩
    obtain ⟨b, hb, h5, _, h6⟩ := h4 a ha
    exact ⟨b, hb, h5, h6⟩

theorem grpB_eq (t : List (List Int)) : grpB t = (tabB t && (keepB t && (assocB t && invB t))) := by
  rw [Bool.eq_iff_iff]
  simp [grpB, tabB, keepB, assocB, invB, isGrp_iff]

end Go.Proofs.YtcdijeeabgmgmaaGreatDoor

/- Groups of tables, as numbers with a product. No program here. -/
namespace Go.Proofs.YtcdijeeabgmgmaaGreatDoor

/-- The product of two elements. -/
def mul (t : List (List Int)) (x y : Nat) : Nat := (nth (row t x) y).toNat

section
variable {t : List (List Int)} (h : IsGrp t)
include h

theorem IsGrp.ent {x y : Nat} (hx : x < t.length) (hy : y < t.length) : nth (row t x) y = (mul t x y : Int) := by
  have h1 : 0 ≤ nth (row t x) y := (h.rng x hx y hy).1
  unfold mul
  rw [Int.toNat_of_nonneg h1]
theorem IsGrp.mul_lt {x y : Nat} (hx : x < t.length) (hy : y < t.length) : mul t x y < t.length := by
  have h1 := h.rng x hx y hy
  have h2 : nth (row t x) y = (mul t x y : Int) := h.ent hx hy
  unfold Go.Proofs.YtcdijeeabgmgmaaGreatDoor.ent at h1
  omega
theorem IsGrp.zero_mul {x : Nat} (hx : x < t.length) : mul t 0 x = x := by
  have h1 : nth (row t 0) x = (x : Int) := (h.id x hx).1
  simp [mul, h1]
theorem IsGrp.mul_zero {x : Nat} (hx : x < t.length) : mul t x 0 = x := by
  have h1 : nth (row t x) 0 = (x : Int) := (h.id x hx).2
  simp [mul, h1]
theorem IsGrp.mul_assoc {x y z : Nat} (hx : x < t.length) (hy : y < t.length) (hz : z < t.length) : mul t (mul t x y) z = mul t x (mul t y z) := by
  have h1 := h.assoc x hx y hy z hz
  unfold Go.Proofs.YtcdijeeabgmgmaaGreatDoor.ent at h1
  simp only [mul] at h1 ⊢
  rw [h1]
theorem IsGrp.inv_ex {x : Nat} (hx : x < t.length) : ∃ y, y < t.length ∧ mul t x y = 0 ∧ mul t y x = 0 := by
  obtain ⟨b, hb, h1, h2⟩ := h.inv x hx
  unfold Go.Proofs.YtcdijeeabgmgmaaGreatDoor.ent at h1 h2
  exact ⟨b, hb, by simp [mul, h1], by simp [mul, h2]⟩
theorem IsGrp.pos : 0 < t.length := h.n1
theorem IsGrp.left_cancel {x y z : Nat} (hx : x < t.length) (hy : y < t.length) (hz : z < t.length) (e : mul t x y = mul t x z) : y = z := by
  obtain ⟨b, hb, _, h2⟩ := h.inv_ex hx
  have h3 : mul t (mul t b x) y = mul t (mul t b x) z := by rw [h.mul_assoc hb hx hy, h.mul_assoc hb hx hz, e]
  rw [h2, h.zero_mul hy, h.zero_mul hz] at h3
  exact h3
theorem IsGrp.right_cancel {x y z : Nat} (hx : x < t.length) (hy : y < t.length) (hz : z < t.length) (e : mul t y x = mul t z x) : y = z := by
  obtain ⟨b, hb, h1, _⟩ := h.inv_ex hx
  have h3 : mul t y (mul t x b) = mul t z (mul t x b) := by rw [← h.mul_assoc hy hx hb, ← h.mul_assoc hz hx hb, e]
  rw [h1, h.mul_zero hy, h.mul_zero hz] at h3
  exact h3
end

/-- The j-th power of an element, by products from the right. -/
def pw (t : List (List Int)) (a : Nat) : Nat → Nat
  | 0 => 0
  | j + 1 => mul t (pw t a j) a

theorem IsGrp.pw_lt {t : List (List Int)} (h : IsGrp t) {a : Nat} (ha : a < t.length) : ∀ j, pw t a j < t.length
  | 0 => h.pos
  | j + 1 => h.mul_lt (h.pw_lt ha j) ha

theorem IsGrp.pw_add {t : List (List Int)} (h : IsGrp t) {a : Nat} (ha : a < t.length) (i : Nat) : ∀ j, mul t (pw t a i) (pw t a j) = pw t a (i + j)
  | 0 => h.mul_zero (h.pw_lt ha i)
  | j + 1 => by
    show mul t (pw t a i) (mul t (pw t a j) a) = mul t (pw t a (i + j)) a
    rw [← h.pw_add ha i j, h.mul_assoc (h.pw_lt ha i) (h.pw_lt ha j) ha]

/-- Of n + 1 numbers less than n two are equal. -/
theorem pigeon : ∀ (n : Nat) (f : Nat → Nat), (∀ j, j ≤ n → f j < n) → ∃ i j, i < j ∧ j ≤ n ∧ f i = f j
  | 0, f, h => absurd (h 0 (Nat.le_refl _)) (by omega)
  | n + 1, f, h => by
    by_cases he : ∃ i, i ≤ n ∧ f i = f (n + 1)
    · obtain ⟨i, hi, e⟩ := he
      exact ⟨i, n + 1, by omega, by omega, e⟩
    · have hne : ∀ i, i ≤ n → f i ≠ f (n + 1) := fun i hi e => he ⟨i, hi, e⟩
      have hv := h (n + 1) (by omega)
      obtain ⟨i, j, hij, hj, e⟩ := pigeon n (fun j => if f (n + 1) < f j then f j - 1 else f j) (fun j hj => by
        have h1 := h j (by omega)
        have h2 := hne j hj
        show (if f (n + 1) < f j then f j - 1 else f j) < n
        split <;> omega)
      refine ⟨i, j, hij, by omega, ?_⟩
      have h1 := hne i (by omega)
      have h2 := hne j hj
      have e' : (if f (n + 1) < f i then f i - 1 else f i) = (if f (n + 1) < f j then f j - 1 else f j) := e
      split at e' <;> split at e' <;> omega

theorem IsGrp.pw_zero_ex {t : List (List Int)} (h : IsGrp t) {a : Nat} (ha : a < t.length) : ∃ k, 1 ≤ k ∧ k ≤ t.length ∧ pw t a k = 0 := by
  obtain ⟨i, j, hij, hj, e⟩ := pigeon t.length (pw t a) (fun j _ => h.pw_lt ha j)
  refine ⟨j - i, by omega, by omega, ?_⟩
  have h1 := h.pw_add ha i (j - i)
  rw [show i + (j - i) = j by omega, ← e] at h1
  have h2 := h.mul_zero (h.pw_lt ha i)
  exact h.left_cancel (h.pw_lt ha i) (h.pw_lt ha _) h.pos (h1.trans h2.symm)

/-- The least number from k on at which the power is 0, within some rounds. -/
def ordFrom (t : List (List Int)) (a : Nat) : Nat → Nat → Nat
  | 0, k => k
  | f + 1, k => if pw t a k = 0 then k else ordFrom t a f (k + 1)
/-- The order of an element. -/
def ord (t : List (List Int)) (a : Nat) : Nat := ordFrom t a t.length 1

theorem ordFrom_spec {t : List (List Int)} {a : Nat} : ∀ (f k m : Nat), k ≤ m → m ≤ k + f → pw t a m = 0 → k ≤ ordFrom t a f k ∧ pw t a (ordFrom t a f k) = 0 ∧ ordFrom t a f k ≤ m ∧ ∀ i, k ≤ i → i < ordFrom t a f k → pw t a i ≠ 0
  | 0, k, m, h1, h2, h3 => by
    obtain rfl : m = k := by omega
    exact ⟨Nat.le_refl _, h3, Nat.le_refl _, fun i h4 h5 => absurd h5 (by simp only [ordFrom]; omega)⟩
  | f + 1, k, m, h1, h2, h3 => by
    by_cases h0 : pw t a k = 0
    · simp only [ordFrom, h0, if_true]
      exact ⟨Nat.le_refl _, trivial, h1, fun i h4 h5 => absurd h5 (by omega)⟩
    · simp only [ordFrom, h0, if_false]
      have hm : k + 1 ≤ m := by
        rcases Nat.lt_or_ge k m with h | h
        · exact h
        · obtain rfl : m = k := by omega
          exact absurd h3 h0
      obtain ⟨g1, g2, g3, g4⟩ := ordFrom_spec f (k + 1) m hm (by omega) h3
      refine ⟨by omega, g2, g3, fun i h4 h5 => ?_⟩
      by_cases e : i = k
      · subst e; exact h0
      · exact g4 i (by omega) h5

theorem IsGrp.ord_spec {t : List (List Int)} (h : IsGrp t) {a : Nat} (ha : a < t.length) : 1 ≤ ord t a ∧ ord t a ≤ t.length ∧ pw t a (ord t a) = 0 ∧ ∀ i, 1 ≤ i → i < ord t a → pw t a i ≠ 0 := by
  obtain ⟨k, h1, h2, h3⟩ := h.pw_zero_ex ha
  obtain ⟨g1, g2, g3, g4⟩ := ordFrom_spec t.length 1 k h1 (by omega) h3
  exact ⟨g1, Nat.le_trans g3 h2, g2, g4⟩

end Go.Proofs.YtcdijeeabgmgmaaGreatDoor

/- Greatest common divisors, of the program and of the specification; units. -/
namespace Go.Proofs.YtcdijeeabgmgmaaGreatDoor
open Go.RowKit

theorem gcd_step {x y : Nat} (_ : 0 < y) : Nat.gcd y (x % y) = Nat.gcd x y := by
  rw [Nat.gcd_comm x y, Nat.gcd_rec y x, Nat.gcd_comm]

theorem tmod_nat (x y : Nat) : Int.tmod (x : Int) (y : Int) = ((x % y : Nat) : Int) := (Int.ofNat_tmod x y).symm

set_option maxHeartbeats 400000 in
theorem commonDivisor_any (a b : Nat) (w : World) (ha : a ≤ 1048576) (hb : b ≤ 1048576) :
    Calls Tryz.prog 161 #[.int .i64 (a : Int), .int .i64 (b : Int)] w fun e w' => e = .returned (.int .i64 (Nat.gcd a b : Int)) ∧ Drawn w w' := by
  go_enter Tryz.func161, Tryz.ntmps161
  go_wp2
  go_loopw [0, 1] (fun p q wr => ∃ x y : Nat, p = .int .i64 (x : Int) ∧ q = .int .i64 (y : Int) ∧ x ≤ 1048576 ∧ y ≤ 1048576 ∧ Hid (Nat.gcd x y = Nat.gcd a b) ∧ Drawn w wr) (fun _ q _ => (intOf q).toNat)
  case atStart => exact ⟨a, b, rfl, rfl, ha, hb, Lib.hid rfl, Drawn.refl _⟩
  case round =>
    obtain ⟨x, y, rfl, rfl, hx, hy, HG, hd⟩ := hrel
    by_cases h0 : y = 0
    · subst h0
      go_wp2
      go_ret
      refine ⟨?_, hd⟩
      rw [← HG.out, Nat.gcd_zero_right]
      rfl
    · have hy0 : 0 < y := Nat.pos_of_ne_zero h0
      have hm : x % y < y := Nat.mod_lt _ hy0
      have hg : Nat.gcd y (x % y) = Nat.gcd a b := (gcd_step hy0).trans HG.out
      have HG2 := Lib.hid hg
      have ht := tmod_nat x y
      have hne : ((y : Int) != 0) = true := by simp; omega
      have HD := Lib.hid hd
      clear hg HG hd
      generalize x % y = z at *
      go_wp2
      go_quiet (fail)
      go_roundw
      case rel => exact ⟨_, _, _, _, _, _, _, _, ⟨y, z, rfl, rfl, hy, by omega, HG2, HD.out.more _⟩, rfl⟩
      case measure => simp [intOf]; omega

set_option maxHeartbeats 400000 in
theorem l01Gcd_any (a b : Nat) (w : World) (ha : a ≤ 1048576) (hb : b ≤ 1048576) :
    Calls Tryz.prog 119 #[.int .i64 (a : Int), .int .i64 (b : Int)] w fun e w' => e = .returned (.int .i64 (Nat.gcd a b : Int)) ∧ w' = w := by
  go_enter Tryz.func119, Tryz.ntmps119
  go_wp2
  go_loop [0, 1] (fun p q => ∃ x y : Nat, p = .int .i64 (x : Int) ∧ q = .int .i64 (y : Int) ∧ x ≤ 1048576 ∧ y ≤ 1048576 ∧ Hid (Nat.gcd x y = Nat.gcd a b)) (fun _ q => (intOf q).toNat)
  case atStart => exact ⟨a, b, rfl, rfl, ha, hb, Lib.hid rfl⟩
  case round =>
    obtain ⟨x, y, rfl, rfl, hx, hy, HG⟩ := hrel
    by_cases h0 : y = 0
    · subst h0
      go_wp2
      go_ret
      refine ⟨?_, rfl⟩
      rw [← HG.out, Nat.gcd_zero_right]
      rfl
    · have hy0 : 0 < y := Nat.pos_of_ne_zero h0
      have hm : x % y < y := Nat.mod_lt _ hy0
      have hg : Nat.gcd y (x % y) = Nat.gcd a b := (gcd_step hy0).trans HG.out
      have HG2 := Lib.hid hg
      have ht := tmod_nat x y
      have hne : ((y : Int) != 0) = true := by simp; omega
      clear hg HG
      generalize x % y = z at *
      go_wp2
      go_round
      case rel => exact ⟨y, z, by go_num, by go_num, hy, by omega, HG2⟩
      case measure => simp [intOf]; omega

/-- Is u a unit modulo m? -/
def unitB (m u : Int) : Bool := decide (1 ≤ u) && (decide (u < m) && (Nat.gcd m.toNat u.toNat == 1))
/-- Are all of them units? -/
def unitsB (m : Int) (us : List Int) : Bool := us.all (unitB m)

theorem unitB_iff {m u : Int} : unitB m u = true ↔ 1 ≤ u ∧ u < m ∧ Nat.gcd m.toNat u.toNat = 1 := by
  simp [unitB]
theorem unitB_false {m u : Int} (h : ¬ (1 ≤ u ∧ u < m ∧ Nat.gcd m.toNat u.toNat = 1)) : unitB m u = false := by
  cases hq : unitB m u
  · rfl
  · exact absurd (unitB_iff.1 hq) h
theorem unitsB_iff {m : Int} {us : List Int} : unitsB m us = true ↔ ∀ i, i < us.length → unitB m (nth us i) = true := by
  unfold unitsB
  rw [List.all_eq_true]
  constructor
  · intro h i hi
    have := h (us[i]) (List.getElem_mem hi)
    simpa [nth, hi] using this
  · intro h x hx
    obtain ⟨i, hi, rfl⟩ := List.getElem_of_mem hx
    have := h i hi
    simpa [nth, hi] using this
theorem unitsB_false {m : Int} {us : List Int} {i : Nat} (hi : i < us.length) (h : unitB m (nth us i) = false) : unitsB m us = false := by
  cases hq : unitsB m us
  · rfl
  · have := unitsB_iff.1 hq i hi
    rw [h] at this
    cases this

set_option maxHeartbeats 400000 in
theorem isUnit_any (m u : Int) (w : World) (hm : m ≤ 1048576) (hm0 : 0 ≤ m) :
    Calls Tryz.prog 152 #[.int .i64 m, .int .i64 u] w fun e w' => e = .returned (.bool (unitB m u)) ∧ Drawn w w' := by
  by_cases h1 : 1 ≤ u
  · by_cases h2 : u < m
    · obtain ⟨M, rfl⟩ := Int.eq_ofNat_of_zero_le hm0
      obtain ⟨U, rfl⟩ := Int.eq_ofNat_of_zero_le (show 0 ≤ u by omega)
      have hd1 : decide ((1 : Int) ≤ (U : Int)) = true := by simp; omega
      have hd2 : decide ((U : Int) < (M : Int)) = true := by simp; omega
      have hcon := commonDivisor_any M U w (by omega) (by omega)
      have hun : unitB (M : Int) (U : Int) = (Nat.gcd M U == 1) := by
        simp only [unitB, hd1, hd2, Bool.true_and, Int.toNat_natCast]
      obtain ⟨d, hd⟩ : ∃ d, Nat.gcd M U = d := ⟨_, rfl⟩
      rw [hd] at hcon hun
      have HCON := Lib.hid hcon
      have HU := Lib.hid hun
      clear hd hcon hun
      go_enter Tryz.func152, Tryz.ntmps152
      go_wp2_with fail
      refine HCON.out.mono ?_
      rintro e w' ⟨rfl, hdw⟩
      have HDW := Lib.hid hdw
      clear hdw
      by_cases hd : d = 1
      · have hq : ((d : Int) == 1) = true := by simp [hd]
        have HD := Lib.hid hd
        clear hd
        go_wp2
        go_ret
        exact ⟨by rw [HU.out, HD.out]; rfl, HDW.out⟩
      · have hq : ((d : Int) == 1) = false := by simp; omega
        have HD := Lib.hid hd
        clear hd
        go_wp2
        go_ret
        exact ⟨by rw [HU.out, show (d == 1) = false from by simp [HD.out]]; rfl, HDW.out⟩
    · have HU : Hid (unitB m u = false) := Lib.hid (unitB_false fun h => h2 h.2.1)
      have hd1 : decide ((1 : Int) ≤ u) = true := by simp; omega
      have hd2 : decide (u < m) = false := by simp; omega
      clear h2
      go_enter Tryz.func152, Tryz.ntmps152
      go_wp2
      go_ret
      exact ⟨by rw [HU.out]; rfl, Drawn.refl _⟩
  · have HU : Hid (unitB m u = false) := Lib.hid (unitB_false fun h => h1 h.1)
    have hd1 : decide ((1 : Int) ≤ u) = false := by simp; omega
    clear h1
    go_enter Tryz.func152, Tryz.ntmps152
    go_wp2
    go_ret
    exact ⟨by rw [HU.out]; rfl, Drawn.refl _⟩

set_option maxHeartbeats 400000 in
theorem isModulus_any (m : Int) (w : World) :
    Calls Tryz.prog 136 #[.int .i64 m] w fun e w' => e = .returned (.bool (decide (2 ≤ m) && decide (m ≤ 12))) ∧ w' = w := by
  cases h1 : decide ((2 : Int) ≤ m) <;> cases h2 : decide (m ≤ (12 : Int)) <;>
  · go_enter Tryz.func136, Tryz.ntmps136
    go_wp2
    go_ret
    exact ⟨rfl, rfl⟩

set_option maxHeartbeats 400000 in
theorem areUnits_any (m : Int) (A : Option Addr) (us : List Int) (c B : Nat) (w : World) (hX : Ints w B A us) (hn : us.length ≤ 1048576) (hm : m ≤ 1048576) (hm0 : 0 ≤ m) :
    Calls Tryz.prog 144 #[.int .i64 m, .slice A us.length c] w fun e w' => e = .returned (.bool (unitsB m us)) ∧ Drawn w w' := by
  have HX := Lib.hid hX
  clear hX
  go_enter Tryz.func144, Tryz.ntmps144
  go_wp2
  go_loopw [9] (fun i wr => ∃ k : Nat, k ≤ us.length ∧ i = .int .i64 k ∧ Hid (∀ i, i < k → unitB m (nth us i) = true) ∧ Drawn w wr) (fun i _ => us.length - (intOf i).toNat)
  case atStart => exact ⟨0, by omega, rfl, Lib.hid fun i hi => absurd hi (by omega), Drawn.refl _⟩
  case round =>
    obtain ⟨k, hk, rfl, HS, hd⟩ := hrel
    have HD := Lib.hid hd
    by_cases hlt : k < us.length
    · obtain ⟨b, o, rfl, hb, hcell⟩ := (hd.ints HX.out).at_ hlt
      have HCON := Lib.hid (isUnit_any m (nth us k) wr hm hm0)
      clear hd
      cases hu : unitB m (nth us k) with
      | false =>
        have HU := Lib.hid (unitsB_false hlt hu)
        rw [hu] at HCON
        clear hu
        generalize nth us k = u at *
        go_wp2_with fail
        refine HCON.out.mono ?_
        rintro e w' ⟨rfl, hd1⟩
        have HD1 := Lib.hid (HD.out.trans hd1)
        clear hd1
        go_wp2
        go_ret
        exact ⟨by rw [HU.out]; rfl, HD1.out⟩
      | true =>
        have HU := Lib.hid hu
        rw [hu] at HCON
        clear hu
        obtain ⟨u, hu⟩ : ∃ u, nth us k = u := ⟨_, rfl⟩
        have HN := Lib.hid hu
        rw [hu] at HCON hcell
        clear hu
        go_wp2_with fail
        refine HCON.out.mono ?_
        rintro e w' ⟨rfl, hd1⟩
        have HD1 := Lib.hid (HD.out.trans hd1)
        clear hd1
        go_wp2
        go_roundw
        case rel => exact ⟨k + 1, by omega, by go_num, Lib.hid fun i hi => by
          rcases Nat.lt_or_ge i k with h | h
          · exact HS.out i h
          · obtain rfl : i = k := by omega
            exact HU.out, HD1.out⟩
        case measure => simp [intOf]; omega
    · have hkk : k = us.length := by omega
      subst hkk
      clear hd
      go_wp2
      go_ret
      exact ⟨by rw [unitsB_iff.2 HS.out]; rfl, HD.out⟩

end Go.Proofs.YtcdijeeabgmgmaaGreatDoor

/- A range over a function, in the form in which this program's loops want it: the round's frame need not be typed. -/
namespace Go.Proofs.YtcdijeeabgmgmaaGreatDoor
open Go.RowKit

/-- Below n₀ nothing has turned, and whatever is no cells lies as it lay. -/
def Keeps (n₀ : Nat) (W W' : World) : Prop := Below n₀ W W' ∧ KeepsFrom 0 W W'

section
variable {n₀ : Nat} {W W' W'' : World}
theorem Keeps.refl (n₀ : Nat) (W : World) : Keeps n₀ W W := ⟨Below.refl _ _, KeepsFrom.refl _ _⟩
theorem Keeps.trans (h : Keeps n₀ W W') (k : Keeps n₀ W' W'') : Keeps n₀ W W'' := ⟨h.1.trans k.1, h.2.trans k.2⟩
theorem Keeps.alloc (h : Keeps n₀ W W') (hn : n₀ ≤ W'.heap.size) (o : Obj) : Keeps n₀ W (W'.alloc o) := ⟨h.1.alloc hn o, h.2.trans ((KeepsOthers.alloc _ _).from 0)⟩
theorem Keeps.setCell (h : Keeps n₀ W W') {p : Addr} (hn : n₀ ≤ p.block) (v : Value) : Keeps n₀ W (W'.setCell p v) := ⟨h.1.setCell hn v, h.2.trans ((KeepsOthers.setCell _ _ _).from 0)⟩
theorem Keeps.of_below (h : Below W.heap.size W W') (hn : n₀ ≤ W.heap.size) : Keeps n₀ W W' :=
  ⟨h.mono hn, ⟨h.size, fun k _ _ hk _ => (h.block k (Array.getElem?_eq_some_iff.1 hk).1).trans hk⟩⟩
theorem Keeps.drewN (h : Keeps n₀ W W') (m : Nat) : Keeps n₀ W (W'.drewN m) := ⟨below_drewN h.1 m, ⟨h.2.size, h.2.same⟩⟩
theorem Keeps.size (h : Keeps n₀ W W') : W.heap.size ≤ W'.heap.size := h.1.size
theorem KeepsFrom.mono {B B' : Nat} (h : KeepsFrom B W W') (hB : B ≤ B') : KeepsFrom B' W W' := ⟨h.size, fun k o hk => h.same k o (by omega)⟩
theorem ownFrom_keeps {β : Type} {B : Nat} (hn : n₀ ≤ W.heap.size) (hB : W.heap.size ≤ B) : OwnFrom B (fun (_ : β) W' => Keeps n₀ W W') :=
  OwnFrom.and (ownFrom_below hn (by omega)) (ownFrom_keepsFrom hB)
end

/-- How a round may be left. -/
def RPost {α : Type} (n₀ : Nat) (I : List α → World → Prop) (Ix : Code → List α → World → Prop) (xs : List α) (W : World) : Exit → Act → World → Prop
  | .normal, _, W' => Keeps n₀ W W' ∧ I xs W'
  | .ret, _, W' => Keeps n₀ W W' ∧ Ix .ret xs W'
  | .exit id, _, W' => Keeps n₀ W W' ∧ Ix (.exit id) xs W'
  | .goto t, _, W' => Keeps n₀ W W' ∧ Ix (.goto t) xs W'
  | .panic _, _, _ => False
  | .outgrown, _, _ => False

theorem ownPostG_of_RPost {α : Type} {n₀ : Nat} {I : List α → World → Prop} {Ix : Code → List α → World → Prop} {xs : List α} {w W : World} (hw : Keeps n₀ w W) :
    ∀ (e : Exit) (a : Act) (W' : World), RPost n₀ I Ix xs W e a W' → ownPostG w.heap.size (Below n₀) (fun pre W => I pre W ∧ Keeps n₀ w W) (fun c pre W => Ix c pre W ∧ Keeps n₀ w W) xs W e a W'
  | .normal, _, _, h => ⟨KeepsFrom.mono h.1.2 (Nat.zero_le _), h.1.1, h.2, hw.trans h.1⟩
  | .ret, _, _, h => ⟨KeepsFrom.mono h.1.2 (Nat.zero_le _), h.2, hw.trans h.1⟩
  | .exit _, _, _, h => ⟨KeepsFrom.mono h.1.2 (Nat.zero_le _), h.2, hw.trans h.1⟩
  | .goto _, _, _, h => ⟨KeepsFrom.mono h.1.2 (Nat.zero_le _), h.2, hw.trans h.1⟩
  | .panic _, _, _, h => h
  | .outgrown, _, _, h => h

section
variable {P : Program} {α : Type} {g : Operand} {ps : Array Tmp} {assign body : Code} {Q : Exit → Act → World → Prop} {a : Act} {w : World} {n n₀ gf N : Nat} {lb : Array Value} {encs : α → Array Value} {S Sp : List α → Prop}

/-- A loop of the function's own; the loop's variable lies in a temporary. -/
theorem range_top (h1 : 1 ≤ n) (hg : a.eval g = .func (.func gf) #[] lb) (eg : ∀ args w, (callFunc gf args).run P w = .ok (.enter gf args) w)
    (hseq : SeqStopsK Fence.wide (n - 1) P gf lb encs (Below n₀) S Sp N w) (hn : n₀ ≤ w.heap.size) (hps : ∀ x, (encs x).size = ps.size)
    (I : List α → World → Prop) (Ix : Code → List α → World → Prop) (hI : OwnFrom w.heap.size I) (hIx : ∀ c, OwnFrom w.heap.size (Ix c)) (h0 : I [] w)
    (hround : ∀ (l : Nat) (x : α) (W : World) (K : Act → World → Prop), (∀ a', (∀ (l : Nat) (pre : List α) (W : World), (∃ r, W.heap[l]? = some (.loop r)) → I pre W → Keeps n₀ w W → pre.length < N → body.wpIn (Fence.wide.inRound l) (n - 1 - 1) P (RPost n₀ I Ix (pre ++ [x]) W) a' W) → K a' W) →
      assign.wpIn (Fence.wide.inRound l) (n - 1 - 1) P (Exit.then K (fun _ _ _ => False)) { tmps := (ps.zip (encs x)).foldl (fun t (p, v) => t.setIfInBounds p v) a.tmps, defers := [] } W)
    (hdone : ∀ (D : Nat) (xs : List α) (W : World), w.heap.size ≤ D → S xs → I xs W → Keeps n₀ w W → W.heap[D]? = some (.deferred (some [])) → Q .normal { a with defers := { target := .collected D, args := #[] } :: a.defers } W)
    (hstop : ∀ (D : Nat) (c : Code) (pre : List α) (W : World), w.heap.size ≤ D → Sp pre → Ix c pre W → Keeps n₀ w W → W.heap[D]? = some (.deferred (some [])) → c.wpIn Fence.wide n P Q { a with defers := { target := .collected D, args := #[] } :: a.defers } W) :
    (Code.rangeFunc g ps assign body).wpIn Fence.wide n P Q a w :=
  wpIn_rangeFunc_ownH rfl h1 hg trivial eg hseq (fun h k => belowK_t h k) (belowK_b hn) (Below.refl _ _) hps (fun pre W => I pre W ∧ Keeps n₀ w W) (fun c pre W => Ix c pre W ∧ Keeps n₀ w W)
    (OwnFrom.and hI (ownFrom_keeps hn (Nat.le_refl _))) (fun c => OwnFrom.and (hIx c) (ownFrom_keeps hn (Nat.le_refl _))) ⟨h0, Keeps.refl _ _⟩
    (fun x a' _ => ∀ (l : Nat) (pre : List α) (W : World), (∃ r, W.heap[l]? = some (.loop r)) → I pre W → Keeps n₀ w W → pre.length < N → body.wpIn (Fence.wide.inRound l) (n - 1 - 1) P (RPost n₀ I Ix (pre ++ [x]) W) a' W)
    (fun _ _ _ _ _ _ hs _ _ => hs)
    (fun l _ x W K hi hK => hround l x W K fun a' ha => hK a' W (KeepsFrom.refl _ _) (Below.refl _ _) hi ha)
    (fun l pre _ _ W _ hr hi hax hlt => wpIn_mono (hax l pre W hr hi.1 hi.2 hlt) (ownPostG_of_RPost hi.2))
    (fun D xs W hD hS hi hK => hdone D xs W hD hS hi.1 hi.2 hK)
    (fun D c pre W hD hS hi hK => hstop D c pre W hD hS hi.1 hi.2 hK)

/-- A loop of the function's own; the loop's variable is boxed. -/
theorem range_topB (h1 : 1 ≤ n) (hg : a.eval g = .func (.func gf) #[] lb) (eg : ∀ args w, (callFunc gf args).run P w = .ok (.enter gf args) w)
    (hseq : SeqStopsK Fence.wide (n - 1) P gf lb encs (Below n₀) S Sp N w) (hn : n₀ ≤ w.heap.size) (hps : ∀ x, (encs x).size = ps.size) (tx : TypeId) (vx : α → Value)
    (I : List α → World → Prop) (Ix : Code → List α → World → Prop) (hI : OwnFrom w.heap.size I) (hIx : ∀ c, OwnFrom w.heap.size (Ix c)) (h0 : I [] w)
    (hround : ∀ (l : Nat) (x : α) (W : World) (K : Act → World → Prop), (∀ a', (∀ (l Bx : Nat) (pre : List α) (W' : World), W.heap.size = Bx → w.heap.size ≤ Bx → (∃ r, W'.heap[l]? = some (.loop r)) → I pre W' → Keeps n₀ w W' → Boxed W' Bx tx (vx x) → pre.length < N → body.wpIn (Fence.wide.inRound l) (n - 1 - 1) P (RPost n₀ I Ix (pre ++ [x]) W') a' W') → K a' (W.alloc (.cells #[vx x] tx))) →
      assign.wpIn (Fence.wide.inRound l) (n - 1 - 1) P (Exit.then K (fun _ _ _ => False)) { tmps := (ps.zip (encs x)).foldl (fun t (p, v) => t.setIfInBounds p v) a.tmps, defers := [] } W)
    (hdone : ∀ (D : Nat) (xs : List α) (W : World), w.heap.size ≤ D → S xs → I xs W → Keeps n₀ w W → W.heap[D]? = some (.deferred (some [])) → Q .normal { a with defers := { target := .collected D, args := #[] } :: a.defers } W)
    (hstop : ∀ (D : Nat) (c : Code) (pre : List α) (W : World), w.heap.size ≤ D → Sp pre → Ix c pre W → Keeps n₀ w W → W.heap[D]? = some (.deferred (some [])) → c.wpIn Fence.wide n P Q { a with defers := { target := .collected D, args := #[] } :: a.defers } W) :
    (Code.rangeFunc g ps assign body).wpIn Fence.wide n P Q a w :=
  wpIn_rangeFunc_ownH rfl h1 hg trivial eg hseq (fun h k => belowK_t h k) (belowK_b hn) (Below.refl _ _) hps (fun pre W => I pre W ∧ Keeps n₀ w W) (fun c pre W => Ix c pre W ∧ Keeps n₀ w W)
    (OwnFrom.and hI (ownFrom_keeps hn (Nat.le_refl _))) (fun c => OwnFrom.and (hIx c) (ownFrom_keeps hn (Nat.le_refl _))) ⟨h0, Keeps.refl _ _⟩
    (fun x a' W => ∃ Bx, w.heap.size ≤ Bx ∧ Boxed W Bx tx (vx x) ∧ ∀ (l : Nat) (pre : List α) (W' : World), (∃ r, W'.heap[l]? = some (.loop r)) → I pre W' → Keeps n₀ w W' → Boxed W' Bx tx (vx x) → pre.length < N → body.wpIn (Fence.wide.inRound l) (n - 1 - 1) P (RPost n₀ I Ix (pre ++ [x]) W') a' W')
    (fun x a' _ X Y row hs hg hr => by
      obtain ⟨Bx, e1, e2, e3⟩ := hs
      exact ⟨Bx, e1, boxed_own Bx tx (fun (_ : Unit) => vx x) () X Y row e2 hg (fun r e => (hr r e).2), e3⟩)
    (fun l pre x W K hi hK => hround l x W K fun a' ha => hK a' _ ((KeepsOthers.alloc _ _).from _) ((Below.refl _ W).alloc (Nat.le_trans hn hi.2.size) _)
      ⟨hI.alloc _ hi.1, hi.2.alloc (Nat.le_trans hn hi.2.size) _⟩ ⟨W.heap.size, hi.2.size, Boxed.new W tx (vx x), fun l pre W' => ha l W.heap.size pre W' rfl hi.2.size⟩)
    (fun l pre _ _ W _ hr hi hax hlt => by
      obtain ⟨Bx, e1, e2, e3⟩ := hax
      exact wpIn_mono (e3 l pre W hr hi.1 hi.2 e2 hlt) (ownPostG_of_RPost hi.2))
    (fun D xs W hD hS hi hK => hdone D xs W hD hS hi.1 hi.2 hK)
    (fun D c pre W hD hS hi hK => hstop D c pre W hD hS hi.1 hi.2 hK)

/-- A loop in a round of another; the loop's variable lies in a temporary. -/
theorem range_in {l₀ : Nat} (h1 : 1 ≤ n) (hl₀ : ∃ r₀, w.heap[l₀]? = some (.loop r₀)) (hg : a.eval g = .func (.func gf) #[] lb) (eg : ∀ args w, (callFunc gf args).run P w = .ok (.enter gf args) w)
    (hseq : SeqStopsK Fence.wide (n - 1) P gf lb encs (Below n₀) S Sp N w) (hn : n₀ ≤ w.heap.size) (hps : ∀ x, (encs x).size = ps.size)
    (I : List α → World → Prop) (Ix : Code → List α → World → Prop) (hI : OwnFrom w.heap.size I) (hIx : ∀ c, OwnFrom w.heap.size (Ix c)) (h0 : I [] w)
    (hround : ∀ (l : Nat) (x : α) (W : World) (K : Act → World → Prop), (∀ a', (∀ (l : Nat) (pre : List α) (W : World), (∃ r, W.heap[l]? = some (.loop r)) → I pre W → Keeps n₀ w W → pre.length < N → body.wpIn (Fence.wide.inRound l) (n - 1 - 1) P (RPost n₀ I Ix (pre ++ [x]) W) a' W) → K a' W) →
      assign.wpIn (Fence.wide.inRound l) (n - 1 - 1) P (Exit.then K (fun _ _ _ => False)) { tmps := (ps.zip (encs x)).foldl (fun t (p, v) => t.setIfInBounds p v) a.tmps, defers := [] } W)
    (hdone : ∀ (xs : List α) (W : World), S xs → I xs W → Keeps n₀ w W → Q .normal a W)
    (hstop : ∀ (c : Code) (pre : List α) (W : World), Sp pre → Ix c pre W → Keeps n₀ w W → c.wpIn (Fence.wide.inRound l₀) n P Q a W) :
    (Code.rangeFunc g ps assign body).wpIn (Fence.wide.inRound l₀) n P Q a w := by
  obtain ⟨r₀, hr₀⟩ := hl₀
  exact wpIn_rangeFunc_ownN (l₀ := l₀) (r₀ := r₀) rfl hr₀ h1 hg trivial eg (hseq.inRound l₀) (fun h k => belowK_t h k) (belowK_b hn) (Below.refl _ _) hps (fun pre W => I pre W ∧ Keeps n₀ w W) (fun c pre W => Ix c pre W ∧ Keeps n₀ w W)
    (OwnFrom.and hI (ownFrom_keeps hn (Nat.le_refl _))) (fun c => OwnFrom.and (hIx c) (ownFrom_keeps hn (Nat.le_refl _))) ⟨h0, Keeps.refl _ _⟩
    (fun x a' _ => ∀ (l : Nat) (pre : List α) (W : World), (∃ r, W.heap[l]? = some (.loop r)) → I pre W → Keeps n₀ w W → pre.length < N → body.wpIn (Fence.wide.inRound l) (n - 1 - 1) P (RPost n₀ I Ix (pre ++ [x]) W) a' W)
    (fun _ _ _ _ _ _ hs _ _ => hs)
    (fun l _ x W K hi hK => hround l x W K fun a' ha => hK a' W (KeepsFrom.refl _ _) (Below.refl _ _) hi ha)
    (fun l pre _ _ W _ hr hi hax hlt => wpIn_mono (hax l pre W hr hi.1 hi.2 hlt) (ownPostG_of_RPost hi.2))
    (fun xs W hS hi => hdone xs W hS hi.1 hi.2)
    (fun c pre W hS hi => hstop c pre W hS hi.1 hi.2)

/-- A loop in a round of another; the loop's variable is boxed. -/
theorem range_inB {l₀ : Nat} (h1 : 1 ≤ n) (hl₀ : ∃ r₀, w.heap[l₀]? = some (.loop r₀)) (hg : a.eval g = .func (.func gf) #[] lb) (eg : ∀ args w, (callFunc gf args).run P w = .ok (.enter gf args) w)
    (hseq : SeqStopsK Fence.wide (n - 1) P gf lb encs (Below n₀) S Sp N w) (hn : n₀ ≤ w.heap.size) (hps : ∀ x, (encs x).size = ps.size) (tx : TypeId) (vx : α → Value)
    (I : List α → World → Prop) (Ix : Code → List α → World → Prop) (hI : OwnFrom w.heap.size I) (hIx : ∀ c, OwnFrom w.heap.size (Ix c)) (h0 : I [] w)
    (hround : ∀ (l : Nat) (x : α) (W : World) (K : Act → World → Prop), (∀ a', (∀ (l Bx : Nat) (pre : List α) (W' : World), W.heap.size = Bx → w.heap.size ≤ Bx → (∃ r, W'.heap[l]? = some (.loop r)) → I pre W' → Keeps n₀ w W' → Boxed W' Bx tx (vx x) → pre.length < N → body.wpIn (Fence.wide.inRound l) (n - 1 - 1) P (RPost n₀ I Ix (pre ++ [x]) W') a' W') → K a' (W.alloc (.cells #[vx x] tx))) →
      assign.wpIn (Fence.wide.inRound l) (n - 1 - 1) P (Exit.then K (fun _ _ _ => False)) { tmps := (ps.zip (encs x)).foldl (fun t (p, v) => t.setIfInBounds p v) a.tmps, defers := [] } W)
    (hdone : ∀ (xs : List α) (W : World), S xs → I xs W → Keeps n₀ w W → Q .normal a W)
    (hstop : ∀ (c : Code) (pre : List α) (W : World), Sp pre → Ix c pre W → Keeps n₀ w W → c.wpIn (Fence.wide.inRound l₀) n P Q a W) :
    (Code.rangeFunc g ps assign body).wpIn (Fence.wide.inRound l₀) n P Q a w := by
  obtain ⟨r₀, hr₀⟩ := hl₀
  exact wpIn_rangeFunc_ownN (l₀ := l₀) (r₀ := r₀) rfl hr₀ h1 hg trivial eg (hseq.inRound l₀) (fun h k => belowK_t h k) (belowK_b hn) (Below.refl _ _) hps (fun pre W => I pre W ∧ Keeps n₀ w W) (fun c pre W => Ix c pre W ∧ Keeps n₀ w W)
    (OwnFrom.and hI (ownFrom_keeps hn (Nat.le_refl _))) (fun c => OwnFrom.and (hIx c) (ownFrom_keeps hn (Nat.le_refl _))) ⟨h0, Keeps.refl _ _⟩
    (fun x a' W => ∃ Bx, w.heap.size ≤ Bx ∧ Boxed W Bx tx (vx x) ∧ ∀ (l : Nat) (pre : List α) (W' : World), (∃ r, W'.heap[l]? = some (.loop r)) → I pre W' → Keeps n₀ w W' → Boxed W' Bx tx (vx x) → pre.length < N → body.wpIn (Fence.wide.inRound l) (n - 1 - 1) P (RPost n₀ I Ix (pre ++ [x]) W') a' W')
    (fun x a' _ X Y row hs hg hr => by
      obtain ⟨Bx, e1, e2, e3⟩ := hs
      exact ⟨Bx, e1, boxed_own Bx tx (fun (_ : Unit) => vx x) () X Y row e2 hg (fun r e => (hr r e).2), e3⟩)
    (fun l pre x W K hi hK => hround l x W K fun a' ha => hK a' _ ((KeepsOthers.alloc _ _).from _) ((Below.refl _ W).alloc (Nat.le_trans hn hi.2.size) _)
      ⟨hI.alloc _ hi.1, hi.2.alloc (Nat.le_trans hn hi.2.size) _⟩ ⟨W.heap.size, hi.2.size, Boxed.new W tx (vx x), fun l pre W' => ha l W.heap.size pre W' rfl hi.2.size⟩)
    (fun l pre _ _ W _ hr hi hax hlt => by
      obtain ⟨Bx, e1, e2, e3⟩ := hax
      exact wpIn_mono (e3 l pre W hr hi.1 hi.2 e2 hlt) (ownPostG_of_RPost hi.2))
    (fun xs W hS hi => hdone xs W hS hi.1 hi.2)
    (fun c pre W hS hi => hstop c pre W hS hi.1 hi.2)
end

/-! ### A region that draws its order, in a round -/

/-- No operation of the list is a defer statement. -/
def plainOps (l : List Oper) : Bool := l.all fun o => match o.op with | .defer _ => false | _ => true

theorem plainOps_spec {l : List Oper} (h : plainOps l = true) {i : Nat} {o : Oper} (ho : l.toArray[i]? = some o) (c : Call) : o.op ≠ .defer c := by
  intro e
  have hm : o ∈ l := by
    have := List.mem_of_getElem? (l := l) (i := i) (by simpa using ho)
    exact this
  have := List.all_eq_true.1 h o hm
  rw [e] at this
  cases this

section
variable {F : Fence} {n r : Nat} {P : Program} {md : Region.Mode} {Q : Exit → Act → World → Prop}

theorem wpAnyIn_round {l : List Oper} (hp : plainOps l = true) (hro : F.round = none) : ∀ (fuel : Nat) (listed : Array Bool) (a : Act) (w : World),
    wpAnyIn F n P md l.toArray Q fuel listed a w → wpAnyIn (F.inRound r) n P md l.toArray Q fuel listed a w := by
  intro fuel
  induction fuel with
  | zero => exact fun _ _ _ h => h
  | succ fuel ih =>
    intro listed a w h
    refine ⟨h.1, fun i hi => ?_⟩
    have h1 := h.2 i hi
    unfold wpOpIn at h1 ⊢
    split
    · rename_i ho
      simp only [ho] at h1
      exact ih _ _ _ h1
    · rename_i o ho
      simp only [ho] at h1
      split
      · rename_i hw
        simp only [hw, if_true] at h1
        have h2 := Oper.wpIn_mono (K' := wpAnyIn (F.inRound r) n P md l.toArray Q fuel (listed.setIfInBounds i true)) (fun a w => ih _ a w) h1
        unfold Oper.wpIn at h2 ⊢
        refine ⟨h2.1, ?_⟩
        have h3 := h2.2
        rw [hro, Oper.semAt_none] at h3
        rw [Fence.inRound_round, Oper.semAt_eq _ _ _ (plainOps_spec hp ho)]
        exact h3
      · rename_i hw
        simp only [hw] at h1
        exact ⟨h1.1, ih _ _ _ h1.2⟩

/-- ONE WALK OF THE TEXT'S ORDER SERVES EVERY ORDER, IN A ROUND. -/
theorem region_quiet_round {id : Nat} {a : Act} {w : World} {l : List Oper} (hm : P.follows .mixedOrders = true) (hB : Region.lexB .any l.toArray = true) (hp : plainOps l = true)
    (h : wpQuietIn Fence.wide n P l.toArray (fun w' => ∃ n, w' = w.drewN n) (fun a' => ∀ w', (∃ n, w' = w.drewN n) → Q .normal a' w') l a) : (Code.region id l.toArray true).wpIn (Fence.wide.inRound r) n P Q a w := by
  simp only [Region.lexB, Bool.and_eq_true] at hB
  refine wpIn_region_any hm (wpAnyIn_round hp rfl _ _ _ _ (wpAnyIn_of_quiet (C := fun w' => ∃ n, w' = w.drewN n) (Q := fun a' => ∀ w', (∃ n, w' = w.drewN n) → Q .normal a' w') rfl (fun _ w' hw' h => h w' hw') _ _ _ _ ⟨1, rfl⟩ ?_))
  have := wpAnyQIn_lex (F := Fence.wide) (n := n) (C := fun w' => ∃ n, w' = w.drewN n) (md := .any) hB.1 l 0 (Array.replicate l.toArray.size false) a (by simp) (by simpa using hB.2) h
  simpa using this
end

section
variable {n r : Nat} {P : Program} {md : Region.Mode} {Q : Exit → Act → World → Prop}

theorem wpIn_of_wp {o : Oper} {a : Act} {w : World} {K : Act → World → Prop} (h : o.wp P a w K Q) : o.wpIn Fence.wide n P a w K Q := by
  refine ⟨fun _ _ => trivial, ?_⟩
  have h1 : o.upon P a K Q ((execOp a.eval o).run P w) := h
  show o.uponIn Fence.wide n P a K Q ((o.semAt none a.eval).run P w)
  rw [Oper.semAt_none]
  cases hr : (execOp a.eval o).run P w with
  | ok x w' =>
    rw [hr] at h1
    cases x with
    | value v => exact h1
    | skip => exact h1
    | defer d => exact h1
    | enter f args => exact ⟨fun h => by simp [Fence.wide] at h, callsIn_wide.2 h1⟩
    | row row args => exact ⟨fun h => by simp [Fence.wide] at h, fun c cs _ => let ⟨v, w'', g, st⟩ := h1 c cs; ⟨v, w'', g, stepsIn_wide.2 st⟩⟩
    | round l f tmps assign body => exact h1.elim
    | _ => exact h1.elim
  | halt x w' =>
    rw [hr] at h1
    cases x with
    | panic v => exact h1
    | _ => exact h1.elim

theorem wpAnyIn_of_wpAny {l : List Oper} (hQ : ¬ LetsOut Q) : ∀ (fuel : Nat) (listed : Array Bool) (a : Act) (w : World),
    wpAny P md l.toArray Q fuel listed a w → wpAnyIn Fence.wide n P md l.toArray Q fuel listed a w := by
  intro fuel
  induction fuel with
  | zero => exact fun _ _ _ h => h
  | succ fuel ih =>
    intro listed a w h
    refine ⟨h.1, fun i hi => ?_⟩
    have h1 := h.2 i hi
    unfold wpOp at h1
    unfold wpOpIn
    split
    · rename_i ho
      simp only [ho] at h1
      exact ih _ _ _ h1
    · rename_i o ho
      simp only [ho] at h1
      split
      · rename_i hw
        simp only [hw, if_true] at h1
        rcases h1 with h1 | h1
        · exact Oper.wpIn_mono (fun a w => ih _ a w) (wpIn_of_wp h1)
        · exact absurd h1.2 hQ
      · rename_i hw
        simp only [hw] at h1
        exact ⟨fun _ _ => trivial, ih _ _ _ h1⟩

/-- A region that draws its order, in a round, by the base's moves ('wpAnyH_take', 'wpAnyH_all', 'wpAnyH_done'). -/
theorem region_held_round {id : Nat} {a : Act} {w : World} {l : List Oper} {S : World → Prop} (hm : P.follows .mixedOrders = true) (hp : plainOps l = true) (hQ : ¬ LetsOut Q)
    (h : wpAnyH P .any l.toArray Q S l.length (Array.replicate l.length false) a w.drew) : (Code.region id l.toArray true).wpIn (Fence.wide.inRound r) n P Q a w := by
  have h1 := wpAny_of_held _ _ _ _ h
  have h2 := wpAnyIn_round (r := r) hp rfl _ _ _ _ (wpAnyIn_of_wpAny (n := n) hQ _ _ _ _ h1)
  refine wpIn_region_any hm ?_
  simpa using h2
end

end Go.Proofs.YtcdijeeabgmgmaaGreatDoor

/- Slices and blocks of the call's own. -/
namespace Go.Proofs.YtcdijeeabgmgmaaGreatDoor
open Go.RowKit

/-- A slice of numbers of the call's own, from block lo on: it may be written. -/
def OwnI (w : World) (lo : Nat) (A : Option Addr) (xs : List Int) : Prop :=
  ∃ b o, (0 < xs.length → A = some ⟨b, o, none⟩) ∧ lo ≤ b ∧ b < w.heap.size ∧ (∀ j, j < xs.length → w.cell? ⟨b, o + j, none⟩ = some (.int .i64 (nth xs j)) ∧ w.frozen? ⟨b, o + j, none⟩ = false)

theorem own_below {w w' : World} {base : Nat} {e : TypeId} {size : Nat} {v : Value} {n : Nat} {xs : List Value} (h : w.ownsRow base e size v n xs) (hb : Below w.heap.size w w') : w'.ownsRow base e size v n xs := by
  refine ⟨h.1, ?_⟩
  rcases h.2 with h2 | ⟨g, cap, cur, hv, hg, hh, hr⟩
  · exact .inl h2
  · exact .inr ⟨g, cap, cur, hv, hg, (hb.block g (Array.getElem?_eq_some_iff.1 hh).1).trans hh, hr⟩

theorem own_empty (w : World) (base : Nat) (e : TypeId) (hb : base ≤ w.heap.size) : (w.alloc (.cells #[] e)).ownsRow base e 1 (.slice (some ⟨w.heap.size, 0, none⟩) 0 0) 0 [] :=
  ⟨rfl, .inr ⟨w.heap.size, 0, #[], rfl, hb, heap_alloc_new w _, Nat.le_refl _, Nat.zero_le _, rfl, rfl⟩⟩

/-- What a row of the call's own is as a slice of numbers. -/
theorem own_ints {w : World} {base : Nat} {e : TypeId} {v : Value} {n : Nat} {xs : List Int} (h : w.ownsRow base e 1 v n (xs.map fun x => .int .i64 x)) (hx : xs.length = n) (_ : base ≤ w.heap.size) (_ : 0 < w.heap.size) :
    ∃ A c, v = .slice A xs.length c ∧ (base < w.heap.size ∨ 0 < xs.length → OwnI w base A xs) := by
  subst hx
  rcases h.2 with ⟨rfl, h0⟩ | ⟨g, cap, cur, rfl, hg, hh, hr1, hr2, hr3, hr4⟩
  · refine ⟨none, 0, by rw [h0], fun hd => ?_⟩
    rcases hd with hd | hd
    · exact ⟨base, 0, fun h => absurd h (by omega), Nat.le_refl _, hd, fun j hj => absurd hj (by omega)⟩
    · omega
  · refine ⟨some ⟨g, 0, none⟩, cap, rfl, fun _ => ⟨g, 0, fun _ => rfl, hg, (Array.getElem?_eq_some_iff.1 hh).1, fun j hj => ?_⟩⟩
    have h1 : w.cell? ⟨g, j, none⟩ = cur[j]? := cell_of_row w g j cur e (0, 0) hh
    rw [Nat.zero_add, h1]
    have h2 : cur[j]? = some (.int .i64 (nth xs j)) := by
      have h3 : (cur.toList.take (xs.length * 1))[j]? = some (.int .i64 (nth xs j)) := by
        rw [hr4]
        simp [nth, hj]
      rw [List.getElem?_take_of_lt (by omega)] at h3
      simpa using h3
    exact ⟨h2, by simp [World.frozen?, hh]⟩

theorem OwnI.mono {w : World} {lo lo' : Nat} {A : Option Addr} {xs : List Int} (h : OwnI w lo A xs) (hl : lo' ≤ lo) : OwnI w lo' A xs :=
  let ⟨b, o, h1, h2, h3⟩ := h; ⟨b, o, h1, Nat.le_trans hl h2, h3⟩

theorem has_own {β : Type} (B : Nat) (e : TypeId) (f : β → Array Value) : Own (fun s W => Has W B e (f s)) := fun s X Y row hs hg hrow =>
  (hg.block B hs.lt (fun e' => by obtain ⟨o, ho, hc⟩ := hrow B e'.symm; rw [show X.heap[B]? = _ from hs] at ho; cases ho; cases hc)).trans hs

theorem cell_of_block {w w' : World} {b : Nat} (h : w'.heap[b]? = w.heap[b]?) (o : Nat) : w'.cell? ⟨b, o, none⟩ = w.cell? ⟨b, o, none⟩ := by simp [World.cell?, h]
theorem frozen_of_block {w w' : World} {b : Nat} (h : w'.heap[b]? = w.heap[b]?) (o : Nat) : w'.frozen? ⟨b, o, none⟩ = w.frozen? ⟨b, o, none⟩ := by simp [World.frozen?, h]

theorem OwnI.ints {w : World} {lo : Nat} {A : Option Addr} {xs : List Int} (h : OwnI w lo A xs) : Ints w w.heap.size A xs := by
  obtain ⟨b, o, h1, h2, h3, h4⟩ := h
  rcases xs with _ | ⟨x, xs⟩
  · exact .inl rfl
  · exact .inr ⟨b, o, h1 (by simp), h3, fun j hj => (h4 j hj).1⟩

theorem OwnI.below {w w' : World} {lo B : Nat} {A : Option Addr} {xs : List Int} (h : OwnI w lo A xs) (hb : Below B w w') (hB : w.heap.size ≤ B) : OwnI w' lo A xs := by
  obtain ⟨b, o, h1, h2, h3, h4⟩ := h
  have he := hb.block b (by omega)
  exact ⟨b, o, h1, h2, by have := hb.size; omega, fun j hj => ⟨(cell_of_block he _).trans (h4 j hj).1, (frozen_of_block he _).trans (h4 j hj).2⟩⟩

theorem OwnI.same {w w' : World} {lo : Nat} {A : Option Addr} {xs : List Int} (h : OwnI w lo A xs) (hs : w.heap.size ≤ w'.heap.size) (he : ∀ b, lo ≤ b → b < w.heap.size → w'.heap[b]? = w.heap[b]?) : OwnI w' lo A xs := by
  obtain ⟨b, o, h1, h2, h3, h4⟩ := h
  have hb := he b h2 h3
  exact ⟨b, o, h1, h2, by omega, fun j hj => ⟨(cell_of_block hb _).trans (h4 j hj).1, (frozen_of_block hb _).trans (h4 j hj).2⟩⟩

end Go.Proofs.YtcdijeeabgmgmaaGreatDoor

/- Ranges over the elements of a group: the iterator's contract. -/
namespace Go.Proofs.YtcdijeeabgmgmaaGreatDoor
open Go.RowKit Go.Shelf

attribute [local go_sem] Oper.semAt_some

set_option maxHeartbeats 400000 in
theorem groupOrder_any (A : Option Addr) (n c : Nat) (w : World) (_ : n ≤ 1048576) :
    Calls Tryz.prog 110 #[.agg #[.slice A n c]] w fun e w' => e = .returned (.int .i64 n) ∧ w' = w.alloc (.cells #[.slice A n c] 32) := by
  go_enter Tryz.func110, Tryz.ntmps110
  go_wp2
  go_ret
  exact ⟨rfl, rfl⟩

set_option maxHeartbeats 400000 in
theorem elementsOf_any (A : Option Addr) (n c : Nat) (w : World) :
    Calls Tryz.prog 74 #[.agg #[.slice A n c]] w fun e w' => e = .returned (.func (.func 109) #[] #[.pointer (some ⟨w.heap.size, 0, none⟩)]) ∧ w' = w.alloc (.cells #[.slice A n c] 32) := by
  go_enter Tryz.func74, Tryz.ntmps74
  go_wp2
  go_ret
  exact ⟨rfl, rfl⟩

theorem finRange_take_succ {N k : Nat} (h : k < N) : (List.finRange N).take (k + 1) = (List.finRange N).take k ++ [⟨k, h⟩] := by
  rw [List.take_succ_eq_append_getElem (by simpa using h)]
  simp

set_option maxRecDepth 100000 in
set_option maxHeartbeats 1000000 in
theorem elements1_in (n : Nat) (hn : 1 ≤ n) (l Bg n₀ N c : Nat) (A : Option Addr) (J Jx : List (Fin N) → World → Prop) (W : World) (hJ : AbidesFrom W.heap.size J)
    (hY : ∀ pre x W, J pre W → pre.length < N → YieldAt Fence.wide (n - 1) Tryz.prog l #[.int .i64 (x.val : Int)] W fun e W' =>
      (e = .returned (.bool true) ∧ J (pre ++ [x]) W' ∧ Below n₀ W W') ∨ (e = .returned (.bool false) ∧ Jx (pre ++ [x]) W'))
    (hBg : W.cell? ⟨Bg, 0, none⟩ = some (.slice A N c)) (hN : N ≤ 1048576) (h0 : J [] W) :
    CallsIn Fence.wide n Tryz.prog 109 #[.func (.yield l) #[] #[], .pointer (some ⟨Bg, 0, none⟩)] W fun e W' => (∃ v, e = .returned v) ∧
      ((∃ ys, ys = List.finRange N ∧ J ys W') ∨ (∃ pre, pre <+: List.finRange N ∧ Jx pre W')) := by
  refine callsIn_of_wp Tryz.func109 rfl trivial ?_ rfl
  simp only [Tryz.ntmps109, List.size_toArray, List.length_cons, List.length_nil, Nat.reduceAdd, Nat.reduceSub, Array.replicate_succ, Array.replicate_zero, List.push_toArray, List.append_toArray, List.nil_append, List.cons_append]
  gi_wp2_with (refine ⟨trivial, ?_⟩; gi_at_call 110; refine (callsIn_wide.2 (groupOrder_any A N c _ hN)).mono ?_; rintro e w' ⟨rfl, rfl⟩)
  gi_loopw [6] (fun i wr => ∃ k : Nat, k ≤ N ∧ i = .int .i64 k ∧ J ((List.finRange N).take k) wr) (fun i _ => N - (intOf i).toNat)
  case atStart => exact ⟨0, by omega, rfl, by simpa using hJ [] W _ none h0 (World.grownBy_alloc W _ none) (by simp)⟩
  case round =>
    obtain ⟨k, hk, rfl, hJs⟩ := hrel
    by_cases hlt : k < N
    · obtain ⟨fn, tmps, assign, body, hy, hR⟩ := hY _ ⟨k, hlt⟩ wr hJs (by simp; omega)
      rw [← finRange_take_succ hlt] at hR
      dsimp only at hy
      gi_wp2
      refine hR.mono ?_
      rintro e W3 (⟨rfl, hJ3, hk3⟩ | ⟨rfl, hJx3⟩)
      · gi_wp2
        go_roundw
        case rel => exact ⟨k + 1, by omega, by go_num, hJ3⟩
        case measure => simp [intOf]; omega
      · gi_wp2
        refine bodyPost_ret (results_none rfl _ _ _) rfl ?_
        exact ⟨⟨_, rfl⟩, .inr ⟨_, List.take_prefix _ _, hJx3⟩⟩
    · have hkk : k = N := by omega
      subst hkk
      gi_wp2
      go_end0
      exact ⟨⟨_, rfl⟩, .inl ⟨_, List.take_of_length_le (by simp), hJs⟩⟩

/-- 'for a := range elementsOf(g)': all elements in order, or a part of them. -/
theorem elements_stops (n : Nat) (hn : 1 ≤ n) (Bg n₀ N c : Nat) (A : Option Addr) (w : World) (hBg : Bg < w.heap.size) (hc : w.cell? ⟨Bg, 0, none⟩ = some (.slice A N c)) (hN : N ≤ 1048576) :
    SeqStopsK Fence.wide n Tryz.prog 109 #[.pointer (some ⟨Bg, 0, none⟩)] (fun x : Fin N => #[.int .i64 (x.val : Int)]) (Below n₀) (fun ys => ys = List.finRange N) (fun pre => pre <+: List.finRange N) N w :=
  fun l J Jx W hW hJ _ hY h0 => elements1_in n hn l Bg n₀ N c A J Jx W hJ hY ((hW.cell (p := ⟨Bg, 0, none⟩) hBg).trans hc) hN h0

end Go.Proofs.YtcdijeeabgmgmaaGreatDoor

/- The laws' helpers that write marks into what was handed back, and look whether they are still there. -/
namespace Go.Proofs.YtcdijeeabgmgmaaGreatDoor
open Go.RowKit

/-- From w to w' at most the cells of T have turned. -/
structure Upd (T : Nat → Nat → Prop) (w w' : World) : Prop where
  os : w'.os = w.os
  tape : w'.tape = w.tape
  output : w'.output = w.output
  size : w'.heap.size = w.heap.size
  cell : ∀ b o, ¬ T b o → w'.cell? ⟨b, o, none⟩ = w.cell? ⟨b, o, none⟩
  frozen : ∀ b o, w'.frozen? ⟨b, o, none⟩ = w.frozen? ⟨b, o, none⟩
  block : ∀ b, (∀ o, ¬ T b o) → w'.heap[b]? = w.heap[b]?

section
variable {T T' : Nat → Nat → Prop} {w w' w'' : World}
theorem Upd.refl (T : Nat → Nat → Prop) (w : World) : Upd T w w := ⟨rfl, rfl, rfl, rfl, fun _ _ _ => rfl, fun _ _ => rfl, fun _ _ => rfl⟩
theorem Upd.mono (h : Upd T w w') (hT : ∀ b o, T b o → T' b o) : Upd T' w w' :=
  ⟨h.os, h.tape, h.output, h.size, fun b o hn => h.cell b o fun ht => hn (hT b o ht), h.frozen, fun b hn => h.block b fun o ht => hn o (hT b o ht)⟩
theorem Upd.trans (h : Upd T w w') (k : Upd T w' w'') : Upd T w w'' :=
  ⟨k.os.trans h.os, k.tape.trans h.tape, k.output.trans h.output, k.size.trans h.size, fun b o hn => (k.cell b o hn).trans (h.cell b o hn), fun b o => (k.frozen b o).trans (h.frozen b o), fun b hn => (k.block b hn).trans (h.block b hn)⟩
theorem Upd.set {b o : Nat} (w : World) (v : Value) (ht : T b o) : Upd T w (w.setCell ⟨b, o, none⟩ v) :=
  ⟨rfl, rfl, rfl, by simp [World.setCell], fun b' o' hn => World.cell?_setCell_other w _ _ v (fun e => by cases e; exact hn ht), fun _ _ => World.frozen?_setCell _ _ _ _,
    fun b' hn => Below.heap_setCell w _ v b' (fun e => by subst e; exact hn o ht)⟩
theorem Upd.below {B : Nat} (h : Upd T w w') (hB : ∀ b o, T b o → B ≤ b) : Below B w w' :=
  ⟨h.os, h.tape, h.output, by rw [h.size]; exact Nat.le_refl _, fun k hk => h.block k fun o ht => by have := hB k o ht; omega⟩
end

/-- The cells of a row. -/
def Seg (b o n : Nat) : Nat → Nat → Prop := fun b' o' => b' = b ∧ o ≤ o' ∧ o' < o + n

/-- n cells from ⟨b, o⟩ on hold numbers and may be written. -/
def Wr (w : World) (b o n : Nat) : Prop := ∀ j, j < n → (∃ v, w.cell? ⟨b, o + j, none⟩ = some (.int .i64 v)) ∧ w.frozen? ⟨b, o + j, none⟩ = false

/-- .. hold the numbers from k on. -/
def Marked (w : World) (b o n k : Nat) : Prop := ∀ j, j < n → w.cell? ⟨b, o + j, none⟩ = some (.int .i64 ((k + j : Nat) : Int))

set_option maxHeartbeats 400000 in
theorem markInt64S_any (A : Option Addr) (b o n c k : Nat) (w : World) (hA : 0 < n → A = some ⟨b, o, none⟩) (hW : Wr w b o n) (hn : n ≤ 1048576) (hk : k ≤ 8796093022208) :
    Calls Tryz.prog 17 #[.slice A n c, .int .i64 (k : Int)] w fun e w' => e = .returned (.int .i64 ((k + n : Nat) : Int)) ∧ Upd (Seg b o n) w w' ∧ Marked w' b o n k := by
  have HA := Lib.hid hA
  have HW := Lib.hid hW
  clear hA hW
  go_enter Tryz.func17, Tryz.ntmps17
  go_wp2
  go_loopw [1, 5] (fun q i wr => ∃ j : Nat, j ≤ n ∧ i = .int .i64 j ∧ q = .int .i64 ((k + j : Nat) : Int) ∧ Upd (Seg b o j) w wr ∧ Marked wr b o j k) (fun _ i _ => n - (intOf i).toNat)
  case atStart => exact ⟨0, by omega, rfl, rfl, Upd.refl _ _, fun j hj => absurd hj (by omega)⟩
  case round =>
    obtain ⟨j, hj, rfl, rfl, hu, hm⟩ := hrel
    have HM := Lib.hid hm
    clear hm
    by_cases hlt : j < n
    · obtain ⟨⟨v, hv⟩, hf⟩ := HW.out j hlt
      have hcell := (hu.cell b (o + j) (fun h => by have := h.2.2; omega)).trans hv
      have hfree := (hu.frozen b (o + j)).trans hf
      have hA := HA.out (by omega)
      subst hA
      clear hv hf
      go_wp2
      go_roundw
      case rel =>
        refine ⟨j + 1, by omega, by go_num, by go_num, (hu.mono fun b' o' h => ⟨h.1, h.2.1, by have := h.2.2; omega⟩).trans (Upd.set wr _ ⟨rfl, by omega, by omega⟩), fun j' hj' => ?_⟩
        by_cases e : j' = j
        · subst e
          exact World.cell?_setCell_same' _ _ _ (by rw [hcell]; rfl)
        · exact (World.cell?_setCell_other wr ⟨b, o + j, none⟩ ⟨b, o + j', none⟩ _ (fun h => by injection h; omega)).trans (HM.out j' (by omega))
      case measure => simp [intOf]; omega
    · have hjn : j = n := by omega
      subst hjn
      go_wp2
      go_ret
      exact ⟨rfl, hu, HM.out⟩

set_option maxHeartbeats 400000 in
theorem heldInt64S_any (A : Option Addr) (b o n c k : Nat) (w : World) (hA : 0 < n → A = some ⟨b, o, none⟩) (hW : Marked w b o n k) (hn : n ≤ 1048576) (hk : k ≤ 8796093022208) :
    Calls Tryz.prog 18 #[.slice A n c, .int .i64 (k : Int)] w fun e w' => e = .returned (.int .i64 ((k + n : Nat) : Int)) ∧ w = w' := by
  have HA := Lib.hid hA
  have HW := Lib.hid hW
  clear hA hW
  go_enter Tryz.func18, Tryz.ntmps18
  go_wp2
  go_loop [1, 5] (fun q i => ∃ j : Nat, j ≤ n ∧ i = .int .i64 j ∧ q = .int .i64 ((k + j : Nat) : Int)) (fun _ i => n - (intOf i).toNat)
  case atStart => exact ⟨0, by omega, rfl, rfl⟩
  case round =>
    obtain ⟨j, hj, rfl, rfl⟩ := hrel
    by_cases hlt : j < n
    · have hcell := HW.out j hlt
      have hA := HA.out (by omega)
      subst hA
      generalize hq : k + j = kj at *
      have hkj : kj ≤ 8796094070784 := by omega
      have HQ := Lib.hid hq
      have hne : ((kj : Int) != (kj : Int)) = false := by simp
      clear hq
      go_wp2
      go_round
      case rel => exact ⟨j + 1, by omega, by go_num, by have := HQ.out; go_num⟩
      case measure => simp [intOf]; omega
    · have hjn : j = n := by omega
      subst hjn
      go_wp2
      go_ret
      exact ⟨rfl, rfl⟩

/-- The lengths of the first i rows together. -/
def psum (L : Nat → Nat) : Nat → Nat
  | 0 => 0
  | i + 1 => psum L i + L i

theorem psum_le {L : Nat → Nat} {M : Nat} : ∀ n, (∀ i, i < n → L i ≤ M) → psum L n ≤ n * M
  | 0, _ => by simp [psum]
  | n + 1, h => by
    have h1 := psum_le n fun i hi => h i (by omega)
    have h2 := h n (by omega)
    have h3 : (n + 1) * M = n * M + M := Nat.succ_mul n M
    simp only [psum]
    omega
theorem psum_mono {L : Nat → Nat} {i n : Nat} (h : i ≤ n) : psum L i ≤ psum L n := by
  induction h with
  | refl => exact Nat.le_refl _
  | step _ ih => simp only [psum]; omega

/-- n rows whose cells may be written, and lie apart. -/
structure RW (w : World) (b o n : Nat) (R : Nat → Option Addr) (bb oo L C : Nat → Nat) : Prop where
  outer : ∀ i, i < n → w.cell? ⟨b, o + i, none⟩ = some (.slice (R i) (L i) (C i))
  addr : ∀ i, i < n → 0 < L i → R i = some ⟨bb i, oo i, none⟩
  wr : ∀ i, i < n → Wr w (bb i) (oo i) (L i)
  apart : ∀ i, i < n → ∀ i', i' < n → i ≠ i' → ∀ o', ¬ (Seg (bb i) (oo i) (L i) (bb i') o' ∧ Seg (bb i') (oo i') (L i') (bb i') o')
  off : ∀ i, i < n → 0 < L i → bb i ≠ b

/-- The cells of the first i rows. -/
def Segs (bb oo L : Nat → Nat) (n : Nat) : Nat → Nat → Prop := fun b' o' => ∃ i, i < n ∧ Seg (bb i) (oo i) (L i) b' o'

/-- The rows hold the numbers from k on. -/
def MarkedS (w : World) (n : Nat) (bb oo L : Nat → Nat) (k : Nat) : Prop := ∀ i, i < n → Marked w (bb i) (oo i) (L i) (k + psum L i)

set_option maxHeartbeats 400000 in
theorem markInt64SS_any (A : Option Addr) (b o n c k : Nat) (R : Nat → Option Addr) (bb oo L C : Nat → Nat) (w : World) (hA : 0 < n → A = some ⟨b, o, none⟩) (hW : RW w b o n R bb oo L C) (hn : n ≤ 1048576) (hL : ∀ i, i < n → L i ≤ 1048576)
    (hk : k + psum L n ≤ 8796093022208) :
    Calls Tryz.prog 22 #[.slice A n c, .int .i64 (k : Int)] w fun e w' => e = .returned (.int .i64 ((k + psum L n : Nat) : Int)) ∧ Upd (Segs bb oo L n) w w' ∧ MarkedS w' n bb oo L k := by
  have HA := Lib.hid hA
  have HW := Lib.hid hW
  have HL := Lib.hid hL
  have HK := Lib.hid hk
  clear hA hW hL hk
  go_enter Tryz.func22, Tryz.ntmps22
  go_wp2
  go_loopw [1, 5] (fun q i wr => ∃ j : Nat, j ≤ n ∧ i = .int .i64 j ∧ q = .int .i64 ((k + psum L j : Nat) : Int) ∧ Upd (Segs bb oo L j) w wr ∧ MarkedS wr j bb oo L k) (fun _ i _ => n - (intOf i).toNat)
  case atStart => exact ⟨0, by omega, rfl, rfl, Upd.refl _ _, fun j hj => absurd hj (by omega)⟩
  case round =>
    obtain ⟨j, hj, rfl, rfl, hu, hm⟩ := hrel
    have HM := Lib.hid hm
    clear hm
    by_cases hlt : j < n
    · have hoff : ∀ i, i < j → ∀ o', ¬ Seg (bb i) (oo i) (L i) b o' := fun i hi o' h => by
        have hp : 0 < L i := by have := h.2.1; have := h.2.2; omega
        exact HW.out.off i (by omega) hp h.1.symm
      have hcell := (hu.cell b (o + j) (fun ⟨i, hi, h⟩ => hoff i hi _ h)).trans (HW.out.outer j hlt)
      have hwr : Wr wr (bb j) (oo j) (L j) := fun m hm => by
        obtain ⟨⟨v, hv⟩, hf⟩ := HW.out.wr j hlt m hm
        refine ⟨⟨v, (hu.cell _ _ (fun ⟨i, hi, h⟩ => ?_)).trans hv⟩, (hu.frozen _ _).trans hf⟩
        exact HW.out.apart i (by omega) j hlt (by omega) _ ⟨h, rfl, by omega, by omega⟩
      have hA := HA.out (by omega)
      subst hA
      have hps : psum L j ≤ psum L n := psum_mono (by omega)
      have hkk : k + psum L j ≤ 8796093022208 := by have := HK.out; omega
      have HWR := Lib.hid hwr
      have HU := Lib.hid hu
      have HPS := Lib.hid hps
      have HKK := Lib.hid hkk
      clear hoff hwr hu hps hkk
      generalize hq : k + psum L j = kj at *
      have HQ := Lib.hid hq
      clear hq
      go_wp2_with fail
      refine (markInt64S_any (R j) (bb j) (oo j) (L j) (C j) kj wr (HW.out.addr j hlt) HWR.out (HL.out j hlt) HKK.out).mono ?_
      rintro e w1 ⟨rfl, hu1, hm1⟩
      have HU1 := Lib.hid hu1
      have HM1 := Lib.hid hm1
      clear hu1 hm1
      go_wp2
      go_roundw
      case rel =>
        refine ⟨j + 1, by omega, by go_num, by rw [← HQ.out]; simp only [psum]; go_num, (HU.out.mono fun b' o' ⟨i, hi, h⟩ => ⟨i, by omega, h⟩).trans (HU1.out.mono fun b' o' h => ⟨j, by omega, h⟩), fun i hi => ?_⟩
        by_cases e : i = j
        · subst e
          rw [HQ.out]
          exact HM1.out
        · intro m hm
          exact (HU1.out.cell _ _ (fun h => HW.out.apart j hlt i (by omega) (fun e' => e e'.symm) _ ⟨h, rfl, by omega, by omega⟩)).trans (HM.out i (by omega) m hm)
      case measure => simp [intOf]; omega
    · have hjn : j = n := by omega
      subst hjn
      go_wp2
      go_ret
      exact ⟨rfl, hu, HM.out⟩

set_option maxHeartbeats 400000 in
theorem heldInt64SS_any (A : Option Addr) (b o n c k : Nat) (R : Nat → Option Addr) (bb oo L C : Nat → Nat) (w : World) (hA : 0 < n → A = some ⟨b, o, none⟩) (ho : ∀ i, i < n → w.cell? ⟨b, o + i, none⟩ = some (.slice (R i) (L i) (C i)))
    (ha : ∀ i, i < n → 0 < L i → R i = some ⟨bb i, oo i, none⟩) (hm : MarkedS w n bb oo L k) (hn : n ≤ 1048576) (hL : ∀ i, i < n → L i ≤ 1048576) (hk : k + psum L n ≤ 8796093022208) :
    Calls Tryz.prog 23 #[.slice A n c, .int .i64 (k : Int)] w fun e w' => e = .returned (.int .i64 ((k + psum L n : Nat) : Int)) ∧ w = w' := by
  have HA := Lib.hid hA
  have HO := Lib.hid ho
  have HAD := Lib.hid ha
  have HM := Lib.hid hm
  have HL := Lib.hid hL
  have HK := Lib.hid hk
  clear hA ho ha hm hL hk
  go_enter Tryz.func23, Tryz.ntmps23
  go_wp2
  go_loop [1, 5] (fun q i => ∃ j : Nat, j ≤ n ∧ i = .int .i64 j ∧ q = .int .i64 ((k + psum L j : Nat) : Int)) (fun _ i => n - (intOf i).toNat)
  case atStart => exact ⟨0, by omega, rfl, rfl⟩
  case round =>
    obtain ⟨j, hj, rfl, rfl⟩ := hrel
    by_cases hlt : j < n
    · have hcell := HO.out j hlt
      have hA := HA.out (by omega)
      subst hA
      have hps : psum L j ≤ psum L n := psum_mono (by omega)
      have hkk : k + psum L j ≤ 8796093022208 := by have := HK.out; omega
      have hmj := HM.out j hlt
      have HKK := Lib.hid hkk
      have HMJ := Lib.hid hmj
      have hlj := HL.out j hlt
      clear hps hkk hmj
      generalize hq : k + psum L j = kj at *
      have HQ := Lib.hid hq
      clear hq
      go_wp2_with fail
      refine (heldInt64S_any (R j) (bb j) (oo j) (L j) (C j) kj _ (HAD.out j hlt) HMJ.out hlj HKK.out).mono ?_
      rintro e w1 ⟨rfl, rfl⟩
      go_wp2
      go_round
      case rel => exact ⟨j + 1, by omega, by go_num, by rw [← HQ.out]; simp only [psum]; go_num⟩
      case measure => simp [intOf]; omega
    · have hjn : j = n := by omega
      subst hjn
      go_wp2
      go_ret
      exact ⟨rfl, rfl⟩

end Go.Proofs.YtcdijeeabgmgmaaGreatDoor

/- A region that draws its order and whose last operations write what it has read: a condition on the world that is asked only behind those operations which do not wait for the reads ('need'). -/
namespace Go.Proofs.YtcdijeeabgmgmaaGreatDoor
open Go.RowKit

section
variable {P : Program} {ops : Array Oper} {Q : Exit → Act → World → Prop} {md : Region.Mode} {C : World → Prop} {need : Nat → Bool}

/-- Whatever order is picked from here on; C holds behind each operation that needs it. -/
def Late (P : Program) (md : Region.Mode) (ops : Array Oper) (Q : Exit → Act → World → Prop) (C : World → Prop) (need : Nat → Bool) : Nat → Array Bool → Act → World → Prop
  | 0, done, a, w => Region.ready md ops done = [] ∧ Q .normal a w
  | k + 1, done, a, w => (Region.ready md ops done = [] → Q .normal a w) ∧
    ∀ j ∈ Region.ready md ops done, wpOp P ops Q j (fun a' w' => (need j = true → C w') ∧ Late P md ops Q C need k (done.setIfInBounds j true) a' w') a w

theorem Late.any : ∀ (k : Nat) (done : Array Bool) (a : Act) (w : World), Late P md ops Q C need k done a w → wpAny P md ops Q k done a w
  | 0, _, _, _, h => h
  | k + 1, _, _, _, h => ⟨h.1, fun j hj => wpOp_mono (fun a' w' h' => Late.any k _ a' w' h'.2) (h.2 j hj)⟩

theorem Late.first {i : Nat} {oi : Oper} {v : Value} (hi : ops[i]? = some oi) (hsel : ∀ (j : Nat) (o : Oper) cs b, ops[j]? = some o → o.op ≠ .select cs b)
    (hQ : ∀ c a w, Q (.panic c) (a.put oi.dst v) w → Q (.panic c) a w) (hn : ∀ j oj, ops[j]? = some oj → j ≠ i → need j = false → ∃ e ∈ oj.after, Region.binds md e = true ∧ e.on = i) :
    ∀ (k : Nat) (done : Array Bool) (a : Act) (w : World),
      (∀ j oj, ops[j]? = some oj → j ≠ i → done.getD j true = false → (∀ e ∈ oj.after, Region.binds md e = true → e.on ≠ i) → oi.apart ops oj = true) →
      i ∈ Region.ready md ops done → YieldsIf P ops C oi v a → C w → Late P md ops Q C need k (done.setIfInBounds i true) (a.put oi.dst v) w → Late P md ops Q C need (k + 1) done a w := by
  intro k
  induction k with
  | zero =>
    intro done a w _ hr hy hC H
    refine ⟨fun h => absurd (h ▸ hr) (by simp), fun j hj => ?_⟩
    rcases Nat.decEq j i with hji | rfl
    · exact absurd (H.1 ▸ ready_mono hj hji) (by simp)
    · exact hy.wpOp hi hC ⟨fun _ => hC, H⟩
  | succ k ih =>
    intro done a w hf hr hy hC H
    refine ⟨fun h => absurd (h ▸ hr) (by simp), fun j hj => ?_⟩
    rcases Nat.decEq j i with hji | rfl
    · obtain ⟨hu, oj, hoj, hall⟩ := mem_ready.1 hj
      have hru := (mem_ready.1 hr).1
      have hno : ∀ e ∈ oj.after, Region.binds md e = true → e.on ≠ i := fun e he hb heq => by
        have h1 := hall e he hb
        rw [heq] at h1
        rcases Nat.lt_or_ge i done.size with hs | hs
        · simp [hs] at hru h1
          rw [hru] at h1
          cases h1
        · simp [Array.getElem?_eq_none hs] at h1
      have hnj : need j = true := by
        cases hb : need j
        · obtain ⟨e, he, hbe, hone⟩ := hn j oj hoj hji hb
          exact absurd hone (hno e he hbe)
        · rfl
      have h2 := wpOp_putIf hoj (hf j oj hoj hji hu hno) (fun cs b => hsel i oi cs b hi) (fun cs b => hsel j oj cs b hoj) hQ hy (H.2 j (ready_mono hj hji))
      refine wpOp_mono (fun a' w' h3 => ⟨h3.2.1, ih (done.setIfInBounds j true) a' w' (fun l ol hl hli hul hnl => ?_) (ready_mono hr (Ne.symm hji)) h3.1 (h3.2.1 hnj) ?_⟩) h2
      · refine hf l ol hl hli ?_ hnl
        by_cases hjl : j = l
        · subst hjl
          exact hu
        · rwa [getD_set_ne true hjl] at hul
      · rw [Array.setIfInBounds_comm _ _ hji]
        exact h3.2.2
    · exact hy.wpOp hi hC ⟨fun _ => hC, H⟩

/-- Do all operations that may leave C behind them wait for the operation i? -/
def lateB (md : Region.Mode) (ops : Array Oper) (need : Nat → Bool) (i : Nat) : Bool :=
  (List.range ops.size).all fun j => j == i || need j || match ops[j]? with
    | some oj => oj.after.any fun e => Region.binds md e && e.on == i
    | none => true
theorem lateB_spec {i : Nat} (h : lateB md ops need i = true) (j : Nat) (oj : Oper) (hj : ops[j]? = some oj) (hne : j ≠ i) (hn : need j = false) : ∃ e ∈ oj.after, Region.binds md e = true ∧ e.on = i := by
  have h1 := List.all_eq_true.1 h j (List.mem_range.2 (Array.getElem?_eq_some_iff.1 hj).1)
  simp only [hj, hn, Bool.or_false, Bool.or_eq_true, beq_iff_eq] at h1
  rcases h1 with h1 | h1
  · exact absurd h1 hne
  · obtain ⟨e, he, hb⟩ := Array.any_eq_true'.1 h1
    simp only [Bool.and_eq_true, beq_iff_eq] at hb
    exact ⟨e, he, hb.1, hb.2⟩

theorem Late.take {i : Nat} {oi : Oper} {v : Value} {k : Nat} {done : Array Bool} {a : Act} {w : World} (hi : ops[i]? = some oi)
    (hs : Region.noSelect ops = true) (hf : Region.free md ops done i = true) (hr : (Region.ready md ops done).contains i = true) (hl : lateB md ops need i = true)
    (hQ : ∀ c a w, Q (.panic c) (a.put oi.dst v) w → Q (.panic c) a w) (hy : YieldsIf P ops C oi v a) (hC : C w)
    (h : Late P md ops Q C need k (done.setIfInBounds i true) (a.put oi.dst v) w) : Late P md ops Q C need (k + 1) done a w :=
  Late.first hi (Region.noSelect_spec hs) hQ (lateB_spec hl) k done a w (Region.free_spec hi hf) (by simpa using hr) hy hC h

/-- The one operation that may come up. -/
theorem Late.one {i : Nat} {o : Oper} {k : Nat} {done : Array Bool} {a : Act} {w : World} (hr : Region.ready md ops done = [i]) (ho : ops[i]? = some o)
    (h : ∀ K' : Act → World → Prop, Shut (∀ a w, (need i = true → C w) → ((need i = true → C w) → Late P md ops Q C need k (done.setIfInBounds i true) a w) → K' a w) → if Region.wanted o (yielded ops a.tmps) = true then Oper.wp P o a w K' Q else K' (a.put o.dst undef) w) :
    Late P md ops Q C need (k + 1) done a w := by
  refine ⟨fun h0 => absurd (hr ▸ h0) (by simp), fun j hj => ?_⟩
  rw [hr] at hj
  obtain rfl := List.mem_singleton.1 hj
  exact wpOp_step ho fun K' hK => h K' fun a w hS hW => hK a w ⟨hS, hW hS⟩

theorem Late.done {listed : Array Bool} {a : Act} {w : World} (hr : Region.ready md ops listed = []) (h : Q .normal a w) : ∀ k, Late P md ops Q C need k listed a w
  | 0 => ⟨hr, h⟩
  | _ + 1 => ⟨fun _ => h, by rw [hr]; simp⟩

theorem Late.region {id : Nat} {a : Act} {w : World} (need : Nat → Bool) (hm : P.follows .mixedOrders = true) (hC : C w.drew) (h : C w.drew → Late P .any ops Q C need ops.size (Array.replicate ops.size false) a w.drew) : (Code.region id ops true).wp P Q a w :=
  wp_region_any hm (Late.any _ _ _ _ (h hC))
end

section
variable {n r : Nat} {P : Program} {Q : Exit → Act → World → Prop}
/-- In a round of a range over a function. -/
theorem Late.round {id : Nat} {a : Act} {w : World} {l : List Oper} {C : World → Prop} (need : Nat → Bool) (hm : P.follows .mixedOrders = true) (hp : plainOps l = true) (hQ : ¬ LetsOut Q) (hC : C w.drew)
    (h : C w.drew → Late P .any l.toArray Q C need l.length (Array.replicate l.length false) a w.drew) : (Code.region id l.toArray true).wpIn (Fence.wide.inRound r) n P Q a w := by
  have h1 := Late.any _ _ _ _ (h hC)
  have h2 := wpAnyIn_round (r := r) hp rfl _ _ _ _ (wpAnyIn_of_wpAny (n := n) hQ _ _ _ _ h1)
  refine wpIn_region_any hm ?_
  simpa using h2
end

end Go.Proofs.YtcdijeeabgmgmaaGreatDoor

/- A range over a function that hands memory to its rounds: the iterator's contract says what lies behind each element. -/
namespace Go.Proofs.YtcdijeeabgmgmaaGreatDoor
open Go.RowKit

/-- As SeqStopsK, and of each element that is handed over Pr is told in the world in which it is. -/
def SeqP {α : Type} (n : Nat) (P : Program) (g : Nat) (lb : Array Value) (encs : α → Array Value) (Pr : α → World → Prop) (Kp : World → World → Prop) (S Sp : List α → Prop) (N : Nat) (w : World) : Prop :=
  ∀ (l : Nat) (J Jx : List α → World → Prop) (W : World), Below w.heap.size w W → AbidesFrom W.heap.size J → AbidesFrom W.heap.size Jx →
    (∀ pre x W1, J pre W1 → Pr x W1 → pre.length < N → YieldAt Fence.wide (n - 1) P l (encs x) W1 fun e W' =>
      (e = .returned (.bool true) ∧ J (pre ++ [x]) W' ∧ Kp W1 W') ∨ (e = .returned (.bool false) ∧ Jx (pre ++ [x]) W')) →
    J [] W →
    CallsIn Fence.wide n P g (#[.func (.yield l) #[] #[]] ++ lb) W fun e W' => (∃ v, e = .returned v) ∧ ((∃ xs, S xs ∧ J xs W') ∨ (∃ pre, Sp pre ∧ Jx pre W'))

/-- How a round may be left, R being the relation besides. -/
def RPostQ {α : Type} (R : World → World → Prop) (n₀ : Nat) (I : List α → World → Prop) (Ix : Code → List α → World → Prop) (xs : List α) (W : World) : Exit → Act → World → Prop
  | .normal, _, W' => Keeps n₀ W W' ∧ R W W' ∧ I xs W'
  | .ret, _, W' => Keeps n₀ W W' ∧ Ix .ret xs W'
  | .exit id, _, W' => Keeps n₀ W W' ∧ Ix (.exit id) xs W'
  | .goto t, _, W' => Keeps n₀ W W' ∧ Ix (.goto t) xs W'
  | .panic _, _, _ => False
  | .outgrown, _, _ => False

section
variable {P : Program} {α : Type} {g : Operand} {ps : Array Tmp} {assign body : Code} {Q : Exit → Act → World → Prop} {a : Act} {w : World} {n n₀ gf N : Nat} {lb : Array Value} {encs : α → Array Value} {S Sp : List α → Prop} {Pr : α → World → Prop} {R : World → World → Prop}

/-- The records of a loop at its two blocks. -/
def Books (k : Nat) (r : Loop) (W : World) : Prop := W.heap[k + 1]? = some (.loop r) ∧ W.heap[k]? = some (.deferred (some []))
theorem Books.abides {k : Nat} {r : Loop} {A B : World} {row : Option Nat} (h : Books k r A) (hg : A.grownBy B row) (hr : ∀ j, row = some j → ∃ o : Obj, A.heap[j]? = some o ∧ o.isWalk = true) : Books k r B :=
  ⟨(grownBy_keeps hg hr h.1 rfl).trans h.1, (grownBy_keeps hg hr h.2 rfl).trans h.2⟩
theorem Books.kept {k B : Nat} {r : Loop} {W W' : World} (h : Books k r W) (hk : KeepsFrom B W W') (hB : B ≤ k) : Books k r W' :=
  ⟨hk.same _ _ (by omega) h.1 rfl, hk.same _ _ hB h.2 rfl⟩
theorem Books.put {k : Nat} {r r' : Loop} {W : World} (h : Books k r W) : Books k r' (W.putObj (k + 1) (.loop r')) :=
  ⟨World.putObj_heap_same (Array.getElem?_eq_some_iff.1 h.1).1, (World.putObj_heap_other (by omega)).trans h.2⟩

theorem range_topP (hRt : ∀ {A B C : World}, R A B → R B C → R A C) (hRb : ∀ (W : World) (l : Nat) (o o' : Obj), W.heap[l]? = some o → o.isCells = false → R W (W.putObj l o')) (h1 : 1 ≤ n) (hg : a.eval g = .func (.func gf) #[] lb) (eg : ∀ args w, (callFunc gf args).run P w = .ok (.enter gf args) w)
    (hseq : SeqP (n - 1) P gf lb encs Pr (fun A B => Below n₀ A B ∧ R A B) S Sp N w) (hn : n₀ ≤ w.heap.size) (hps : ∀ x, (encs x).size = ps.size)
    (I : List α → World → Prop) (Ix : Code → List α → World → Prop) (hI : OwnFrom w.heap.size I) (hIx : ∀ c, OwnFrom w.heap.size (Ix c)) (hPr : OwnFrom w.heap.size Pr) (h0 : I [] w)
    (hround : ∀ (l : Nat) (x : α) (W : World) (K : Act → World → Prop), (∀ a', (∀ (l : Nat) (pre : List α) (W : World), (∃ r, W.heap[l]? = some (.loop r)) → I pre W → Pr x W → Keeps n₀ w W → pre.length < N → body.wpIn (Fence.wide.inRound l) (n - 1 - 1) P (RPostQ R n₀ I Ix (pre ++ [x]) W) a' W) → K a' W) →
      assign.wpIn (Fence.wide.inRound l) (n - 1 - 1) P (Exit.then K (fun _ _ _ => False)) { tmps := (ps.zip (encs x)).foldl (fun t (p, v) => t.setIfInBounds p v) a.tmps, defers := [] } W)
    (hdone : ∀ (D : Nat) (xs : List α) (W : World), w.heap.size ≤ D → S xs → I xs W → Keeps n₀ w W → W.heap[D]? = some (.deferred (some [])) → Q .normal { a with defers := { target := .collected D, args := #[] } :: a.defers } W)
    (hstop : ∀ (D : Nat) (c : Code) (pre : List α) (W : World), w.heap.size ≤ D → Sp pre → Ix c pre W → Keeps n₀ w W → W.heap[D]? = some (.deferred (some [])) → c.wpIn Fence.wide n P Q { a with defers := { target := .collected D, args := #[] } :: a.defers } W) :
    (Code.rangeFunc g ps assign body).wpIn Fence.wide n P Q a w := by
  refine wpIn_rangeFunc fun fn hfn => ?_
  rw [show Fence.wide.round = none from rfl]
  obtain ⟨k, hk⟩ : ∃ k, w.heap.size = k := ⟨_, rfl⟩
  obtain ⟨rec, hrec⟩ : ∃ rec : LoopState → Option Code → Loop, rec = fun st pe => { state := st, pending := pe, fn, tmps := a.tmps, params := ps, assign, body, defers := k } := ⟨_, rfl⟩
  obtain ⟨W1, hW1⟩ : ∃ W1, (w.alloc (.deferred (some []))).alloc (.loop (rec .ready none)) = W1 := ⟨_, rfl⟩
  have hB1 : Books k (rec .ready none) W1 := by
    rw [← hW1, ← hk]
    refine ⟨?_, (Below.heap_alloc _ _ _ (by simp)).trans (World.alloc_heap_new w _)⟩
    have := World.alloc_heap_new (w.alloc (.deferred (some []))) (.loop (rec .ready none))
    rwa [World.size_alloc] at this
  have hI' : OwnFrom w.heap.size (fun pre W => I pre W ∧ Keeps n₀ w W) := OwnFrom.and hI (ownFrom_keeps hn (Nat.le_refl _))
  have hIx' : ∀ c, OwnFrom w.heap.size (fun pre W => Ix c pre W ∧ Keeps n₀ w W) := fun c => OwnFrom.and (hIx c) (ownFrom_keeps hn (Nat.le_refl _))
  have hI1 : I [] W1 ∧ Keeps n₀ w W1 := by rw [← hW1]; exact hI'.alloc _ (hI'.alloc _ ⟨h0, Keeps.refl _ _⟩)
  have hz1 : W1.heap.size = k + 1 + 1 := by rw [← hW1]; simp [hk]
  have hb1 : Below w.heap.size w W1 := by
    rw [← hW1]
    exact ((Below.refl _ w).alloc (Nat.le_refl _) _).alloc (by simp) _
  refine ⟨k + 1, [{ target := .collected k, args := #[] }], W1, { target := .fn (.func gf) lb, args := #[.func (.yield (k + 1)) #[] #[]] }, W1, gf, #[.func (.yield (k + 1)) #[] #[]] ++ lb, W1, ?_, ?_, ?_, ?_, fun _ => h1, ?_⟩
  · rw [← hW1, hrec, ← hk]
    exact run_enterLoop_outer _ _ _ _ _
  · simp only [resolve, hg]
    simp [go_sem]
  · intro f' _
    trivial
  · simp [invoke, go_sem, eg]
  have hnc : ∀ {A : World} {row : Option Nat}, (∀ r, row = some r → W1.heap.size ≤ r ∧ ∃ o : Obj, A.heap[r]? = some o ∧ o.isWalk = true) → ∀ r, row = some r → w.heap.size ≤ r ∧ ∃ o : Obj, A.heap[r]? = some o ∧ o.isCells = false := fun hr r e => by
    obtain ⟨hB, o, ho, hw⟩ := hr r e
    exact ⟨by omega, o, ho, Obj.not_cells_of_walk hw⟩
  refine (hseq (k + 1) (fun pre W => (I pre W ∧ Keeps n₀ w W) ∧ Books k (rec .ready none) W) (fun pre W => ∃ c, (Ix c pre W ∧ Keeps n₀ w W) ∧ Books k (rec .done (some c)) W) W1 hb1
    (fun s A B row hs hg' hr => ⟨hI' s A B row hs.1 hg' (hnc hr), hs.2.abides hg' fun j e => (hr j e).2⟩)
    (fun s A B row hs hg' hr => let ⟨c, hc, hl⟩ := hs; ⟨c, hIx' c s A B row hc hg' (hnc hr), hl.abides hg' fun j e => (hr j e).2⟩)
    ?_ ⟨hI1, hB1⟩).mono ?_
  · rintro pre x W ⟨hi, hl⟩ hp hlen
    have hlt := (Array.getElem?_eq_some_iff.1 hl.1).1
    have hy := run_yield (P := P) (args := encs x) hl.1 (by rw [hrec]; exact hps x)
    rw [hrec] at hy
    refine ⟨fn, _, assign, body, hy, roundIn_of_wpIn hfn (hround _ x W _ fun a' hb => ?_)⟩
    have hr0 := run_beginRound (P := P) hl.1 (by rw [hrec])
    refine ⟨_, hr0, ?_⟩
    have hl2 : Books k { rec .ready none with state := .busy } (W.putObj (k + 1) (.loop { rec .ready none with state := .busy })) := hl.put
    have hbel : ∀ (X : World) (o o' : Obj), X.heap[k + 1]? = some o → o.isCells = false → o.isWalk = false → Below n₀ X (X.putObj (k + 1) o') := fun X o o' h h2 h3 => belowK_b (w := w) hn X (k + 1) o o' (by omega) h h2 h3
    have hi2 := hI'.putObj (.loop { rec .ready none with state := .busy }) hi (by omega) hl.1 rfl
    refine wpIn_mono (hb _ pre _ ⟨_, hl2.1⟩ hi2.1 (hPr.putObj _ hp (by omega) hl.1 rfl) hi2.2 hlen) ?_
    have hk2 := hbel W _ (.loop { rec .ready none with state := .busy }) hl.1 rfl rfl
    have fin : ∀ (jump : Option Code) (W3 : World), Keeps n₀ (W.putObj (k + 1) (.loop { rec .ready none with state := .busy })) W3 →
        (Instr.endRound (k + 1) jump).run P W3 = .ok (.bool jump.isNone) (W3.putObj (k + 1) (.loop (rec (if jump.isNone then .ready else .done) jump))) ∧
        W3.heap[k + 1]? = some (.loop { rec .ready none with state := .busy }) ∧ Books k (rec (if jump.isNone then .ready else .done) jump) (W3.putObj (k + 1) (.loop (rec (if jump.isNone then .ready else .done) jump))) := fun jump W3 h3 => by
      have hl3 := hl2.kept h3.2 (Nat.zero_le _)
      have hr3 := run_endRound (P := P) jump hl3.1
      refine ⟨?_, hl3.1, hl3.put⟩
      rw [hrec] at hr3 ⊢
      exact hr3
    rintro e a3 W3 hp3
    cases e with
    | normal =>
      obtain ⟨hr, hl3, hb3⟩ := fin none W3 hp3.1
      exact ⟨_, _, hr, .inl ⟨rfl, ⟨hI'.putObj _ ⟨hp3.2.2, hi2.2.trans hp3.1⟩ (by omega) hl3 rfl, hb3⟩, (hk2.trans hp3.1.1).trans (hbel W3 _ _ hl3 rfl rfl), hRt (hRt (hRb W _ _ _ hl.1 rfl) hp3.2.1) (hRb W3 _ _ _ hl3 rfl)⟩⟩
    | ret =>
      obtain ⟨hr, hl3, hb3⟩ := fin (some .ret) W3 hp3.1
      exact ⟨_, _, hr, .inr ⟨rfl, .ret, (hIx' _).putObj _ ⟨hp3.2, hi2.2.trans hp3.1⟩ (by omega) hl3 rfl, hb3⟩⟩
    | exit id =>
      obtain ⟨hr, hl3, hb3⟩ := fin (some (.exit id)) W3 hp3.1
      exact ⟨_, _, hr, .inr ⟨rfl, .exit id, (hIx' _).putObj _ ⟨hp3.2, hi2.2.trans hp3.1⟩ (by omega) hl3 rfl, hb3⟩⟩
    | goto t =>
      obtain ⟨hr, hl3, hb3⟩ := fin (some (.goto t)) W3 hp3.1
      exact ⟨_, _, hr, .inr ⟨rfl, .goto t, (hIx' _).putObj _ ⟨hp3.2, hi2.2.trans hp3.1⟩ (by omega) hl3 rfl, hb3⟩⟩
    | panic ch => exact hp3.elim
    | outgrown => exact hp3.elim
  · rintro e W2 ⟨⟨v, rfl⟩, (⟨xs, hS, hi, hl⟩ | ⟨pre, hSp, c, hi, hl⟩)⟩
    · have hr := run_endLoop (P := P) hl.1 (by rw [hrec]; simp)
      rw [hrec] at hr
      have hi2 := fun o' : Obj => hI'.putObj o' hi (by omega) hl.1 rfl
      exact ⟨none, _, hr, hdone k xs _ (by omega) hS (hi2 _).1 (hi2 _).2 ((World.putObj_heap_other (by omega)).trans hl.2)⟩
    · have hr := run_endLoop (P := P) hl.1 (by rw [hrec]; simp)
      rw [hrec] at hr
      have hi2 := fun o' : Obj => (hIx' c).putObj o' hi (by omega) hl.1 rfl
      exact ⟨some c, _, hr, hstop k c pre _ (by omega) hSp (hi2 _).1 (hi2 _).2 ((World.putObj_heap_other (by omega)).trans hl.2)⟩
end

end Go.Proofs.YtcdijeeabgmgmaaGreatDoor
