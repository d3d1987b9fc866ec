/- Ex Cv in one text. -/
import Derived.Test.YtcdijeeabgmgmaaGreatDoorOgr
import Derived.Test.YtcdijeeabgmgmaaGreatDoorBa
import Derived.Test.YtcdijeeabgmgmaaGreatDoorHlp
/- What lasts while memory grows: worlds that go on from a world; data of the call's own in a range of blocks, which may be written. -/
namespace Go.Proofs.YtcdijeeabgmgmaaGreatDoor
open Go.RowKit

/-- From a to b memory has only grown. -/
def Ex (a b : World) : Prop := Below a.heap.size a b

section
variable {a b c w w' : World} {lo hi lo' hi' : Nat}
theorem Ex.below (h : Ex a b) : Below a.heap.size a b := h
theorem Ex.refl (w : World) : Ex w w := Below.refl _ _
theorem Ex.size (h : Ex a b) : a.heap.size ≤ b.heap.size := Below.size (Ex.below h)
theorem Ex.trans (h : Ex a b) (k : Ex b c) : Ex a c := Below.trans (Ex.below h) (Below.mono (Ex.below k) h.size)
theorem Ex.trans' {n : Nat} (h : Ex a b) (k : Below n b c) (hn : a.heap.size ≤ n) : Ex a c := Below.trans (Ex.below h) (k.mono hn)
theorem Ex.alloc (h : Ex a b) (o : Obj) : Ex a (b.alloc o) := Below.alloc (Ex.below h) h.size o
theorem Ex.new (w : World) (o : Obj) : Ex w (w.alloc o) := (Ex.refl w).alloc o
theorem Ex.drew (h : Ex a b) : Ex a b.drew := Below.drew (Ex.below h)
theorem Ex.drawn (h : Ex a b) (k : Drawn b c) : Ex a c := Ex.trans h (k.below _)
theorem Ex.ofDrawn (k : Drawn a b) : Ex a b := k.below _
theorem Ex.drewN (h : Ex a b) (n : Nat) : Ex a (b.drewN n) := below_drewN (Ex.below h) n
theorem Ex.of_eq (h : b = a) : Ex a b := h ▸ Ex.refl a
theorem Ex.of_eq' (h : a = b) : Ex a b := h ▸ Ex.refl a

theorem Has.ex {g : Nat} {e : TypeId} {cs : Array Value} (h : Has w g e cs) (k : Ex w w') : Has w' g e cs := h.below k.below h.lt

/-- The slice at A reads as the list xs. -/
def IntsW (w : World) (A : Option Addr) (xs : List Int) : Prop := Ints w w.heap.size A xs
/-- The slice of slices at A reads as the table t. -/
def RwsW (w : World) (A : Option Addr) (t : List (List Int)) : Prop := Rws w w.heap.size A t
theorem IntsW.ints {A : Option Addr} {xs : List Int} (h : IntsW w A xs) : Ints w w.heap.size A xs := h
theorem RwsW.rws {A : Option Addr} {t : List (List Int)} (h : RwsW w A t) : Rws w w.heap.size A t := h
theorem IntsW.ex {A : Option Addr} {xs : List Int} (h : IntsW w A xs) (k : Ex w w') : IntsW w' A xs := (Ints.below (IntsW.ints h) k.below (Nat.le_refl _)).more k.size
theorem RwsW.ex {A : Option Addr} {t : List (List Int)} (h : RwsW w A t) (k : Ex w w') : RwsW w' A t := (Rws.below (RwsW.rws h) k.below (Nat.le_refl _)).more k.size
theorem IntsW.of {B : Nat} {A : Option Addr} {xs : List Int} (h : Ints w B A xs) (hB : B ≤ w.heap.size) : IntsW w A xs := h.more hB
theorem RwsW.of {B : Nat} {A : Option Addr} {t : List (List Int)} (h : Rws w B A t) (hB : B ≤ w.heap.size) : RwsW w A t := h.more hB
theorem IntsW.drew {A : Option Addr} {xs : List Int} (h : IntsW w A xs) : IntsW w.drew A xs := h.ex (Ex.refl w).drew
theorem RwsW.drew {A : Option Addr} {t : List (List Int)} (h : RwsW w A t) : RwsW w.drew A t := h.ex (Ex.refl w).drew

/-- From w to w' only blocks from lo to hi - 1 have turned, and new ones have come. -/
structure Only (lo hi : Nat) (w w' : World) : Prop where
  low : Below lo w w'
  same : ∀ b, hi ≤ b → b < w.heap.size → w'.heap[b]? = w.heap[b]?
theorem Only.size (h : Only lo hi a b) : a.heap.size ≤ b.heap.size := h.low.size
theorem Only.trans (h : Only lo hi a b) (k : Only lo' hi' b c) (hl : lo ≤ lo') (hh : hi ≤ hi') : Only lo hi' a c :=
  ⟨h.low.trans (k.low.mono hl), fun x hx hlt => (k.same x hx (by have := h.low.size; omega)).trans (h.same x (by omega) hlt)⟩
theorem Only.of_ex (h : Ex a b) (hl : lo ≤ a.heap.size) (hi : Nat) : Only lo hi a b := ⟨h.below.mono hl, fun x _ hx => h.below.block x hx⟩
theorem Ex.only (h : Ex a b) (k : Only lo hi b c) (hl : a.heap.size ≤ lo) : Ex a c := Below.trans (Ex.below h) (k.low.mono hl)
theorem Has.above {g : Nat} {e : TypeId} {cs : Array Value} (h : Has w g e cs) (k : Only lo hi w w') (hg : hi ≤ g) : Has w' g e cs := (k.same g hg h.lt).trans h
theorem Has.under {g : Nat} {e : TypeId} {cs : Array Value} (h : Has w g e cs) (k : Only lo hi w w') (hg : g < lo) : Has w' g e cs := (k.low.block g hg).trans h
theorem Only.of_upd {T : Nat → Nat → Prop} (h : Upd T w w') (hT : ∀ b o, T b o → lo ≤ b ∧ b < hi) : Only lo hi w w' :=
  ⟨h.below fun b o ht => (hT b o ht).1, fun b hb _ => h.block b fun o ht => by have := (hT b o ht).2; omega⟩

theorem Ex.setCell (h : Ex a b) {p : Addr} (hp : a.heap.size ≤ p.block) (v : Value) : Ex a (b.setCell p v) := Below.setCell (Ex.below h) hp v
theorem Only.set (w : World) (g o : Nat) (v : Value) : Only g (g + 1) w (w.setCell ⟨g, o, none⟩ v) :=
  ⟨(Below.refl g w).setCell (p := ⟨g, o, none⟩) (Nat.le_refl _) v, fun b hb _ => Below.heap_setCell w _ v b (by show b ≠ g; omega)⟩
theorem Has.put1 {g : Nat} {e : TypeId} {x v : Value} (h : Has w g e #[x]) : Has (w.setCell ⟨g, 0, none⟩ v) g e #[v] := by simpa using h.put 0 v
theorem Has.put2 {g : Nat} {e : TypeId} {x y u v : Value} (h : Has w g e #[x, y]) : Has ((w.setCell ⟨g, 0, none⟩ u).setCell ⟨g, 1, none⟩ v) g e #[u, v] := by simpa using (h.put 0 u).put 1 v

/-- A box that was made, what it held, and where. -/
theorem Has.born {T : TypeId} {cs : Array Value} (h : Ex a b) (k : Ex (b.alloc (.cells cs T)) c) : Has c b.heap.size T cs ∧ b.heap.size < (b.alloc (.cells cs T)).heap.size ∧ a.heap.size ≤ b.heap.size := ⟨(Has.new b T cs).ex k, (Has.new b T cs).lt, h.size⟩
theorem Has.born' {T : TypeId} {cs : Array Value} {o : Obj} (h : Ex a b) (k : Ex ((b.alloc (.cells cs T)).alloc o) c) : Has c b.heap.size T cs ∧ b.heap.size < ((b.alloc (.cells cs T)).alloc o).heap.size ∧ a.heap.size ≤ b.heap.size :=
  ⟨((Has.new b T cs).alloc o).ex k, ((Has.new b T cs).alloc o).lt, h.size⟩
theorem Has.bornD {T : TypeId} {cs : Array Value} (k : Ex (b.alloc (.cells cs T)).drew c) : Has c b.heap.size T cs ∧ b.heap.size < (b.alloc (.cells cs T)).drew.heap.size ∧ b.drew.heap.size ≤ b.heap.size :=
  ⟨Has.ex (w := (b.alloc (.cells cs T)).drew) (Has.new b T cs) k, (Has.new b T cs).lt, Nat.le_refl _⟩
theorem Has.bornD' {T : TypeId} {cs : Array Value} {o : Obj} (k : Ex ((b.alloc (.cells cs T)).alloc o).drew c) : Has c b.heap.size T cs ∧ b.heap.size < ((b.alloc (.cells cs T)).alloc o).drew.heap.size ∧ b.drew.heap.size ≤ b.heap.size :=
  ⟨Has.ex (w := ((b.alloc (.cells cs T)).alloc o).drew) ((Has.new b T cs).alloc o) k, ((Has.new b T cs).alloc o).lt, Nat.le_refl _⟩
theorem Has.later {T : TypeId} {g : Nat} {cs : Array Value} (h : Has b g T cs) (k : Ex b c) : Has c g T cs ∧ g < b.heap.size := ⟨h.ex k, h.lt⟩

/-- A list of the call's own in the blocks lo .. hi - 1: it may be written. -/
def OwnL (w : World) (lo hi : Nat) (A : Option Addr) (xs : List Int) : Prop :=
  hi ≤ w.heap.size ∧ (0 < xs.length → ∃ b o, A = some ⟨b, o, none⟩ ∧ lo ≤ b ∧ b < hi ∧ ∀ j, j < xs.length → w.cell? ⟨b, o + j, none⟩ = some (.int .i64 (nth xs j)) ∧ w.frozen? ⟨b, o + j, none⟩ = false)
theorem OwnL.le {A : Option Addr} {xs : List Int} (h : OwnL w lo hi A xs) : hi ≤ w.heap.size := h.1
theorem OwnL.ints {A : Option Addr} {xs : List Int} (h : OwnL w lo hi A xs) : IntsW w A xs := by
  rcases xs with _ | ⟨x, xs⟩
  · exact .inl rfl
  · obtain ⟨hh, h⟩ := h
    obtain ⟨b, o, e, l, u, c⟩ := h (by simp)
    exact .inr ⟨b, o, e, by omega, fun j hj => (c j hj).1⟩
theorem OwnL.keep {A : Option Addr} {xs : List Int} (h : OwnL w lo hi A xs) (hs : w.heap.size ≤ w'.heap.size) (he : ∀ b, lo ≤ b → b < hi → w'.heap[b]? = w.heap[b]?) : OwnL w' lo hi A xs := by
  refine ⟨Nat.le_trans h.1 hs, fun hp => ?_⟩
  obtain ⟨b, o, e, l, u, c⟩ := h.2 hp
  have hb := he b l u
  exact ⟨b, o, e, l, u, fun j hj => ⟨(cell_of_block hb _).trans (c j hj).1, (frozen_of_block hb _).trans (c j hj).2⟩⟩
theorem OwnL.ex {A : Option Addr} {xs : List Int} (h : OwnL w lo hi A xs) (k : Ex w w') : OwnL w' lo hi A xs := h.keep k.size fun b _ hb => k.below.block b (Nat.lt_of_lt_of_le hb h.1)
theorem OwnL.above {l u : Nat} {A : Option Addr} {xs : List Int} (h : OwnL w lo hi A xs) (k : Only l u w w') (hu : u ≤ lo) : OwnL w' lo hi A xs :=
  h.keep k.size fun b hb hb' => k.same b (by omega) (Nat.lt_of_lt_of_le hb' h.1)
theorem OwnL.under {l u : Nat} {A : Option Addr} {xs : List Int} (h : OwnL w lo hi A xs) (k : Only l u w w') (hu : hi ≤ l) : OwnL w' lo hi A xs :=
  h.keep k.size fun b _ hb' => k.low.block b (by omega)
theorem OwnL.mono {A : Option Addr} {xs : List Int} (h : OwnL w lo hi A xs) (hl : lo' ≤ lo) (hh : hi ≤ hi') (hs : hi' ≤ w.heap.size) : OwnL w lo' hi' A xs :=
  ⟨hs, fun hp => let ⟨b, o, e, l, u, c⟩ := h.2 hp; ⟨b, o, e, Nat.le_trans hl l, Nat.lt_of_lt_of_le u hh, c⟩⟩
theorem OwnL.of_own {A : Option Addr} {xs : List Int} (h : OwnI w lo A xs) : OwnL w lo w.heap.size A xs := by
  obtain ⟨b, o, h1, h2, h3, h4⟩ := h
  exact ⟨Nat.le_refl _, fun hp => ⟨b, o, h1 hp, h2, h3, h4⟩⟩
theorem OwnL.nil (w : World) (lo : Nat) (A : Option Addr) (hh : hi ≤ w.heap.size) : OwnL w lo hi A [] := ⟨hh, fun h => absurd h (by simp)⟩
theorem OwnL.of_has {g n : Nat} {e : TypeId} {xs : List Int} (h : Has w g e (tab n fun j => .int .i64 (nth xs j))) (hn : n = xs.length) (hl : lo ≤ g) : OwnL w lo w.heap.size (some ⟨g, 0, none⟩) xs := by
  subst hn
  exact ⟨Nat.le_refl _, fun _ => ⟨g, 0, rfl, hl, h.lt, fun j hj => ⟨by rw [Nat.zero_add, h.cell, tab_get hj], h.free _⟩⟩⟩

/-- A table of the call's own in the blocks lo .. hi - 1: its rows may be written. -/
def OwnT (w : World) (lo hi : Nat) (A : Option Addr) (t : List (List Int)) : Prop :=
  hi ≤ w.heap.size ∧ (0 < t.length → ∃ b o R bb oo C, A = some ⟨b, o, none⟩ ∧ lo ≤ b ∧ b < hi ∧ RW w b o t.length R bb oo (fun i => (row t i).length) C ∧
    (∀ i, i < t.length → 0 < (row t i).length → lo ≤ bb i ∧ bb i < hi) ∧ ∀ i, i < t.length → ∀ j, j < (row t i).length → w.cell? ⟨bb i, oo i + j, none⟩ = some (.int .i64 (nth (row t i) j)))
theorem OwnT.le {A : Option Addr} {t : List (List Int)} (h : OwnT w lo hi A t) : hi ≤ w.heap.size := h.1
theorem OwnT.rws {A : Option Addr} {t : List (List Int)} (h : OwnT w lo hi A t) : RwsW w A t := by
  rcases t with _ | ⟨x, xs⟩
  · exact .inl rfl
  · obtain ⟨hh, h⟩ := h
    obtain ⟨b, o, R, bb, oo, C, e, l, u, hR, hI, hc⟩ := h (by simp)
    refine .inr ⟨b, o, e, by omega, fun i hi => ⟨R i, C i, hR.outer i hi, ?_⟩⟩
    rcases Nat.eq_zero_or_pos (row (x :: xs) i).length with h0 | h0
    · exact .inl (List.length_eq_zero_iff.1 h0)
    · exact .inr ⟨bb i, oo i, hR.addr i hi h0, by have := (hI i hi h0).2; omega, fun j hj => hc i hi j hj⟩
theorem RW.keep {b o n : Nat} {R : Nat → Option Addr} {bb oo L C : Nat → Nat} (h : RW w b o n R bb oo L C) (hb : w'.heap[b]? = w.heap[b]?) (hr : ∀ i, i < n → 0 < L i → w'.heap[bb i]? = w.heap[bb i]?) : RW w' b o n R bb oo L C where
  outer i hi := (cell_of_block hb _).trans (h.outer i hi)
  addr := h.addr
  wr i hi j hj := by
    have he := hr i hi (by omega)
    obtain ⟨⟨v, h1⟩, h2⟩ := h.wr i hi j hj
    exact ⟨⟨v, (cell_of_block he _).trans h1⟩, (frozen_of_block he _).trans h2⟩
  apart := h.apart
  off := h.off
theorem OwnT.keep {A : Option Addr} {t : List (List Int)} (h : OwnT w lo hi A t) (hs : w.heap.size ≤ w'.heap.size) (he : ∀ b, lo ≤ b → b < hi → w'.heap[b]? = w.heap[b]?) : OwnT w' lo hi A t := by
  refine ⟨Nat.le_trans h.1 hs, fun hp => ?_⟩
  obtain ⟨b, o, R, bb, oo, C, e, l, u, hR, hI, hc⟩ := h.2 hp
  exact ⟨b, o, R, bb, oo, C, e, l, u, hR.keep (he b l u) fun i hi h0 => he _ (hI i hi h0).1 (hI i hi h0).2, hI, fun i hi j hj => (cell_of_block (he _ (hI i hi (by omega)).1 (hI i hi (by omega)).2) _).trans (hc i hi j hj)⟩
theorem OwnT.ex {A : Option Addr} {t : List (List Int)} (h : OwnT w lo hi A t) (k : Ex w w') : OwnT w' lo hi A t := h.keep k.size fun b _ hb => k.below.block b (Nat.lt_of_lt_of_le hb h.1)
theorem OwnT.above {l u : Nat} {A : Option Addr} {t : List (List Int)} (h : OwnT w lo hi A t) (k : Only l u w w') (hu : u ≤ lo) : OwnT w' lo hi A t :=
  h.keep k.size fun b hb hb' => k.same b (by omega) (Nat.lt_of_lt_of_le hb' h.1)
theorem OwnT.under {l u : Nat} {A : Option Addr} {t : List (List Int)} (h : OwnT w lo hi A t) (k : Only l u w w') (hu : hi ≤ l) : OwnT w' lo hi A t :=
  h.keep k.size fun b _ hb' => k.low.block b (by omega)
theorem OwnT.mono {A : Option Addr} {t : List (List Int)} (h : OwnT w lo hi A t) (hl : lo' ≤ lo) (hh : hi ≤ hi') (hs : hi' ≤ w.heap.size) : OwnT w lo' hi' A t :=
  ⟨hs, fun hp => let ⟨b, o, R, bb, oo, C, e, l, u, hR, hI, hc⟩ := h.2 hp; ⟨b, o, R, bb, oo, C, e, Nat.le_trans hl l, Nat.lt_of_lt_of_le u hh, hR, fun i hi h0 => ⟨Nat.le_trans hl (hI i hi h0).1, Nat.lt_of_lt_of_le (hI i hi h0).2 hh⟩, hc⟩⟩
theorem OwnT.nil (w : World) (lo : Nat) (A : Option Addr) (hh : hi ≤ w.heap.size) : OwnT w lo hi A [] := ⟨hh, fun h => absurd h (by simp)⟩
theorem OwnT.of_fresh {G : Nat} {eo ei : TypeId} {t : List (List Int)} (h : FreshT w G eo ei t) (hl : lo ≤ G) (hs : G + 1 + t.length ≤ w.heap.size) : OwnT w lo w.heap.size (some ⟨G, 0, none⟩) t :=
  ⟨Nat.le_refl _, fun _ => ⟨G, 0, _, _, _, _, rfl, hl, by omega, h.rw, fun i hi _ => ⟨by omega, by omega⟩, fun i hi j hj => by rw [Nat.zero_add, (h.inner i hi).cell, tab_get hj]⟩⟩

/-- The n numbers from k on lie in a list of the blocks lo .. hi - 1. -/
def MkL (w : World) (lo hi : Nat) (A : Option Addr) (n k : Nat) : Prop := hi ≤ w.heap.size ∧ (0 < n → ∃ b o, A = some ⟨b, o, none⟩ ∧ lo ≤ b ∧ b < hi ∧ Marked w b o n k)
theorem MkL.keep {A : Option Addr} {n k : Nat} (h : MkL w lo hi A n k) (hs : w.heap.size ≤ w'.heap.size) (he : ∀ b, lo ≤ b → b < hi → w'.heap[b]? = w.heap[b]?) : MkL w' lo hi A n k :=
  ⟨Nat.le_trans h.1 hs, fun hp => let ⟨b, o, e, l, u, c⟩ := h.2 hp; ⟨b, o, e, l, u, fun j hj => (cell_of_block (he b l u) _).trans (c j hj)⟩⟩
theorem MkL.ex {A : Option Addr} {n k : Nat} (h : MkL w lo hi A n k) (e : Ex w w') : MkL w' lo hi A n k := h.keep e.size fun b _ hb => e.below.block b (Nat.lt_of_lt_of_le hb h.1)
theorem MkL.above {l u : Nat} {A : Option Addr} {n k : Nat} (h : MkL w lo hi A n k) (e : Only l u w w') (hu : u ≤ lo) : MkL w' lo hi A n k := h.keep e.size fun b hb hb' => e.same b (by omega) (Nat.lt_of_lt_of_le hb' h.1)
theorem MkL.under {l u : Nat} {A : Option Addr} {n k : Nat} (h : MkL w lo hi A n k) (e : Only l u w w') (hu : hi ≤ l) : MkL w' lo hi A n k := h.keep e.size fun b _ hb' => e.low.block b (by omega)

/-- How many numbers a table holds. -/
def cntT (t : List (List Int)) : Nat := psum (fun i => (row t i).length) t.length
/-- The numbers from k on lie in a table of the blocks lo .. hi - 1. -/
def MkT (w : World) (lo hi : Nat) (A : Option Addr) (t : List (List Int)) (k : Nat) : Prop :=
  hi ≤ w.heap.size ∧ (0 < t.length → ∃ b o R bb oo C, A = some ⟨b, o, none⟩ ∧ lo ≤ b ∧ b < hi ∧ RW w b o t.length R bb oo (fun i => (row t i).length) C ∧
    (∀ i, i < t.length → 0 < (row t i).length → lo ≤ bb i ∧ bb i < hi) ∧ MarkedS w t.length bb oo (fun i => (row t i).length) k)
theorem MkT.keep {A : Option Addr} {t : List (List Int)} {k : Nat} (h : MkT w lo hi A t k) (hs : w.heap.size ≤ w'.heap.size) (he : ∀ b, lo ≤ b → b < hi → w'.heap[b]? = w.heap[b]?) : MkT w' lo hi A t k := by
  refine ⟨Nat.le_trans h.1 hs, fun hp => ?_⟩
  obtain ⟨b, o, R, bb, oo, C, e, l, u, hR, hI, hc⟩ := h.2 hp
  exact ⟨b, o, R, bb, oo, C, e, l, u, hR.keep (he b l u) fun i hi h0 => he _ (hI i hi h0).1 (hI i hi h0).2, hI, fun i hi j hj => (cell_of_block (he _ (hI i hi (Nat.lt_of_le_of_lt (Nat.zero_le _) hj)).1 (hI i hi (Nat.lt_of_le_of_lt (Nat.zero_le _) hj)).2) _).trans (hc i hi j hj)⟩
theorem MkT.ex {A : Option Addr} {t : List (List Int)} {k : Nat} (h : MkT w lo hi A t k) (e : Ex w w') : MkT w' lo hi A t k := h.keep e.size fun b _ hb => e.below.block b (Nat.lt_of_lt_of_le hb h.1)
theorem MkT.above {l u : Nat} {A : Option Addr} {t : List (List Int)} {k : Nat} (h : MkT w lo hi A t k) (e : Only l u w w') (hu : u ≤ lo) : MkT w' lo hi A t k := h.keep e.size fun b hb hb' => e.same b (by omega) (Nat.lt_of_lt_of_le hb' h.1)
theorem MkT.under {l u : Nat} {A : Option Addr} {t : List (List Int)} {k : Nat} (h : MkT w lo hi A t k) (e : Only l u w w') (hu : hi ≤ l) : MkT w' lo hi A t k := h.keep e.size fun b _ hb' => e.low.block b (by omega)

/-- Not too great to be counted. -/
def SmallT (t : List (List Int)) : Prop := t.length ≤ 1048576 ∧ ∀ i, i < t.length → (row t i).length ≤ 1048576
theorem SmallT.of {t : List (List Int)} (h : Small t 1048576) : SmallT t := ⟨by have := h.1; omega, fun i hi => by have := h.2 i hi; omega⟩
theorem SmallT.of_le {t : List (List Int)} {L : Int} (h : Small t L) (hL : L ≤ 1048576) : SmallT t := ⟨by have := h.1; omega, fun i hi => by have := h.2 i hi; omega⟩
theorem SmallT.cnt {t : List (List Int)} (h : SmallT t) : cntT t ≤ 1099511627776 := psum_small h.1 h.2
end

end Go.Proofs.YtcdijeeabgmgmaaGreatDoor

/- The laws' helpers in one form: measure, copy, compare, mark, look for marks. -/
namespace Go.Proofs.YtcdijeeabgmgmaaGreatDoor
open Go.RowKit

section
/-! lists of numbers -/
theorem toInt64S_ex (A : Option Addr) (xs : List Int) (c : Nat) (w : World) (hR : IntsW w A xs) (hn : xs.length ≤ 1048576) :
    Calls Tryz.prog 27 #[.slice A xs.length c] w fun e w' => ∃ A' n', e = .returned (.slice A' xs.length n') ∧ Ex w w' ∧ OwnL w' w.heap.size w'.heap.size A' xs :=
  (toInt64S_any A xs c w.heap.size w hR.ints (Nat.le_refl _) hn).mono fun _ _ ⟨h1, h2, _, h4⟩ => ⟨_, _, h1, h2, OwnL.of_has h4 rfl (Nat.le_refl _)⟩

theorem eqInt64S_ex (A A' : Option Addr) (xs : List Int) (c c' : Nat) (w : World) (hx : IntsW w A xs) (hy : IntsW w A' xs) (hn : xs.length ≤ 1048576) :
    Calls Tryz.prog 12 #[.slice A xs.length c, .slice A' xs.length c'] w fun e w' => e = .returned (.bool true) ∧ Ex w w' :=
  (eqInt64S_any A A' xs xs c c' _ _ w hx.ints hy.ints hn hn).mono fun _ _ ⟨h1, h2⟩ => ⟨by rw [h1]; simp, Ex.ofDrawn h2⟩

theorem markInt64S_ex (A : Option Addr) (xs : List Int) (c k lo hi : Nat) (w : World) (h : OwnL w lo hi A xs) (hn : xs.length ≤ 1048576) (hk : k ≤ 8796093022208) :
    Calls Tryz.prog 17 #[.slice A xs.length c, .int .i64 (k : Int)] w fun e w' => e = .returned (.int .i64 ((k + xs.length : Nat) : Int)) ∧ Only lo hi w w' ∧ MkL w' lo hi A xs.length k := by
  rcases Nat.eq_zero_or_pos xs.length with h0 | h0
  · refine (markInt64S_any A 0 0 xs.length c k w (fun hp => absurd hp (by omega)) (fun j hj => absurd hj (by omega)) hn hk).mono ?_
    rintro e w' ⟨rfl, hu, _⟩
    exact ⟨rfl, Only.of_upd hu fun b o hs => absurd hs.2.2 (by have := hs.2.1; omega), by rw [hu.size]; exact h.1, fun hp => absurd hp (by omega)⟩
  · obtain ⟨b, o, e, l, u, hc⟩ := h.2 h0
    refine (markInt64S_any A b o xs.length c k w (fun _ => e) (fun j hj => ⟨⟨_, (hc j hj).1⟩, (hc j hj).2⟩) hn hk).mono ?_
    rintro e' w' ⟨rfl, hu, hm⟩
    exact ⟨rfl, Only.of_upd hu fun b' o' hs => by have := hs.1; omega, by rw [hu.size]; exact h.1, fun _ => ⟨b, o, e, l, u, hm⟩⟩

theorem heldInt64S_ex (A : Option Addr) (n c k lo hi : Nat) (w : World) (h : MkL w lo hi A n k) (hn : n ≤ 1048576) (hk : k ≤ 8796093022208) :
    Calls Tryz.prog 18 #[.slice A n c, .int .i64 (k : Int)] w fun e w' => e = .returned (.int .i64 ((k + n : Nat) : Int)) ∧ Ex w w' := by
  rcases Nat.eq_zero_or_pos n with h0 | h0
  · exact (heldInt64S_any A 0 0 n c k w (fun hp => absurd hp (by omega)) (fun j hj => absurd hj (by omega)) hn hk).mono fun e w' ⟨h1, h2⟩ => ⟨h1, Ex.of_eq' h2⟩
  · obtain ⟨b, o, e, l, u, hm⟩ := h.2 h0
    exact (heldInt64S_any A b o n c k w (fun _ => e) hm hn hk).mono fun e w' ⟨h1, h2⟩ => ⟨h1, Ex.of_eq' h2⟩

/-! tables and groups -/
theorem eqInt64SS_ex (A A' : Option Addr) (t : List (List Int)) (c c' : Nat) (w : World) (hx : RwsW w A t) (hy : RwsW w A' t) (hs : SmallT t) :
    Calls Tryz.prog 21 #[.slice A t.length c, .slice A' t.length c'] w fun e w' => e = .returned (.bool true) ∧ Ex w w' :=
  (eqInt64SS_any A A' t t c c' _ _ w hx.rws hy.rws hs.1 hs.1 hs.2 hs.2).mono fun _ _ ⟨h1, h2⟩ => ⟨by rw [h1]; simp, Ex.ofDrawn h2⟩

theorem markInt64SS_ex (A : Option Addr) (t : List (List Int)) (c k lo hi : Nat) (w : World) (h : OwnT w lo hi A t) (hs : SmallT t) (hk : k ≤ 4398046511104) :
    Calls Tryz.prog 22 #[.slice A t.length c, .int .i64 (k : Int)] w fun e w' => e = .returned (.int .i64 ((k + cntT t : Nat) : Int)) ∧ Only lo hi w w' ∧ MkT w' lo hi A t k := by
  have hc := hs.cnt
  rcases Nat.eq_zero_or_pos t.length with h0 | h0
  · refine (markInt64SS_any A 0 0 t.length c k (fun _ => none) (fun _ => 0) (fun _ => 0) (fun i => (row t i).length) (fun _ => 0) w (fun hp => absurd hp (by omega))
      ⟨fun i hi => absurd hi (by omega), fun i hi => absurd hi (by omega), fun i hi => absurd hi (by omega), fun i hi => absurd hi (by omega), fun i hi => absurd hi (by omega)⟩ hs.1 hs.2 (by unfold cntT at hc; omega)).mono ?_
    rintro e w' ⟨rfl, hu, _⟩
    exact ⟨rfl, Only.of_upd hu fun b o ⟨i, hi, _⟩ => absurd hi (by omega), by rw [hu.size]; exact h.1, fun hp => absurd hp (by omega)⟩
  · obtain ⟨b, o, R, bb, oo, C, e, l, u, hR, hI, _⟩ := h.2 h0
    refine (markInt64SS_any A b o t.length c k R bb oo (fun i => (row t i).length) C w (fun _ => e) hR hs.1 hs.2 (by unfold cntT at hc; omega)).mono ?_
    rintro e' w' ⟨rfl, hu, hm⟩
    have hT : ∀ b' o', Segs bb oo (fun i => (row t i).length) t.length b' o' → lo ≤ b' ∧ b' < hi := fun b' o' ⟨i, hi, hg⟩ => by
      have h1 := hg.1
      have h2 := hI i hi (by have := hg.2.1; have := hg.2.2; dsimp only at this; omega)
      omega
    have hfr : ∀ i, i < t.length → ∀ o', ¬ Seg (bb i) (oo i) (row t i).length b o' := fun i hi o' hg => hR.off i hi (by have := hg.2.1; have := hg.2.2; omega) hg.1.symm
    refine ⟨rfl, Only.of_upd hu hT, by rw [hu.size]; exact h.1, fun _ => ⟨b, o, R, bb, oo, C, e, l, u, ?_, hI, hm⟩⟩
    exact ⟨fun i hi => (hu.cell _ _ (fun ⟨i', hi', hg⟩ => hfr i' hi' _ hg)).trans (hR.outer i hi), hR.addr, fun i hi j hj => ⟨⟨_, hm i hi j hj⟩, (hu.frozen _ _).trans (hR.wr i hi j hj).2⟩, hR.apart, hR.off⟩

theorem heldInt64SS_ex (A : Option Addr) (t : List (List Int)) (c k lo hi : Nat) (w : World) (h : MkT w lo hi A t k) (hs : SmallT t) (hk : k ≤ 4398046511104) :
    Calls Tryz.prog 23 #[.slice A t.length c, .int .i64 (k : Int)] w fun e w' => e = .returned (.int .i64 ((k + cntT t : Nat) : Int)) ∧ Ex w w' := by
  have hc := hs.cnt
  rcases Nat.eq_zero_or_pos t.length with h0 | h0
  · exact (heldInt64SS_any A 0 0 t.length c k (fun _ => none) (fun _ => 0) (fun _ => 0) (fun i => (row t i).length) (fun _ => 0) w (fun hp => absurd hp (by omega)) (fun i hi => absurd hi (by omega)) (fun i hi => absurd hi (by omega)) (fun i hi => absurd hi (by omega)) hs.1 hs.2 (by unfold cntT at hc; omega)).mono fun e w' ⟨h1, h2⟩ => ⟨h1, Ex.of_eq' h2⟩
  · obtain ⟨b, o, R, bb, oo, C, e, l, u, hR, hI, hm⟩ := h.2 h0
    exact (heldInt64SS_any A b o t.length c k R bb oo (fun i => (row t i).length) C w (fun _ => e) hR.outer hR.addr hm hs.1 hs.2 (by unfold cntT at hc; omega)).mono fun e w' ⟨h1, h2⟩ => ⟨h1, Ex.of_eq' h2⟩

theorem szGroup_ex (A : Option Addr) (t : List (List Int)) (c : Nat) (left : Int) (w : World) (hR : RwsW w A t) (hn : t.length ≤ maxLen) (hl : ∀ i, i < t.length → (row t i).length ≤ maxLen) (h0 : 0 ≤ left) (h1 : left ≤ 1048576) :
    Calls Tryz.prog 6 #[.agg #[.slice A t.length c], .int .i64 left] w fun e w' => (∃ r : Int, e = .returned (.int .i64 r) ∧ (r = -1 ∨ (0 ≤ r ∧ r ≤ left ∧ SmallT t))) ∧ Ex w w' := by
  refine (szGroup_any A t c left w hR.rws hn hl h0 h1).mono ?_
  rintro e w' ⟨⟨r, rfl, hr⟩, hw⟩
  refine ⟨⟨r, rfl, ?_⟩, by rw [← hw]; exact Ex.new _ _⟩
  rcases hr with hr | ⟨h2, h3, h4⟩
  · exact .inl hr
  · exact .inr ⟨h2, h3, SmallT.of_le h4 h1⟩

theorem toGroup_ex (A : Option Addr) (t : List (List Int)) (c : Nat) (w : World) (hR : RwsW w A t) (hs : SmallT t) :
    Calls Tryz.prog 9 #[.agg #[.slice A t.length c]] w fun e w' => ∃ A' n', e = .returned (.agg #[.slice A' t.length n']) ∧ Ex w w' ∧ OwnT w' w.heap.size w'.heap.size A' t := by
  refine (toGroup_any A t c w.heap.size w hR.rws (Nat.le_refl _) hs.1 hs.2).mono ?_
  rintro e w' ⟨G, rfl, h1, h2, h3, h4⟩
  exact ⟨_, _, rfl, h2, OwnT.of_fresh h4 h1 h3⟩

theorem eqGroup_ex (A A' : Option Addr) (t : List (List Int)) (c c' : Nat) (w : World) (hx : RwsW w A t) (hy : RwsW w A' t) (hs : SmallT t) :
    Calls Tryz.prog 13 #[.agg #[.slice A t.length c], .agg #[.slice A' t.length c']] w fun e w' => e = .returned (.bool true) ∧ Ex w w' :=
  (eqGroup_any A A' t t c c' _ _ w hx.rws hy.rws (Nat.le_refl _) (Nat.le_refl _) hs.1 hs.1 hs.2 hs.2).mono fun _ _ ⟨h1, h2⟩ => ⟨by rw [h1]; simp, h2⟩

set_option maxHeartbeats 400000 in
theorem markGroup_ex (A : Option Addr) (t : List (List Int)) (c k lo hi : Nat) (w : World) (h : OwnT w lo hi A t) (hs : SmallT t) (hk : k ≤ 4398046511104) (hlo : lo ≤ w.heap.size) :
    Calls Tryz.prog 15 #[.agg #[.slice A t.length c], .int .i64 (k : Int)] w fun e w' => e = .returned (.int .i64 ((k + cntT t : Nat) : Int)) ∧ Only lo hi w w' ∧ MkT w' lo hi A t k := by
  have hE := Ex.new w (.cells #[.slice A t.length c] 32)
  have HM := Lib.hid (markInt64SS_ex A t c k lo hi _ (h.ex hE) hs hk)
  have HO := Lib.hid (Only.of_ex (lo := lo) hE hlo hi)
  clear hE hlo
  go_enter Tryz.func15, Tryz.ntmps15
  go_wp2_with fail
  refine HM.out.mono ?_
  rintro e w2 ⟨rfl, ho, hm⟩
  obtain ⟨r, hr⟩ : ∃ r : Int, ((k + cntT t : Nat) : Int) = r := ⟨_, rfl⟩
  rw [hr]
  have HR := Lib.hid hr
  have HO2 := Lib.hid ho
  have HM2 := Lib.hid hm
  clear hr ho hm
  go_wp2
  go_ret
  exact ⟨by rw [HR.out]; rfl, HO.out.trans HO2.out (Nat.le_refl _) (Nat.le_refl _), HM2.out⟩

/-! Module -/
theorem szModule_ex (A : Option Addr) (m : Int) (xs : List Int) (c : Nat) (left : Int) (w : World) (hn : xs.length ≤ maxLen) (h0 : 0 ≤ left) (h1 : left ≤ 1048576) :
    Calls Tryz.prog 24 #[.agg #[.int .i64 m, .slice A xs.length c], .int .i64 left] w fun e w' => (∃ r : Int, e = .returned (.int .i64 r) ∧ (r = -1 ∨ (0 ≤ r ∧ r ≤ left ∧ xs.length ≤ 1048576))) ∧ Ex w w' := by
  refine (szModule_any A m xs.length c left w hn h0 h1).mono ?_
  rintro e w' ⟨⟨r, rfl, hr⟩, hw⟩
  refine ⟨⟨r, rfl, ?_⟩, by rw [hw]; exact Ex.new _ _⟩
  rcases hr with hr | ⟨h2, h3, h4⟩
  · exact .inl hr
  · exact .inr ⟨h2, h3, by omega⟩

theorem toModule_ex (A : Option Addr) (m : Int) (xs : List Int) (c : Nat) (w : World) (hR : IntsW w A xs) (hn : xs.length ≤ 1048576) :
    Calls Tryz.prog 26 #[.agg #[.int .i64 m, .slice A xs.length c]] w fun e w' => ∃ A' n', e = .returned (.agg #[.int .i64 m, .slice A' xs.length n']) ∧ Ex w w' ∧ OwnL w' w.heap.size w'.heap.size A' xs := by
  refine (toModule_any A m xs c w.heap.size w hR.ints (Nat.le_refl _) hn).mono ?_
  rintro e w' ⟨G, rfl, h1, h2, _, h4⟩
  exact ⟨_, _, rfl, h2, OwnL.of_has h4 rfl h1⟩

theorem eqModule_ex (A A' : Option Addr) (m : Int) (xs : List Int) (c c' : Nat) (w : World) (hx : IntsW w A xs) (hy : IntsW w A' xs) (hn : xs.length ≤ 1048576) :
    Calls Tryz.prog 29 #[.agg #[.int .i64 m, .slice A xs.length c], .agg #[.int .i64 m, .slice A' xs.length c']] w fun e w' => e = .returned (.bool true) ∧ Ex w w' :=
  (eqModule_any A A' m m xs xs c c' _ _ w hx.ints hy.ints (Nat.le_refl _) (Nat.le_refl _) hn hn).mono fun _ _ ⟨h1, h2⟩ => ⟨by rw [h1]; simp, h2⟩

set_option maxHeartbeats 400000 in
theorem markModule_ex (A : Option Addr) (m : Int) (xs : List Int) (c k lo hi : Nat) (w : World) (h : OwnL w lo hi A xs) (hn : xs.length ≤ 1048576) (hk : k ≤ 8796093022208) (hlo : lo ≤ w.heap.size) :
    Calls Tryz.prog 30 #[.agg #[.int .i64 m, .slice A xs.length c], .int .i64 (k : Int)] w fun e w' => e = .returned (.int .i64 ((k + xs.length : Nat) : Int)) ∧ Only lo hi w w' ∧ MkL w' lo hi A xs.length k := by
  have hE := Ex.new w (.cells #[.int .i64 m, .slice A xs.length c] 52)
  have HM := Lib.hid (markInt64S_ex A xs c k lo hi _ (h.ex hE) hn hk)
  have HO := Lib.hid (Only.of_ex (lo := lo) hE hlo hi)
  clear hE hlo
  go_enter Tryz.func30, Tryz.ntmps30
  go_wp2_with fail
  refine HM.out.mono ?_
  rintro e w2 ⟨rfl, ho, hm⟩
  obtain ⟨r, hr⟩ : ∃ r : Int, ((k + xs.length : Nat) : Int) = r := ⟨_, rfl⟩
  rw [hr]
  have HR := Lib.hid hr
  have HO2 := Lib.hid ho
  have HM2 := Lib.hid hm
  clear hr ho hm
  go_wp2
  go_ret
  exact ⟨by rw [HR.out]; rfl, HO.out.trans HO2.out (Nat.le_refl _) (Nat.le_refl _), HM2.out⟩

/-! Cochain -/
theorem szCochain_ex (A : Option Addr) (m : Int) (xs : List Int) (c : Nat) (left : Int) (w : World) (hn : xs.length ≤ maxLen) (h0 : 0 ≤ left) (h1 : left ≤ 1048576) :
    Calls Tryz.prog 7 #[.agg #[.int .i64 m, .slice A xs.length c], .int .i64 left] w fun e w' => (∃ r : Int, e = .returned (.int .i64 r) ∧ (r = -1 ∨ (0 ≤ r ∧ r ≤ left ∧ xs.length ≤ 1048576))) ∧ Ex w w' := by
  refine (szCochain_any A m xs.length c left w hn h0 h1).mono ?_
  rintro e w' ⟨⟨r, rfl, hr⟩, hw⟩
  refine ⟨⟨r, rfl, ?_⟩, by rw [hw]; exact Ex.new _ _⟩
  rcases hr with hr | ⟨h2, h3, h4⟩
  · exact .inl hr
  · exact .inr ⟨h2, h3, by omega⟩

theorem toCochain_ex (A : Option Addr) (m : Int) (xs : List Int) (c : Nat) (w : World) (hR : IntsW w A xs) (hn : xs.length ≤ 1048576) :
    Calls Tryz.prog 10 #[.agg #[.int .i64 m, .slice A xs.length c]] w fun e w' => ∃ A' n', e = .returned (.agg #[.int .i64 m, .slice A' xs.length n']) ∧ Ex w w' ∧ OwnL w' w.heap.size w'.heap.size A' xs := by
  refine (toCochain_any A m xs c w.heap.size w hR.ints (Nat.le_refl _) hn).mono ?_
  rintro e w' ⟨G, rfl, h1, h2, _, h4⟩
  exact ⟨_, _, rfl, h2, OwnL.of_has h4 rfl h1⟩

theorem eqCochain_ex (A A' : Option Addr) (m : Int) (xs : List Int) (c c' : Nat) (w : World) (hx : IntsW w A xs) (hy : IntsW w A' xs) (hn : xs.length ≤ 1048576) :
    Calls Tryz.prog 14 #[.agg #[.int .i64 m, .slice A xs.length c], .agg #[.int .i64 m, .slice A' xs.length c']] w fun e w' => e = .returned (.bool true) ∧ Ex w w' :=
  (eqCochain_any A A' m m xs xs c c' _ _ w hx.ints hy.ints (Nat.le_refl _) (Nat.le_refl _) hn hn).mono fun _ _ ⟨h1, h2⟩ => ⟨by rw [h1]; simp, h2⟩

set_option maxHeartbeats 400000 in
theorem markCochain_ex (A : Option Addr) (m : Int) (xs : List Int) (c k lo hi : Nat) (w : World) (h : OwnL w lo hi A xs) (hn : xs.length ≤ 1048576) (hk : k ≤ 8796093022208) (hlo : lo ≤ w.heap.size) :
    Calls Tryz.prog 16 #[.agg #[.int .i64 m, .slice A xs.length c], .int .i64 (k : Int)] w fun e w' => e = .returned (.int .i64 ((k + xs.length : Nat) : Int)) ∧ Only lo hi w w' ∧ MkL w' lo hi A xs.length k := by
  have hE := Ex.new w (.cells #[.int .i64 m, .slice A xs.length c] 34)
  have HM := Lib.hid (markInt64S_ex A xs c k lo hi _ (h.ex hE) hn hk)
  have HO := Lib.hid (Only.of_ex (lo := lo) hE hlo hi)
  clear hE hlo
  go_enter Tryz.func16, Tryz.ntmps16
  go_wp2_with fail
  refine HM.out.mono ?_
  rintro e w2 ⟨rfl, ho, hm⟩
  obtain ⟨r, hr⟩ : ∃ r : Int, ((k + xs.length : Nat) : Int) = r := ⟨_, rfl⟩
  rw [hr]
  have HR := Lib.hid hr
  have HO2 := Lib.hid ho
  have HM2 := Lib.hid hm
  clear hr ho hm
  go_wp2
  go_ret
  exact ⟨by rw [HR.out]; rfl, HO.out.trans HO2.out (Nat.le_refl _) (Nat.le_refl _), HM2.out⟩

set_option maxHeartbeats 400000 in
theorem heldCochain_ex (A : Option Addr) (m : Int) (n c k lo hi : Nat) (w : World) (h : MkL w lo hi A n k) (hn : n ≤ 1048576) (hk : k ≤ 8796093022208) :
    Calls Tryz.prog 31 #[.agg #[.int .i64 m, .slice A n c], .int .i64 (k : Int)] w fun e w' => e = .returned (.int .i64 ((k + n : Nat) : Int)) ∧ Ex w w' := by
  have hE := Ex.new w (.cells #[.int .i64 m, .slice A n c] 34)
  have HM := Lib.hid (heldInt64S_ex A n c k lo hi _ (h.ex hE) hn hk)
  have HE := Lib.hid hE
  clear hE
  obtain ⟨r, hr⟩ : ∃ r : Int, ((k + n : Nat) : Int) = r := ⟨_, rfl⟩
  have hneg : decide (r < 0) = false := by simp; omega
  rw [hr] at HM ⊢
  clear hr
  go_enter Tryz.func31, Tryz.ntmps31
  go_wp2_with fail
  refine HM.out.mono ?_
  rintro e w2 ⟨rfl, he⟩
  go_wp2
  go_ret
  exact ⟨rfl, HE.out.trans he⟩
end

end Go.Proofs.YtcdijeeabgmgmaaGreatDoor
