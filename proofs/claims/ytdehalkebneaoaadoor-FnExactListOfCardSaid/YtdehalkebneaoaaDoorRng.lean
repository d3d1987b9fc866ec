/- A range over a function, in the form in which this program's loops want it: the round's frame need not be typed. -/
import Derived.RangeFuncNested
import Derived.RangeFuncBound
import Derived.RangeFuncCalls
import Derived.RangeFuncLeaves
import Derived.Sort.BigQuietIn
import Derived.Deep.RegionHeld3
import Derived.Test.YtdehalkebneaoaaDoorMem
namespace Go.Proofs.YtdehalkebneaoaaDoor
open Go.RowKit

/-- Below n₀ nothing has turned, and whatever is no cells lies as it lay. -/
def Keeps (n₀ : Nat) (W W' : World) : Prop := Below n₀ W W' ∧ KeepsFrom 0 W W'

section
variable {n₀ : Nat} {W W' W'' : World}
theorem Keeps.refl (n₀ : Nat) (W : World) : Keeps n₀ W W := ⟨Below.refl _ _, KeepsFrom.refl _ _⟩
theorem Keeps.trans (h : Keeps n₀ W W') (k : Keeps n₀ W' W'') : Keeps n₀ W W'' := ⟨h.1.trans k.1, h.2.trans k.2⟩
theorem Keeps.alloc (h : Keeps n₀ W W') (hn : n₀ ≤ W'.heap.size) (o : Obj) : Keeps n₀ W (W'.alloc o) := ⟨h.1.alloc hn o, h.2.trans ((KeepsOthers.alloc _ _).from 0)⟩
theorem Keeps.setCell (h : Keeps n₀ W W') {p : Addr} (hn : n₀ ≤ p.block) (v : Value) : Keeps n₀ W (W'.setCell p v) := ⟨h.1.setCell hn v, h.2.trans ((KeepsOthers.setCell _ _ _).from 0)⟩
theorem Keeps.of_below (h : Below W.heap.size W W') (hn : n₀ ≤ W.heap.size) : Keeps n₀ W W' :=
  ⟨h.mono hn, ⟨h.size, fun k _ _ hk _ => (h.block k (Array.getElem?_eq_some_iff.1 hk).1).trans hk⟩⟩
theorem Keeps.drewN (h : Keeps n₀ W W') (m : Nat) : Keeps n₀ W (W'.drewN m) := ⟨below_drewN h.1 m, ⟨h.2.size, h.2.same⟩⟩
theorem Keeps.size (h : Keeps n₀ W W') : W.heap.size ≤ W'.heap.size := h.1.size
theorem KeepsFrom.mono {B B' : Nat} (h : KeepsFrom B W W') (hB : B ≤ B') : KeepsFrom B' W W' := ⟨h.size, fun k o hk => h.same k o (by omega)⟩
theorem ownFrom_keeps {β : Type} {B : Nat} (hn : n₀ ≤ W.heap.size) (hB : W.heap.size ≤ B) : OwnFrom B (fun (_ : β) W' => Keeps n₀ W W') :=
  OwnFrom.and (ownFrom_below hn (by omega)) (ownFrom_keepsFrom hB)
end

/-- How a round may be left. -/
def RPost {α : Type} (n₀ : Nat) (I : List α → World → Prop) (Ix : Code → List α → World → Prop) (xs : List α) (W : World) : Exit → Act → World → Prop
  | .normal, _, W' => Keeps n₀ W W' ∧ I xs W'
  | .ret, _, W' => Keeps n₀ W W' ∧ Ix .ret xs W'
  | .exit id, _, W' => Keeps n₀ W W' ∧ Ix (.exit id) xs W'
  | .goto t, _, W' => Keeps n₀ W W' ∧ Ix (.goto t) xs W'
  | .panic _, _, _ => False
  | .outgrown, _, _ => False

theorem ownPostG_of_RPost {α : Type} {n₀ : Nat} {I : List α → World → Prop} {Ix : Code → List α → World → Prop} {xs : List α} {w W : World} (hw : Keeps n₀ w W) :
    ∀ (e : Exit) (a : Act) (W' : World), RPost n₀ I Ix xs W e a W' → ownPostG w.heap.size (Below n₀) (fun pre W => I pre W ∧ Keeps n₀ w W) (fun c pre W => Ix c pre W ∧ Keeps n₀ w W) xs W e a W'
  | .normal, _, _, h => ⟨KeepsFrom.mono h.1.2 (Nat.zero_le _), h.1.1, h.2, hw.trans h.1⟩
  | .ret, _, _, h => ⟨KeepsFrom.mono h.1.2 (Nat.zero_le _), h.2, hw.trans h.1⟩
  | .exit _, _, _, h => ⟨KeepsFrom.mono h.1.2 (Nat.zero_le _), h.2, hw.trans h.1⟩
  | .goto _, _, _, h => ⟨KeepsFrom.mono h.1.2 (Nat.zero_le _), h.2, hw.trans h.1⟩
  | .panic _, _, _, h => h
  | .outgrown, _, _, h => h

section
variable {P : Program} {α : Type} {g : Operand} {ps : Array Tmp} {assign body : Code} {Q : Exit → Act → World → Prop} {a : Act} {w : World} {n n₀ gf N : Nat} {lb : Array Value} {encs : α → Array Value} {S Sp : List α → Prop}

/-- A loop of the function's own; the loop's variable lies in a temporary. -/
theorem range_top (h1 : 1 ≤ n) (hg : a.eval g = .func (.func gf) #[] lb) (eg : ∀ args w, (callFunc gf args).run P w = .ok (.enter gf args) w)
    (hseq : SeqStopsK Fence.wide (n - 1) P gf lb encs (Below n₀) S Sp N w) (hn : n₀ ≤ w.heap.size) (hps : ∀ x, (encs x).size = ps.size)
    (I : List α → World → Prop) (Ix : Code → List α → World → Prop) (hI : OwnFrom w.heap.size I) (hIx : ∀ c, OwnFrom w.heap.size (Ix c)) (h0 : I [] w)
    (hround : ∀ (l : Nat) (x : α) (W : World) (K : Act → World → Prop), (∀ a', (∀ (l : Nat) (pre : List α) (W : World), (∃ r, W.heap[l]? = some (.loop r)) → I pre W → Keeps n₀ w W → pre.length < N → body.wpIn (Fence.wide.inRound l) (n - 1 - 1) P (RPost n₀ I Ix (pre ++ [x]) W) a' W) → K a' W) →
      assign.wpIn (Fence.wide.inRound l) (n - 1 - 1) P (Exit.then K (fun _ _ _ => False)) { tmps := (ps.zip (encs x)).foldl (fun t (p, v) => t.setIfInBounds p v) a.tmps, defers := [] } W)
    (hdone : ∀ (D : Nat) (xs : List α) (W : World), w.heap.size ≤ D → S xs → I xs W → Keeps n₀ w W → W.heap[D]? = some (.deferred (some [])) → Q .normal { a with defers := { target := .collected D, args := #[] } :: a.defers } W)
    (hstop : ∀ (D : Nat) (c : Code) (pre : List α) (W : World), w.heap.size ≤ D → Sp pre → Ix c pre W → Keeps n₀ w W → W.heap[D]? = some (.deferred (some [])) → c.wpIn Fence.wide n P Q { a with defers := { target := .collected D, args := #[] } :: a.defers } W) :
    (Code.rangeFunc g ps assign body).wpIn Fence.wide n P Q a w :=
  wpIn_rangeFunc_ownH rfl h1 hg trivial eg hseq (fun h k => belowK_t h k) (belowK_b hn) (Below.refl _ _) hps (fun pre W => I pre W ∧ Keeps n₀ w W) (fun c pre W => Ix c pre W ∧ Keeps n₀ w W)
    (OwnFrom.and hI (ownFrom_keeps hn (Nat.le_refl _))) (fun c => OwnFrom.and (hIx c) (ownFrom_keeps hn (Nat.le_refl _))) ⟨h0, Keeps.refl _ _⟩
    (fun x a' _ => ∀ (l : Nat) (pre : List α) (W : World), (∃ r, W.heap[l]? = some (.loop r)) → I pre W → Keeps n₀ w W → pre.length < N → body.wpIn (Fence.wide.inRound l) (n - 1 - 1) P (RPost n₀ I Ix (pre ++ [x]) W) a' W)
    (fun _ _ _ _ _ _ hs _ _ => hs)
    (fun l _ x W K hi hK => hround l x W K fun a' ha => hK a' W (KeepsFrom.refl _ _) (Below.refl _ _) hi ha)
    (fun l pre _ _ W _ hr hi hax hlt => wpIn_mono (hax l pre W hr hi.1 hi.2 hlt) (ownPostG_of_RPost hi.2))
    (fun D xs W hD hS hi hK => hdone D xs W hD hS hi.1 hi.2 hK)
    (fun D c pre W hD hS hi hK => hstop D c pre W hD hS hi.1 hi.2 hK)

/-- A loop of the function's own; the loop's variable is boxed. -/
theorem range_topB (h1 : 1 ≤ n) (hg : a.eval g = .func (.func gf) #[] lb) (eg : ∀ args w, (callFunc gf args).run P w = .ok (.enter gf args) w)
    (hseq : SeqStopsK Fence.wide (n - 1) P gf lb encs (Below n₀) S Sp N w) (hn : n₀ ≤ w.heap.size) (hps : ∀ x, (encs x).size = ps.size) (tx : TypeId) (vx : α → Value)
    (I : List α → World → Prop) (Ix : Code → List α → World → Prop) (hI : OwnFrom w.heap.size I) (hIx : ∀ c, OwnFrom w.heap.size (Ix c)) (h0 : I [] w)
    (hround : ∀ (l : Nat) (x : α) (W : World) (K : Act → World → Prop), (∀ a', (∀ (l Bx : Nat) (pre : List α) (W' : World), W.heap.size = Bx → w.heap.size ≤ Bx → (∃ r, W'.heap[l]? = some (.loop r)) → I pre W' → Keeps n₀ w W' → Boxed W' Bx tx (vx x) → pre.length < N → body.wpIn (Fence.wide.inRound l) (n - 1 - 1) P (RPost n₀ I Ix (pre ++ [x]) W') a' W') → K a' (W.alloc (.cells #[vx x] tx))) →
      assign.wpIn (Fence.wide.inRound l) (n - 1 - 1) P (Exit.then K (fun _ _ _ => False)) { tmps := (ps.zip (encs x)).foldl (fun t (p, v) => t.setIfInBounds p v) a.tmps, defers := [] } W)
    (hdone : ∀ (D : Nat) (xs : List α) (W : World), w.heap.size ≤ D → S xs → I xs W → Keeps n₀ w W → W.heap[D]? = some (.deferred (some [])) → Q .normal { a with defers := { target := .collected D, args := #[] } :: a.defers } W)
    (hstop : ∀ (D : Nat) (c : Code) (pre : List α) (W : World), w.heap.size ≤ D → Sp pre → Ix c pre W → Keeps n₀ w W → W.heap[D]? = some (.deferred (some [])) → c.wpIn Fence.wide n P Q { a with defers := { target := .collected D, args := #[] } :: a.defers } W) :
    (Code.rangeFunc g ps assign body).wpIn Fence.wide n P Q a w :=
  wpIn_rangeFunc_ownH rfl h1 hg trivial eg hseq (fun h k => belowK_t h k) (belowK_b hn) (Below.refl _ _) hps (fun pre W => I pre W ∧ Keeps n₀ w W) (fun c pre W => Ix c pre W ∧ Keeps n₀ w W)
    (OwnFrom.and hI (ownFrom_keeps hn (Nat.le_refl _))) (fun c => OwnFrom.and (hIx c) (ownFrom_keeps hn (Nat.le_refl _))) ⟨h0, Keeps.refl _ _⟩
    (fun x a' W => ∃ Bx, w.heap.size ≤ Bx ∧ Boxed W Bx tx (vx x) ∧ ∀ (l : Nat) (pre : List α) (W' : World), (∃ r, W'.heap[l]? = some (.loop r)) → I pre W' → Keeps n₀ w W' → Boxed W' Bx tx (vx x) → pre.length < N → body.wpIn (Fence.wide.inRound l) (n - 1 - 1) P (RPost n₀ I Ix (pre ++ [x]) W') a' W')
    (fun x a' _ X Y row hs hg hr => by
      obtain ⟨Bx, e1, e2, e3⟩ := hs
      exact ⟨Bx, e1, boxed_own Bx tx (fun (_ : Unit) => vx x) () X Y row e2 hg (fun r e => (hr r e).2), e3⟩)
    (fun l pre x W K hi hK => hround l x W K fun a' ha => hK a' _ ((KeepsOthers.alloc _ _).from _) ((Below.refl _ W).alloc (Nat.le_trans hn hi.2.size) _)
      ⟨hI.alloc _ hi.1, hi.2.alloc (Nat.le_trans hn hi.2.size) _⟩ ⟨W.heap.size, hi.2.size, Boxed.new W tx (vx x), fun l pre W' => ha l W.heap.size pre W' rfl hi.2.size⟩)
    (fun l pre _ _ W _ hr hi hax hlt => by
      obtain ⟨Bx, e1, e2, e3⟩ := hax
      exact wpIn_mono (e3 l pre W hr hi.1 hi.2 e2 hlt) (ownPostG_of_RPost hi.2))
    (fun D xs W hD hS hi hK => hdone D xs W hD hS hi.1 hi.2 hK)
    (fun D c pre W hD hS hi hK => hstop D c pre W hD hS hi.1 hi.2 hK)

/-- A loop in a round of another; the loop's variable lies in a temporary. -/
theorem range_in {l₀ : Nat} (h1 : 1 ≤ n) (hl₀ : ∃ r₀, w.heap[l₀]? = some (.loop r₀)) (hg : a.eval g = .func (.func gf) #[] lb) (eg : ∀ args w, (callFunc gf args).run P w = .ok (.enter gf args) w)
    (hseq : SeqStopsK Fence.wide (n - 1) P gf lb encs (Below n₀) S Sp N w) (hn : n₀ ≤ w.heap.size) (hps : ∀ x, (encs x).size = ps.size)
    (I : List α → World → Prop) (Ix : Code → List α → World → Prop) (hI : OwnFrom w.heap.size I) (hIx : ∀ c, OwnFrom w.heap.size (Ix c)) (h0 : I [] w)
    (hround : ∀ (l : Nat) (x : α) (W : World) (K : Act → World → Prop), (∀ a', (∀ (l : Nat) (pre : List α) (W : World), (∃ r, W.heap[l]? = some (.loop r)) → I pre W → Keeps n₀ w W → pre.length < N → body.wpIn (Fence.wide.inRound l) (n - 1 - 1) P (RPost n₀ I Ix (pre ++ [x]) W) a' W) → K a' W) →
      assign.wpIn (Fence.wide.inRound l) (n - 1 - 1) P (Exit.then K (fun _ _ _ => False)) { tmps := (ps.zip (encs x)).foldl (fun t (p, v) => t.setIfInBounds p v) a.tmps, defers := [] } W)
    (hdone : ∀ (xs : List α) (W : World), S xs → I xs W → Keeps n₀ w W → Q .normal a W)
    (hstop : ∀ (c : Code) (pre : List α) (W : World), Sp pre → Ix c pre W → Keeps n₀ w W → c.wpIn (Fence.wide.inRound l₀) n P Q a W) :
    (Code.rangeFunc g ps assign body).wpIn (Fence.wide.inRound l₀) n P Q a w := by
  obtain ⟨r₀, hr₀⟩ := hl₀
  exact wpIn_rangeFunc_ownN (l₀ := l₀) (r₀ := r₀) rfl hr₀ h1 hg trivial eg (hseq.inRound l₀) (fun h k => belowK_t h k) (belowK_b hn) (Below.refl _ _) hps (fun pre W => I pre W ∧ Keeps n₀ w W) (fun c pre W => Ix c pre W ∧ Keeps n₀ w W)
    (OwnFrom.and hI (ownFrom_keeps hn (Nat.le_refl _))) (fun c => OwnFrom.and (hIx c) (ownFrom_keeps hn (Nat.le_refl _))) ⟨h0, Keeps.refl _ _⟩
    (fun x a' _ => ∀ (l : Nat) (pre : List α) (W : World), (∃ r, W.heap[l]? = some (.loop r)) → I pre W → Keeps n₀ w W → pre.length < N → body.wpIn (Fence.wide.inRound l) (n - 1 - 1) P (RPost n₀ I Ix (pre ++ [x]) W) a' W)
    (fun _ _ _ _ _ _ hs _ _ => hs)
    (fun l _ x W K hi hK => hround l x W K fun a' ha => hK a' W (KeepsFrom.refl _ _) (Below.refl _ _) hi ha)
    (fun l pre _ _ W _ hr hi hax hlt => wpIn_mono (hax l pre W hr hi.1 hi.2 hlt) (ownPostG_of_RPost hi.2))
    (fun xs W hS hi => hdone xs W hS hi.1 hi.2)
    (fun c pre W hS hi => hstop c pre W hS hi.1 hi.2)

/-- A loop in a round of another; the loop's variable is boxed. -/
theorem range_inB {l₀ : Nat} (h1 : 1 ≤ n) (hl₀ : ∃ r₀, w.heap[l₀]? = some (.loop r₀)) (hg : a.eval g = .func (.func gf) #[] lb) (eg : ∀ args w, (callFunc gf args).run P w = .ok (.enter gf args) w)
    (hseq : SeqStopsK Fence.wide (n - 1) P gf lb encs (Below n₀) S Sp N w) (hn : n₀ ≤ w.heap.size) (hps : ∀ x, (encs x).size = ps.size) (tx : TypeId) (vx : α → Value)
    (I : List α → World → Prop) (Ix : Code → List α → World → Prop) (hI : OwnFrom w.heap.size I) (hIx : ∀ c, OwnFrom w.heap.size (Ix c)) (h0 : I [] w)
    (hround : ∀ (l : Nat) (x : α) (W : World) (K : Act → World → Prop), (∀ a', (∀ (l Bx : Nat) (pre : List α) (W' : World), W.heap.size = Bx → w.heap.size ≤ Bx → (∃ r, W'.heap[l]? = some (.loop r)) → I pre W' → Keeps n₀ w W' → Boxed W' Bx tx (vx x) → pre.length < N → body.wpIn (Fence.wide.inRound l) (n - 1 - 1) P (RPost n₀ I Ix (pre ++ [x]) W') a' W') → K a' (W.alloc (.cells #[vx x] tx))) →
      assign.wpIn (Fence.wide.inRound l) (n - 1 - 1) P (Exit.then K (fun _ _ _ => False)) { tmps := (ps.zip (encs x)).foldl (fun t (p, v) => t.setIfInBounds p v) a.tmps, defers := [] } W)
    (hdone : ∀ (xs : List α) (W : World), S xs → I xs W → Keeps n₀ w W → Q .normal a W)
    (hstop : ∀ (c : Code) (pre : List α) (W : World), Sp pre → Ix c pre W → Keeps n₀ w W → c.wpIn (Fence.wide.inRound l₀) n P Q a W) :
    (Code.rangeFunc g ps assign body).wpIn (Fence.wide.inRound l₀) n P Q a w := by
  obtain ⟨r₀, hr₀⟩ := hl₀
  exact wpIn_rangeFunc_ownN (l₀ := l₀) (r₀ := r₀) rfl hr₀ h1 hg trivial eg (hseq.inRound l₀) (fun h k => belowK_t h k) (belowK_b hn) (Below.refl _ _) hps (fun pre W => I pre W ∧ Keeps n₀ w W) (fun c pre W => Ix c pre W ∧ Keeps n₀ w W)
    (OwnFrom.and hI (ownFrom_keeps hn (Nat.le_refl _))) (fun c => OwnFrom.and (hIx c) (ownFrom_keeps hn (Nat.le_refl _))) ⟨h0, Keeps.refl _ _⟩
    (fun x a' W => ∃ Bx, w.heap.size ≤ Bx ∧ Boxed W Bx tx (vx x) ∧ ∀ (l : Nat) (pre : List α) (W' : World), (∃ r, W'.heap[l]? = some (.loop r)) → I pre W' → Keeps n₀ w W' → Boxed W' Bx tx (vx x) → pre.length < N → body.wpIn (Fence.wide.inRound l) (n - 1 - 1) P (RPost n₀ I Ix (pre ++ [x]) W') a' W')
    (fun x a' _ X Y row hs hg hr => by
      obtain ⟨Bx, e1, e2, e3⟩ := hs
      exact ⟨Bx, e1, boxed_own Bx tx (fun (_ : Unit) => vx x) () X Y row e2 hg (fun r e => (hr r e).2), e3⟩)
    (fun l pre x W K hi hK => hround l x W K fun a' ha => hK a' _ ((KeepsOthers.alloc _ _).from _) ((Below.refl _ W).alloc (Nat.le_trans hn hi.2.size) _)
      ⟨hI.alloc _ hi.1, hi.2.alloc (Nat.le_trans hn hi.2.size) _⟩ ⟨W.heap.size, hi.2.size, Boxed.new W tx (vx x), fun l pre W' => ha l W.heap.size pre W' rfl hi.2.size⟩)
    (fun l pre _ _ W _ hr hi hax hlt => by
      obtain ⟨Bx, e1, e2, e3⟩ := hax
      exact wpIn_mono (e3 l pre W hr hi.1 hi.2 e2 hlt) (ownPostG_of_RPost hi.2))
    (fun xs W hS hi => hdone xs W hS hi.1 hi.2)
    (fun c pre W hS hi => hstop c pre W hS hi.1 hi.2)
end

/-! ### A region that draws its order, in a round -/

/-- No operation of the list is a defer statement. -/
def plainOps (l : List Oper) : Bool := l.all fun o => match o.op with | .defer _ => false | _ => true

theorem plainOps_spec {l : List Oper} (h : plainOps l = true) {i : Nat} {o : Oper} (ho : l.toArray[i]? = some o) (c : Call) : o.op ≠ .defer c := by
  intro e
  have hm : o ∈ l := by
    have := List.mem_of_getElem? (l := l) (i := i) (by simpa using ho)
    exact this
  have := List.all_eq_true.1 h o hm
  rw [e] at this
  cases this

section
variable {F : Fence} {n r : Nat} {P : Program} {md : Region.Mode} {Q : Exit → Act → World → Prop}

theorem wpAnyIn_round {l : List Oper} (hp : plainOps l = true) (hro : F.round = none) : ∀ (fuel : Nat) (listed : Array Bool) (a : Act) (w : World),
    wpAnyIn F n P md l.toArray Q fuel listed a w → wpAnyIn (F.inRound r) n P md l.toArray Q fuel listed a w := by
  intro fuel
  induction fuel with
  | zero => exact fun _ _ _ h => h
  | succ fuel ih =>
    intro listed a w h
    refine ⟨h.1, fun i hi => ?_⟩
    have h1 := h.2 i hi
    unfold wpOpIn at h1 ⊢
    split
    · rename_i ho
      simp only [ho] at h1
      exact ih _ _ _ h1
    · rename_i o ho
      simp only [ho] at h1
      split
      · rename_i hw
        simp only [hw, if_true] at h1
        have h2 := Oper.wpIn_mono (K' := wpAnyIn (F.inRound r) n P md l.toArray Q fuel (listed.setIfInBounds i true)) (fun a w => ih _ a w) h1
        unfold Oper.wpIn at h2 ⊢
        refine ⟨h2.1, ?_⟩
        have h3 := h2.2
        rw [hro, Oper.semAt_none] at h3
        rw [Fence.inRound_round, Oper.semAt_eq _ _ _ (plainOps_spec hp ho)]
        exact h3
      · rename_i hw
        simp only [hw] at h1
        exact ⟨h1.1, ih _ _ _ h1.2⟩

/-- ONE WALK OF THE TEXT'S ORDER SERVES EVERY ORDER, IN A ROUND. -/
theorem region_quiet_round {id : Nat} {a : Act} {w : World} {l : List Oper} (hm : P.follows .mixedOrders = true) (hB : Region.lexB .any l.toArray = true) (hp : plainOps l = true)
    (h : wpQuietIn Fence.wide n P l.toArray (fun w' => ∃ n, w' = w.drewN n) (fun a' => ∀ w', (∃ n, w' = w.drewN n) → Q .normal a' w') l a) : (Code.region id l.toArray true).wpIn (Fence.wide.inRound r) n P Q a w := by
  simp only [Region.lexB, Bool.and_eq_true] at hB
  refine wpIn_region_any hm (wpAnyIn_round hp rfl _ _ _ _ (wpAnyIn_of_quiet (C := fun w' => ∃ n, w' = w.drewN n) (Q := fun a' => ∀ w', (∃ n, w' = w.drewN n) → Q .normal a' w') rfl (fun _ w' hw' h => h w' hw') _ _ _ _ ⟨1, rfl⟩ ?_))
  have := wpAnyQIn_lex (F := Fence.wide) (n := n) (C := fun w' => ∃ n, w' = w.drewN n) (md := .any) hB.1 l 0 (Array.replicate l.toArray.size false) a (by simp) (by simpa using hB.2) h
  simpa using this
end

section
variable {n r : Nat} {P : Program} {md : Region.Mode} {Q : Exit → Act → World → Prop}

theorem wpIn_of_wp {o : Oper} {a : Act} {w : World} {K : Act → World → Prop} (h : o.wp P a w K Q) : o.wpIn Fence.wide n P a w K Q := by
  refine ⟨fun _ _ => trivial, ?_⟩
  have h1 : o.upon P a K Q ((execOp a.eval o).run P w) := h
  show o.uponIn Fence.wide n P a K Q ((o.semAt none a.eval).run P w)
  rw [Oper.semAt_none]
  cases hr : (execOp a.eval o).run P w with
  | ok x w' =>
    rw [hr] at h1
    cases x with
    | value v => exact h1
    | skip => exact h1
    | defer d => exact h1
    | enter f args => exact ⟨fun h => by simp [Fence.wide] at h, callsIn_wide.2 h1⟩
    | row row args => exact ⟨fun h => by simp [Fence.wide] at h, fun c cs _ => let ⟨v, w'', g, st⟩ := h1 c cs; ⟨v, w'', g, stepsIn_wide.2 st⟩⟩
    | round l f tmps assign body => exact h1.elim
    | _ => exact h1.elim
  | halt x w' =>
    rw [hr] at h1
    cases x with
    | panic v => exact h1
    | _ => exact h1.elim

theorem wpAnyIn_of_wpAny {l : List Oper} (hQ : ¬ LetsOut Q) : ∀ (fuel : Nat) (listed : Array Bool) (a : Act) (w : World),
    wpAny P md l.toArray Q fuel listed a w → wpAnyIn Fence.wide n P md l.toArray Q fuel listed a w := by
  intro fuel
  induction fuel with
  | zero => exact fun _ _ _ h => h
  | succ fuel ih =>
    intro listed a w h
    refine ⟨h.1, fun i hi => ?_⟩
    have h1 := h.2 i hi
    unfold wpOp at h1
    unfold wpOpIn
    split
    · rename_i ho
      simp only [ho] at h1
      exact ih _ _ _ h1
    · rename_i o ho
      simp only [ho] at h1
      split
      · rename_i hw
        simp only [hw, if_true] at h1
        rcases h1 with h1 | h1
        · exact Oper.wpIn_mono (fun a w => ih _ a w) (wpIn_of_wp h1)
        · exact absurd h1.2 hQ
      · rename_i hw
        simp only [hw] at h1
        exact ⟨fun _ _ => trivial, ih _ _ _ h1⟩

/-- A region that draws its order, in a round, by the base's moves ('wpAnyH_take', 'wpAnyH_all', 'wpAnyH_done'). -/
theorem region_held_round {id : Nat} {a : Act} {w : World} {l : List Oper} {S : World → Prop} (hm : P.follows .mixedOrders = true) (hp : plainOps l = true) (hQ : ¬ LetsOut Q)
    (h : wpAnyH P .any l.toArray Q S l.length (Array.replicate l.length false) a w.drew) : (Code.region id l.toArray true).wpIn (Fence.wide.inRound r) n P Q a w := by
  have h1 := wpAny_of_held _ _ _ _ h
  have h2 := wpAnyIn_round (r := r) hp rfl _ _ _ _ (wpAnyIn_of_wpAny (n := n) hQ _ _ _ _ h1)
  refine wpIn_region_any hm ?_
  simpa using h2
end

end Go.Proofs.YtdehalkebneaoaaDoor
