/- La Bk Lj Lf Cw in one text. -/
import Derived.IntWalk
import Derived.Deep.RegionHeld3
import Derived.Deep.DeepCutAuto
import Derived.Deep.DeepAppendRoom
import Derived.Test.YtenenlpfpkdplaaCel
import Derived.Test.YtenenlpfpkdplaaBa
/- Lists of numbers of values: the specification's side. -/
namespace Go.Proofs.Ytenenlpfpkdplaa
open Go.RowKit

/-- The element at the place p of the list of n elements with the number i. -/
def dN (N n i p : Nat) : Nat := i / (N - 1) ^ (n - 1 - p) % (N - 1) + 1
def lsL (N n i : Nat) : List Int := (List.range n).map fun p => (dN N n i p : Int)
theorem lsL_len (N n i : Nat) : (lsL N n i).length = n := by simp [lsL]
theorem nth_lsL {N n i p : Nat} (h : p < n) : nth (lsL N n i) p = (dN N n i p : Int) := by simp [nth, lsL, h]
/-- The list, the last j places being laid. -/
def stF (N n i j p : Nat) : Int := if n - j ≤ p then (dN N n i p : Int) else 0
theorem stF_zero {N n i p : Nat} (h : p < n) : stF N n i 0 p = 0 := by
  unfold stF
  rw [if_neg (by omega)]
theorem stF_all {N n i p : Nat} : stF N n i n p = (dN N n i p : Int) := by
  unfold stF
  rw [if_pos (by omega)]
theorem stF_step {N n i j p : Nat} (hj : j < n) : (if p = n - 1 - j then (dN N n i (n - 1 - j) : Int) else stF N n i j p) = stF N n i (j + 1) p := by
  unfold stF
  by_cases h : p = n - 1 - j
  · subst h
    rw [if_pos rfl, if_pos (by omega)]
  · rw [if_neg h]
    by_cases h2 : n - j ≤ p
    · rw [if_pos h2, if_pos (by omega)]
    · rw [if_neg h2, if_neg (by omega)]

end Go.Proofs.Ytenenlpfpkdplaa

/- Ranges over a list backwards: the iterator's contract. -/
namespace Go.Proofs.Ytenenlpfpkdplaa
open Go.RowKit Go.Shelf

/-- How a round may be left. -/
def RPostR {α : Type} (R : World → World → Prop) (n₀ : Nat) (I : List α → World → Prop) (xs : List α) (W : World) : Exit → Act → World → Prop
  | .normal, _, W' => Keeps n₀ W W' ∧ R W W' ∧ I xs W'
  | .ret, _, _ => False
  | .exit _, _, _ => False
  | .goto _, _, _ => False
  | .panic _, _, _ => False
  | .outgrown, _, _ => False

theorem ownPostG_of_RPostR {α : Type} {R : World → World → Prop} {n₀ : Nat} {I : List α → World → Prop} {xs : List α} {w W : World} (hw : Keeps n₀ w W) :
    ∀ (e : Exit) (a : Act) (W' : World), RPostR R n₀ I xs W e a W' → ownPostG w.heap.size (fun A B => Below n₀ A B ∧ R A B) (fun pre W => I pre W ∧ Keeps n₀ w W) (fun _ _ _ => False) xs W e a W'
  | .normal, _, _, h => ⟨KeepsFrom.mono h.1.2 (Nat.zero_le _), ⟨h.1.1, h.2.1⟩, h.2.2, hw.trans h.1⟩
  | .ret, _, _, h => h.elim
  | .exit _, _, _, h => h.elim
  | .goto _, _, _, h => h.elim
  | .panic _, _, _, h => h
  | .outgrown, _, _, h => h

section
variable {P : Program} {α : Type} {g : Operand} {ps : Array Tmp} {assign body : Code} {Q : Exit → Act → World → Prop} {a : Act} {w : World} {n n₀ gf N : Nat} {lb : Array Value} {encs : α → Array Value} {S Sp : List α → Prop} {R : World → World → Prop}

/-- A loop of the function's own that runs to its end; the loop's variable lies in a temporary. -/
theorem range_topR (hRt : ∀ {A B C : World}, R A B → R B C → R A C) (hRr : ∀ W : World, R W W) (hRb : ∀ (W : World) (l : Nat) (o o' : Obj), W.heap[l]? = some o → o.isCells = false → R W (W.putObj l o'))
    (h1 : 1 ≤ n) (hg : a.eval g = .func (.func gf) #[] lb) (eg : ∀ args w, (callFunc gf args).run P w = .ok (.enter gf args) w)
    (hseq : SeqStopsK Fence.wide (n - 1) P gf lb encs (fun A B => Below n₀ A B ∧ R A B) S Sp N w) (hn : n₀ ≤ w.heap.size) (hps : ∀ x, (encs x).size = ps.size)
    (I : List α → World → Prop) (hI : OwnFrom w.heap.size I) (h0 : I [] w)
    (hround : ∀ (l : Nat) (x : α) (W : World) (K : Act → World → Prop), (∀ a', (∀ (l : Nat) (pre : List α) (W : World), (∃ r, W.heap[l]? = some (.loop r)) → I pre W → Keeps n₀ w W → pre.length < N → body.wpIn (Fence.wide.inRound l) (n - 1 - 1) P (RPostR R n₀ I (pre ++ [x]) W) a' W) → K a' W) →
      assign.wpIn (Fence.wide.inRound l) (n - 1 - 1) P (Exit.then K (fun _ _ _ => False)) { tmps := (ps.zip (encs x)).foldl (fun t (p, v) => t.setIfInBounds p v) a.tmps, defers := [] } W)
    (hdone : ∀ (D : Nat) (xs : List α) (W : World), w.heap.size ≤ D → S xs → I xs W → Keeps n₀ w W → W.heap[D]? = some (.deferred (some [])) → Q .normal { a with defers := { target := .collected D, args := #[] } :: a.defers } W) :
    (Code.rangeFunc g ps assign body).wpIn Fence.wide n P Q a w :=
  wpIn_rangeFunc_ownH rfl h1 hg trivial eg hseq (fun h k => ⟨belowK_t h.1 k.1, hRt h.2 k.2⟩) (fun W l o o' hl h1 h2 h3 => ⟨belowK_b hn W l o o' hl h1 h2 h3, hRb W l o o' h1 h2⟩) (Below.refl _ _) hps (fun pre W => I pre W ∧ Keeps n₀ w W) (fun _ _ _ => False)
    (OwnFrom.and hI (ownFrom_keeps hn (Nat.le_refl _))) (fun _ => ownFrom_pure _ _) ⟨h0, Keeps.refl _ _⟩
    (fun x a' _ => ∀ (l : Nat) (pre : List α) (W : World), (∃ r, W.heap[l]? = some (.loop r)) → I pre W → Keeps n₀ w W → pre.length < N → body.wpIn (Fence.wide.inRound l) (n - 1 - 1) P (RPostR R n₀ I (pre ++ [x]) W) a' W)
    (fun _ _ _ _ _ _ hs _ _ => hs)
    (fun l _ x W K hi hK => hround l x W K fun a' ha => hK a' W (KeepsFrom.refl _ _) ⟨Below.refl _ _, hRr W⟩ hi ha)
    (fun l pre _ _ W _ hr hi hax hlt => wpIn_mono (hax l pre W hr hi.1 hi.2 hlt) (ownPostG_of_RPostR hi.2))
    (fun D xs W hD hS hi hK => hdone D xs W hD hS hi.1 hi.2 hK)
    (fun _ _ _ _ _ _ hi _ => hi.elim)
end

/-- The box stays, and the cells of the list stay cells. -/
def BackR (Bg g : Nat) (W W' : World) : Prop := (∀ v, W.cell? ⟨Bg, 0, none⟩ = some v → W'.cell? ⟨Bg, 0, none⟩ = some v) ∧ ∀ p v, W.cell? ⟨g, p, none⟩ = some v → ∃ v', W'.cell? ⟨g, p, none⟩ = some v'
theorem BackR.refl (Bg g : Nat) (W : World) : BackR Bg g W W := ⟨fun _ h => h, fun _ v h => ⟨v, h⟩⟩
theorem BackR.trans {Bg g : Nat} {A B C : World} (h : BackR Bg g A B) (k : BackR Bg g B C) : BackR Bg g A C :=
  ⟨fun v hv => k.1 v (h.1 v hv), fun p v hv => let ⟨v', h'⟩ := h.2 p v hv; k.2 p v' h'⟩
theorem BackR.put {Bg g : Nat} (W : World) (l : Nat) (o o' : Obj) (h : W.heap[l]? = some o) (ho : o.isCells = false) : BackR Bg g W (W.putObj l o') := by
  have hk : ∀ {b p : Nat} {v : Value}, W.cell? ⟨b, p, none⟩ = some v → (W.putObj l o').cell? ⟨b, p, none⟩ = some v := fun hv => cell_kept hv (grownBy_putObj' W l o') (fun r e => by cases e; exact ⟨o, h, ho⟩)
  exact ⟨fun v hv => hk hv, fun p v hv => ⟨v, hk hv⟩⟩
theorem BackR.of {Bg g n : Nat} {e e' t t' : TypeId} {v : Value} {f f' : Nat → Value} {W W' : World} (h1 : Has W Bg e #[v]) (h2 : Has W' Bg e' #[v]) (h3 : Has W g t (tab n f)) (h4 : Has W' g t' (tab n f')) : BackR Bg g W W' :=
  ⟨fun u hu => by rw [h2.cell 0, ← hu, h1.cell 0], fun p u hu => by
    rw [h3.cell] at hu
    rcases Nat.lt_or_ge p n with hp | hp
    · exact ⟨_, by rw [h4.cell, tab_get hp]⟩
    · rw [tab_get_out hp] at hu
      cases hu⟩

attribute [local go_sem] Oper.semAt_some

/-- The places of a list of N elements, from the last on. -/
def bkL (N k : Nat) : List Nat := (List.range k).map fun j => N - 1 - j
theorem bkL_succ (N k : Nat) : bkL N (k + 1) = bkL N k ++ [N - 1 - k] := by simp [bkL, List.range_succ]
abbrev BkE (N : Nat) := Fin N × Value
def bkP {N : Nat} (pre : List (BkE N)) : List Nat := pre.map fun x => x.1.val
theorem bkP_snoc {N : Nat} (pre : List (BkE N)) (x : BkE N) : bkP (pre ++ [x]) = bkP pre ++ [x.1.val] := by simp [bkP]
theorem bkP_len {N k : Nat} {pre : List (BkE N)} (h : bkP pre = bkL N k) : pre.length = k := by
  have := congrArg List.length h
  simpa [bkP, bkL] using this

end Go.Proofs.Ytenenlpfpkdplaa

/- Lists of numbers of values: the program's side. -/
namespace Go.Proofs.Ytenenlpfpkdplaa
open Go.RowKit Go.Shelf

attribute [local go_sem] Oper.semAt_some

/-- What one round does to the list and to the number. -/
def stepB (B : Nat) (s : (Nat → Int) × Nat) (p : Nat) : (Nat → Int) × Nat := (fun p' => if p' = p then ((s.2 % B + 1 : Nat) : Int) else s.1 p', s.2 / B)
def runB (B i : Nat) (ps : List Nat) : (Nat → Int) × Nat := ps.foldl (stepB B) (fun _ => 0, i)
theorem runB_snoc (B i : Nat) (ps : List Nat) (p : Nat) : runB B i (ps ++ [p]) = stepB B (runB B i ps) p := by simp [runB, List.foldl_append]
theorem foldB_le (B : Nat) : ∀ (ps : List Nat) (s : (Nat → Int) × Nat), (ps.foldl (stepB B) s).2 ≤ s.2
  | [], _ => Nat.le_refl _
  | p :: ps, s => Nat.le_trans (foldB_le B ps (stepB B s p)) (Nat.div_le_self _ _)
theorem runB_le (B i : Nat) (ps : List Nat) : (runB B i ps).2 ≤ i := foldB_le B ps _
theorem runB_at (N n i : Nat) : ∀ j, j ≤ n → (∀ p, p < n → (runB (N - 1) i (bkL n j)).1 p = stF N n i j p) ∧ (runB (N - 1) i (bkL n j)).2 = i / (N - 1) ^ j
  | 0, _ => ⟨fun p hp => by rw [stF_zero hp]; rfl, by simp [bkL, runB]⟩
  | j + 1, hj => by
    obtain ⟨h1, h2⟩ := runB_at N n i j (by omega)
    rw [bkL_succ, runB_snoc]
    refine ⟨fun p hp => ?_, ?_⟩
    · rw [← stF_step (by omega)]
      show (if p = n - 1 - j then _ else _) = _
      by_cases h : p = n - 1 - j
      · rw [if_pos h, if_pos h, h2, dN, show n - 1 - (n - 1 - j) = j by omega]
      · rw [if_neg h, if_neg h, h1 p hp]
    · show (runB (N - 1) i (bkL n j)).2 / (N - 1) = _
      rw [h2, Nat.pow_succ, Nat.div_div_eq_div_mul]

end Go.Proofs.Ytenenlpfpkdplaa

/- Ranges over all lists of elements: the iterator's contract. -/
namespace Go.Proofs.Ytenenlpfpkdplaa
open Go.RowKit Go.Shelf

attribute [local go_sem] Oper.semAt_some

theorem grown_of_ex {W W' : World} (h : Ex W W') : W.grownBy W' none := ⟨h.below.os, h.below.tape, h.below.output, h.below.size, fun i hi _ => h.below.block i hi⟩

/-- A list as it is handed over: its number, its address, its capacity. -/
abbrev LsE (cn : Nat) := Fin cn × Option Addr × Nat
def LsP (N d cn : Nat) (x : LsE cn) (W : World) : Prop := IntsW W x.2.1 (lsL N d x.1.val) ∧ d ≤ x.2.2
def lsP {cn : Nat} (pre : List (LsE cn)) : List Nat := pre.map fun x => x.1.val
theorem lsP_snoc {cn : Nat} (pre : List (LsE cn)) (x : LsE cn) : lsP (pre ++ [x]) = lsP pre ++ [x.1.val] := by simp [lsP]
theorem lsP_len {cn k : Nat} {pre : List (LsE cn)} (h : lsP pre = List.range k) : pre.length = k := by
  have := congrArg List.length h
  simpa [lsP] using this
theorem intsW_grown {A : Option Addr} {xs : List Int} {W W' : World} {row : Option Nat} (h : IntsW W A xs) (hg : W.grownBy W' row) (hr : ∀ r, row = some r → ∃ o : Obj, W.heap[r]? = some o ∧ o.isCells = false) : IntsW W' A xs := by
  rcases h with rfl | ⟨b, o, rfl, hb, hc⟩
  · exact .inl rfl
  · exact .inr ⟨b, o, rfl, Nat.lt_of_lt_of_le hb hg.size, fun j hj => cell_kept (hc j hj) hg hr⟩
theorem lsP_own (N d cn B : Nat) : OwnFrom B (LsP N d cn) := fun _ _ _ _ hs hg hr => ⟨intsW_grown hs.1 hg fun r e => (hr r e).2, hs.2⟩

/-- The two boxes stay. -/
def BoxR (Bg Bd : Nat) (W W' : World) : Prop := (∀ v, W.cell? ⟨Bg, 0, none⟩ = some v → W'.cell? ⟨Bg, 0, none⟩ = some v) ∧ ∀ v, W.cell? ⟨Bd, 0, none⟩ = some v → W'.cell? ⟨Bd, 0, none⟩ = some v
theorem BoxR.refl (Bg Bd : Nat) (W : World) : BoxR Bg Bd W W := ⟨fun _ h => h, fun _ h => h⟩
theorem BoxR.trans {Bg Bd : Nat} {A B C : World} (h : BoxR Bg Bd A B) (k : BoxR Bg Bd B C) : BoxR Bg Bd A C := ⟨fun v hv => k.1 v (h.1 v hv), fun v hv => k.2 v (h.2 v hv)⟩
theorem BoxR.put {Bg Bd : Nat} (W : World) (l : Nat) (o o' : Obj) (h : W.heap[l]? = some o) (ho : o.isCells = false) : BoxR Bg Bd W (W.putObj l o') :=
  ⟨fun _ hv => cell_kept hv (grownBy_putObj' W l o') (fun r e => by cases e; exact ⟨o, h, ho⟩), fun _ hv => cell_kept hv (grownBy_putObj' W l o') (fun r e => by cases e; exact ⟨o, h, ho⟩)⟩
theorem BoxR.ex {Bg Bd : Nat} {W W' : World} (k : Ex W W') (hg : Bg < W.heap.size) (hd : Bd < W.heap.size) : BoxR Bg Bd W W' :=
  ⟨fun _ hv => (k.below.cell (p := ⟨Bg, 0, none⟩) hg).trans hv, fun _ hv => (k.below.cell (p := ⟨Bd, 0, none⟩) hd).trans hv⟩
theorem BoxR.of {Bg Bd : Nat} {e e' t t' : TypeId} {u v : Value} {W W' : World} (h1 : Has W Bg e #[u]) (h2 : Has W' Bg e' #[u]) (h3 : Has W Bd t #[v]) (h4 : Has W' Bd t' #[v]) : BoxR Bg Bd W W' :=
  ⟨fun x hx => by rw [h2.cell 0, ← hx, h1.cell 0], fun x hx => by rw [h4.cell 0, ← hx, h3.cell 0]⟩

end Go.Proofs.Ytenenlpfpkdplaa

/- cochainWith: a cochain whose values a closure tells, whatever closure. -/
namespace Go.Proofs.Ytenenlpfpkdplaa
open Go.RowKit Go.Shelf

attribute [local go_sem] Oper.semAt_some

theorem Has.grownR {b : Nat} {e : TypeId} {cs : Array Value} {w w' : World} {row : Option Nat} (h : Has w b e cs) (hg : w.grownBy w' row) (hr : ∀ r, row = some r → ∃ o : Obj, w.heap[r]? = some o ∧ o.isCells = false) : Has w' b e cs :=
  has_own (β := Unit) b e (fun _ => cs) () w w' row h hg hr
theorem GrowI.grown {lo n : Nat} {v : Value} {xs : List Int} {w w' : World} {row : Option Nat} (h : GrowI w lo v n xs) (hg : w.grownBy w' row) (hr : ∀ r, row = some r → ∃ o : Obj, w.heap[r]? = some o ∧ o.isCells = false) : GrowI w' lo v n xs := by
  obtain ⟨⟨h1, h2⟩, h3⟩ := h
  refine ⟨⟨h1, ?_⟩, h3⟩
  rcases h2 with h2 | ⟨g, cap, cur, hv, hl, hc, hrest⟩
  · exact .inl h2
  · refine .inr ⟨g, cap, cur, hv, hl, (hg.block g (Array.getElem?_eq_some_iff.1 hc).1 (fun e => ?_)).trans hc, hrest⟩
    obtain ⟨o, ho, hoc⟩ := hr g e.symm
    rw [hc] at ho
    cases ho
    cases hoc
theorem GrowI.made (n : Nat) (hn : n ≤ 1048576) {lo : Nat} (w : World) (h : lo ≤ w.heap.size) : GrowI (w.alloc (.cells (tab n fun _ => .int .i64 0) 2)) lo (.slice (some ⟨w.heap.size, 0, none⟩) 0 n) 0 [] :=
  ⟨⟨rfl, .inr ⟨_, n, _, rfl, h, Has.new w 2 (tab n fun _ => .int .i64 0), Nat.zero_le _, by unfold maxLen; omega, by simp [tab_size], by simp⟩⟩, rfl⟩
theorem GrowI.block {lo n : Nat} {v : Value} {xs : List Int} {w : World} {k : Nat} (h : GrowI w lo v n xs) (hk : v.ownBlock = some k) : lo ≤ k ∧ ∃ cs, w.heap[k]? = some (.cells cs 2 (0, 0)) := by
  rcases h.1.2 with ⟨rfl, _⟩ | ⟨g, cap, cur, rfl, hl, hc, _⟩
  · cases hk
  · cases hk
    exact ⟨hl, cur, hc⟩
theorem Keeps.grew {n₀ lo n : Nat} {v : Value} {xs : List Int} {W w1 w3 : World} (h : Keeps n₀ W w1) (g : GrowI w1 lo v n xs) (hl : n₀ ≤ lo) (hs : n₀ ≤ w1.heap.size) (hg : w1.grownBy w3 v.ownBlock) : Keeps n₀ W w3 :=
  ⟨h.1.grown hg hs (fun k e => Nat.le_trans hl (g.block e).1), h.2.trans ⟨hg.size, fun k o _ hk ho => (hg.block k (Array.getElem?_eq_some_iff.1 hk).1 (fun e => by
    obtain ⟨_, cs, hc⟩ := g.block e.symm
    rw [hk] at hc
    cases hc
    cases ho)).trans hk⟩⟩
theorem makeCap (n : Nat) (hn : n ≤ 1048576) (w : World) :
    (Instr.makeSlice 26 (.int .i64 0) (.int .i64 (n : Int))).run Try.prog w = .ok (.slice (some ⟨w.heap.size, 0, none⟩) 0 n) (w.alloc (.cells (tab n fun _ => .int .i64 0) 2)) := by
  obtain ⟨i0, hi, hz0, hz1, hz2⟩ := info_parts infoI
  have hr := run_make (P := Try.prog) w 26 2 i0 _ Try.underlying26 hi hz0 .i64 .i64 0 n (by omega) (by omega) (by rw [hz2]; omega) (by omega)
  rw [hr, hz1, madeCells_one _ _ rfl]
  simp

end Go.Proofs.Ytenenlpfpkdplaa
