/- Ranges over a list backwards: the iterator's contract. -/
import Derived.Test.YtdehalkebneaoaaDoorRng
import Derived.Test.YtdehalkebneaoaaDoorIt
namespace Go.Proofs.YtdehalkebneaoaaDoor
open Go.RowKit Go.Shelf

/-- How a round may be left. -/
def RPostR {α : Type} (R : World → World → Prop) (n₀ : Nat) (I : List α → World → Prop) (xs : List α) (W : World) : Exit → Act → World → Prop
  | .normal, _, W' => Keeps n₀ W W' ∧ R W W' ∧ I xs W'
  | .ret, _, _ => False
  | .exit _, _, _ => False
  | .goto _, _, _ => False
  | .panic _, _, _ => False
  | .outgrown, _, _ => False

theorem ownPostG_of_RPostR {α : Type} {R : World → World → Prop} {n₀ : Nat} {I : List α → World → Prop} {xs : List α} {w W : World} (hw : Keeps n₀ w W) :
    ∀ (e : Exit) (a : Act) (W' : World), RPostR R n₀ I xs W e a W' → ownPostG w.heap.size (fun A B => Below n₀ A B ∧ R A B) (fun pre W => I pre W ∧ Keeps n₀ w W) (fun _ _ _ => False) xs W e a W'
  | .normal, _, _, h => ⟨KeepsFrom.mono h.1.2 (Nat.zero_le _), ⟨h.1.1, h.2.1⟩, h.2.2, hw.trans h.1⟩
  | .ret, _, _, h => h.elim
  | .exit _, _, _, h => h.elim
  | .goto _, _, _, h => h.elim
  | .panic _, _, _, h => h
  | .outgrown, _, _, h => h

section
variable {P : Program} {α : Type} {g : Operand} {ps : Array Tmp} {assign body : Code} {Q : Exit → Act → World → Prop} {a : Act} {w : World} {n n₀ gf N : Nat} {lb : Array Value} {encs : α → Array Value} {S Sp : List α → Prop} {R : World → World → Prop}

/-- A loop of the function's own that runs to its end; the loop's variable lies in a temporary. -/
theorem range_topR (hRt : ∀ {A B C : World}, R A B → R B C → R A C) (hRr : ∀ W : World, R W W) (hRb : ∀ (W : World) (l : Nat) (o o' : Obj), W.heap[l]? = some o → o.isCells = false → R W (W.putObj l o'))
    (h1 : 1 ≤ n) (hg : a.eval g = .func (.func gf) #[] lb) (eg : ∀ args w, (callFunc gf args).run P w = .ok (.enter gf args) w)
    (hseq : SeqStopsK Fence.wide (n - 1) P gf lb encs (fun A B => Below n₀ A B ∧ R A B) S Sp N w) (hn : n₀ ≤ w.heap.size) (hps : ∀ x, (encs x).size = ps.size)
    (I : List α → World → Prop) (hI : OwnFrom w.heap.size I) (h0 : I [] w)
    (hround : ∀ (l : Nat) (x : α) (W : World) (K : Act → World → Prop), (∀ a', (∀ (l : Nat) (pre : List α) (W : World), (∃ r, W.heap[l]? = some (.loop r)) → I pre W → Keeps n₀ w W → pre.length < N → body.wpIn (Fence.wide.inRound l) (n - 1 - 1) P (RPostR R n₀ I (pre ++ [x]) W) a' W) → K a' W) →
      assign.wpIn (Fence.wide.inRound l) (n - 1 - 1) P (Exit.then K (fun _ _ _ => False)) { tmps := (ps.zip (encs x)).foldl (fun t (p, v) => t.setIfInBounds p v) a.tmps, defers := [] } W)
    (hdone : ∀ (D : Nat) (xs : List α) (W : World), w.heap.size ≤ D → S xs → I xs W → Keeps n₀ w W → W.heap[D]? = some (.deferred (some [])) → Q .normal { a with defers := { target := .collected D, args := #[] } :: a.defers } W) :
    (Code.rangeFunc g ps assign body).wpIn Fence.wide n P Q a w :=
  wpIn_rangeFunc_ownH rfl h1 hg trivial eg hseq (fun h k => ⟨belowK_t h.1 k.1, hRt h.2 k.2⟩) (fun W l o o' hl h1 h2 h3 => ⟨belowK_b hn W l o o' hl h1 h2 h3, hRb W l o o' h1 h2⟩) (Below.refl _ _) hps (fun pre W => I pre W ∧ Keeps n₀ w W) (fun _ _ _ => False)
    (OwnFrom.and hI (ownFrom_keeps hn (Nat.le_refl _))) (fun _ => ownFrom_pure _ _) ⟨h0, Keeps.refl _ _⟩
    (fun x a' _ => ∀ (l : Nat) (pre : List α) (W : World), (∃ r, W.heap[l]? = some (.loop r)) → I pre W → Keeps n₀ w W → pre.length < N → body.wpIn (Fence.wide.inRound l) (n - 1 - 1) P (RPostR R n₀ I (pre ++ [x]) W) a' W)
    (fun _ _ _ _ _ _ hs _ _ => hs)
    (fun l _ x W K hi hK => hround l x W K fun a' ha => hK a' W (KeepsFrom.refl _ _) ⟨Below.refl _ _, hRr W⟩ hi ha)
    (fun l pre _ _ W _ hr hi hax hlt => wpIn_mono (hax l pre W hr hi.1 hi.2 hlt) (ownPostG_of_RPostR hi.2))
    (fun D xs W hD hS hi hK => hdone D xs W hD hS hi.1 hi.2 hK)
    (fun _ _ _ _ _ _ hi _ => hi.elim)
end

/-- The box stays, and the cells of the list stay cells. -/
def BackR (Bg g : Nat) (W W' : World) : Prop := (∀ v, W.cell? ⟨Bg, 0, none⟩ = some v → W'.cell? ⟨Bg, 0, none⟩ = some v) ∧ ∀ p v, W.cell? ⟨g, p, none⟩ = some v → ∃ v', W'.cell? ⟨g, p, none⟩ = some v'
theorem BackR.refl (Bg g : Nat) (W : World) : BackR Bg g W W := ⟨fun _ h => h, fun _ v h => ⟨v, h⟩⟩
theorem BackR.trans {Bg g : Nat} {A B C : World} (h : BackR Bg g A B) (k : BackR Bg g B C) : BackR Bg g A C :=
  ⟨fun v hv => k.1 v (h.1 v hv), fun p v hv => let ⟨v', h'⟩ := h.2 p v hv; k.2 p v' h'⟩
theorem BackR.put {Bg g : Nat} (W : World) (l : Nat) (o o' : Obj) (h : W.heap[l]? = some o) (ho : o.isCells = false) : BackR Bg g W (W.putObj l o') := by
  have hk : ∀ {b p : Nat} {v : Value}, W.cell? ⟨b, p, none⟩ = some v → (W.putObj l o').cell? ⟨b, p, none⟩ = some v := fun hv => cell_kept hv (grownBy_putObj' W l o') (fun r e => by cases e; exact ⟨o, h, ho⟩)
  exact ⟨fun v hv => hk hv, fun p v hv => ⟨v, hk hv⟩⟩
theorem BackR.of {Bg g n : Nat} {e e' t t' : TypeId} {v : Value} {f f' : Nat → Value} {W W' : World} (h1 : Has W Bg e #[v]) (h2 : Has W' Bg e' #[v]) (h3 : Has W g t (tab n f)) (h4 : Has W' g t' (tab n f')) : BackR Bg g W W' :=
  ⟨fun u hu => by rw [h2.cell 0, ← hu, h1.cell 0], fun p u hu => by
    rw [h3.cell] at hu
    rcases Nat.lt_or_ge p n with hp | hp
    · exact ⟨_, by rw [h4.cell, tab_get hp]⟩
    · rw [tab_get_out hp] at hu
      cases hu⟩

attribute [local go_sem] Oper.semAt_some

/-- The places of a list of N elements, from the last on. -/
def bkL (N k : Nat) : List Nat := (List.range k).map fun j => N - 1 - j
theorem bkL_succ (N k : Nat) : bkL N (k + 1) = bkL N k ++ [N - 1 - k] := by simp [bkL, List.range_succ]
abbrev BkE (N : Nat) := Fin N × Value
def bkP {N : Nat} (pre : List (BkE N)) : List Nat := pre.map fun x => x.1.val
theorem bkP_snoc {N : Nat} (pre : List (BkE N)) (x : BkE N) : bkP (pre ++ [x]) = bkP pre ++ [x.1.val] := by simp [bkP]
theorem bkP_len {N k : Nat} {pre : List (BkE N)} (h : bkP pre = bkL N k) : pre.length = k := by
  have := congrArg List.length h
  simpa [bkP, bkL] using this

set_option maxHeartbeats 400000 in
theorem backward_any (A : Option Addr) (n c : Nat) (w : World) :
    Calls Tryd.prog 123 #[.slice A n c] w fun e w' => e = .returned (.func (.func 161) #[] #[.pointer (some ⟨w.heap.size, 0, none⟩)]) ∧ w' = w.alloc (.cells #[.slice A n c] 26) := by
  have hmf : ∀ (fn : Fn) (first cap : Array Value) (w : World), (Instr.makeFunc fn first cap).run Tryd.prog w = .ok (.func fn first cap) w := fun _ _ _ _ => rfl
  go_enter Tryd.func123, Tryd.ntmps123
  go_wp2
  go_ret
  exact ⟨rfl, rfl⟩

set_option maxRecDepth 100000 in
set_option maxHeartbeats 1000000 in
theorem back1_in (n : Nat) (hn : 1 ≤ n) (l Bg n₀ N g c : Nat) (J Jx : List (BkE N) → World → Prop) (W : World)
    (hY : ∀ pre x W, J pre W → pre.length < N → YieldAt Fence.wide (n - 1) Tryd.prog l #[.int .i64 (x.1.val : Int), x.2] W fun e W' =>
      (e = .returned (.bool true) ∧ J (pre ++ [x]) W' ∧ (Below n₀ W W' ∧ BackR Bg g W W')) ∨ (e = .returned (.bool false) ∧ Jx (pre ++ [x]) W'))
    (hBg : W.cell? ⟨Bg, 0, none⟩ = some (.slice (some ⟨g, 0, none⟩) N c)) (hg : ∀ p, p < N → ∃ v, W.cell? ⟨g, p, none⟩ = some v) (hN : N ≤ 1048576) (h0 : J [] W) :
    CallsIn Fence.wide n Tryd.prog 161 #[.func (.yield l) #[] #[], .pointer (some ⟨Bg, 0, none⟩)] W fun e W' => (∃ v, e = .returned v) ∧
      ((∃ ys, bkP ys = bkL N N ∧ J ys W') ∨ (∃ pre, (∃ k, bkP pre = bkL N k) ∧ Jx pre W')) := by
  have HY := Lib.hid hY
  have HG := Lib.hid hg
  clear hY hg
  refine callsIn_of_wp Tryd.func161 rfl trivial ?_ rfl
  simp only [Tryd.ntmps161, List.size_toArray, List.length_cons, List.length_nil, Nat.reduceAdd, Nat.reduceSub, Array.replicate_succ, Array.replicate_zero, List.push_toArray, List.append_toArray, List.nil_append, List.cons_append]
  gi_wp2_with fail
  gi_loopw [3] (fun i wr => ∃ (k : Nat) (pre : List (BkE N)), k ≤ N ∧ i = .int .i64 ((N : Int) - 1 - (k : Int)) ∧ Hid (bkP pre = bkL N k) ∧ J pre wr ∧ Hid (BackR Bg g W wr)) (fun i _ => (intOf i + 1).toNat)
  case atStart => exact ⟨0, [], Nat.zero_le _, by go_num, Lib.hid rfl, h0, Lib.hid (BackR.refl _ _ _)⟩
  case round =>
    obtain ⟨k, pre, hk, rfl, HP, hJ, HR⟩ := hrel
    by_cases hlt : k < N
    · obtain ⟨p, hp⟩ : ∃ p, N - 1 - k = p := ⟨_, rfl⟩
      have hpi : (N : Int) - 1 - (k : Int) = (p : Int) := by omega
      have hpN : p < N := by omega
      have hcb := HR.out.1 _ hBg
      obtain ⟨v0, hv0⟩ := HG.out p hpN
      obtain ⟨v, hv⟩ := HR.out.2 p v0 hv0
      obtain ⟨fn, tmps, assign, body, hy, hR⟩ := HY.out pre ⟨⟨p, hpN⟩, v⟩ wr hJ (by rw [bkP_len HP.out]; exact hlt)
      have HP2 : Hid (bkP (pre ++ [((⟨p, hpN⟩, v) : BkE N)]) = bkL N (k + 1)) := Lib.hid (by rw [bkP_snoc, bkL_succ, HP.out, hp])
      dsimp only at hy
      have HRR := Lib.hid hR
      rw [hpi]
      clear hv0 hR
      have hp2 : (N : Int) - 1 - ((k + 1 : Nat) : Int) = (p : Int) - 1 := by omega
      have HPP := Lib.hid hp2
      clear hp hpi hp2
      gi_wp2
      refine HRR.out.mono ?_
      rintro e W3 (⟨rfl, hJ3, hk3⟩ | ⟨rfl, hJx3⟩)
      · gi_wp2
        go_roundw
        case rel => exact ⟨k + 1, pre ++ [(⟨p, hpN⟩, v)], by omega, by rw [HPP.out], HP2, hJ3, Lib.hid (HR.out.trans hk3.2)⟩
        case measure => simp [intOf]
      · gi_wp2
        refine bodyPost_ret (results_none rfl _ _ _) rfl ?_
        exact ⟨⟨_, rfl⟩, .inr ⟨_, ⟨_, HP2.out⟩, hJx3⟩⟩
    · obtain rfl : k = N := by omega
      gi_wp2
      go_end0
      exact ⟨⟨_, rfl⟩, .inl ⟨_, HP.out, hJ⟩⟩

/-- 'for place := range slices.Backward(list)'. -/
theorem back_stops (n : Nat) (hn : 1 ≤ n) (Bg n₀ N g c : Nat) (w : World) (hB : Bg < w.heap.size) (hl : g < w.heap.size) (hc : w.cell? ⟨Bg, 0, none⟩ = some (.slice (some ⟨g, 0, none⟩) N c)) (hg : ∀ p, p < N → ∃ v, w.cell? ⟨g, p, none⟩ = some v) (hN : N ≤ 1048576) :
    SeqStopsK Fence.wide n Tryd.prog 161 #[.pointer (some ⟨Bg, 0, none⟩)] (fun x : BkE N => #[.int .i64 (x.1.val : Int), x.2]) (fun A B => Below n₀ A B ∧ BackR Bg g A B) (fun ys => bkP ys = bkL N N) (fun pre => ∃ k, bkP pre = bkL N k) N w :=
  fun l J Jx W hW _ _ hY h0 => back1_in n hn l Bg n₀ N g c J Jx W hY ((hW.cell (p := ⟨Bg, 0, none⟩) hB).trans hc) (fun p hp => let ⟨v, hv⟩ := hg p hp; ⟨v, (hW.cell (p := ⟨g, p, none⟩) hl).trans hv⟩) hN h0

end Go.Proofs.YtdehalkebneaoaaDoor
