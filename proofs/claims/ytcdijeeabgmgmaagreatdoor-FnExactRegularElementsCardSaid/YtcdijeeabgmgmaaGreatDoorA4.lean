/- Squares: numbers for each two elements of a group, in an array. -/
import Derived.IntWalk
import Derived.Laws.Rows
import Derived.Laws.CopyOwn
import Derived.Test.YtcdijeeabgmgmaaGreatDoorGw
import Derived.Test.YtcdijeeabgmgmaaGreatDoorA1
namespace Go.Proofs.YtcdijeeabgmgmaaGreatDoor
open Go.RowKit Go.Shelf

attribute [local go_sem] Oper.semAt_some

/-- The cells of rows that were met, of squares. -/
def mqR {N : Nat} (pre : List (Fin N)) (p : Nat) : Prop := (∃ x ∈ pre, x.val = p / 8) ∧ p % 8 < N
def mqC {N : Nat} (pre : List (Fin N)) (a : Nat) (pre2 : List (Fin N)) (p : Nat) : Prop := mqR pre p ∨ (p / 8 = a ∧ ∃ y ∈ pre2, y.val = p % 8)
section
variable {N : Nat}
theorem mqR_nil (p : Nat) : ¬ mqR (N := N) [] p := by rintro ⟨⟨x, hx, _⟩, _⟩; cases hx
theorem mqC_nil (pre : List (Fin N)) (a p : Nat) : mqC pre a [] p ↔ mqR pre p :=
  ⟨fun h => h.elim id (fun h => by obtain ⟨_, y, hy, _⟩ := h; cases hy), fun h => .inl h⟩
theorem mqR_all (p : Nat) : mqR (List.finRange N) p ↔ (p / 8 < N ∧ p % 8 < N) :=
  ⟨fun ⟨⟨x, _, e⟩, h⟩ => ⟨e ▸ x.isLt, h⟩, fun ⟨h, h'⟩ => ⟨⟨⟨p / 8, h⟩, List.mem_finRange _, rfl⟩, h'⟩⟩
theorem mqC_all (pre : List (Fin N)) (a : Nat) (ha : a < N) (p : Nat) : mqC pre a (List.finRange N) p ↔ mqR (pre ++ [⟨a, ha⟩]) p := by
  constructor
  · rintro (⟨⟨x, hx, e⟩, h⟩ | ⟨e, y, _, ey⟩)
    · exact ⟨⟨x, List.mem_append.2 (.inl hx), e⟩, h⟩
    · exact ⟨⟨⟨a, ha⟩, by simp, e.symm⟩, ey ▸ y.isLt⟩
  · rintro ⟨⟨x, hx, e⟩, h⟩
    rcases List.mem_append.1 hx with hx | hx
    · exact .inl ⟨⟨x, hx, e⟩, h⟩
    · simp at hx
      subst hx
      exact .inr ⟨e.symm, ⟨p % 8, h⟩, List.mem_finRange _, rfl⟩
theorem mqC_snoc (pre pre2 : List (Fin N)) (a b : Nat) (hb : b < N) (hN : N ≤ 8) (p : Nat) : (mqC pre a pre2 p ∨ p = a * 8 + b) ↔ mqC pre a (pre2 ++ [⟨b, hb⟩]) p := by
  constructor
  · rintro ((h | ⟨e, y, hy, ey⟩) | rfl)
    · exact .inl h
    · exact .inr ⟨e, y, List.mem_append.2 (.inl hy), ey⟩
    · exact .inr ⟨by omega, ⟨b, hb⟩, by simp, by show b = _; omega⟩
  · rintro (h | ⟨e, y, hy, ey⟩)
    · exact .inl (.inl h)
    · rcases List.mem_append.1 hy with hy | hy
      · exact .inl (.inr ⟨e, y, hy, ey⟩)
      · simp at hy
        subst hy
        refine .inr ?_
        have ey' : b = p % 8 := ey
        omega
end

/-- The square of a function. -/
def sqA (N : Nat) (V : Nat → Nat → Int) : Array Value := tab 64 fun p => .int .i64 (if p / 8 < N ∧ p % 8 < N then V (p / 8) (p % 8) else 0)
theorem sqA_size (N : Nat) (V : Nat → Nat → Int) : (sqA N V).size = 64 := tab_size _ _
theorem sqA_cells (N : Nat) (V : Nat → Nat → Int) : (sqA N V).all (·.oneCell') = true := by
  rw [Array.all_eq_true_iff_forall_mem]
  intro v hv
  obtain ⟨j, hj, rfl⟩ := Array.getElem_of_mem hv
  have h := tab_get (f := fun p => Value.int .i64 (if p / 8 < N ∧ p % 8 < N then V (p / 8) (p % 8) else 0)) (show j < 64 by rw [sqA_size] at hj; exact hj)
  rw [show (sqA N V)[j] = Value.int .i64 (if j / 8 < N ∧ j % 8 < N then V (j / 8) (j % 8) else 0) from Array.getElem_eq_iff.2 h]
  rfl
theorem sqA_of (N : Nat) (V : Nat → Nat → Int) : tabP 64 (mqR (List.finRange N)) (fun p => V (p / 8) (p % 8)) = sqA N V := by
  unfold tabP sqA
  refine tab_congr fun p _ => ?_
  by_cases h : p / 8 < N ∧ p % 8 < N
  · rw [if_pos h, if_pos ((mqR_all p).2 h)]
  · rw [if_neg h, if_neg fun h' => h ((mqR_all p).1 h')]
theorem sqA_get {N x y : Nat} {V : Nat → Nat → Int} (hN : N ≤ 8) (hx : x < N) (hy : y < N) : (sqA N V)[x * 8 + y]? = some (.int .i64 (V x y)) := by
  unfold sqA
  rw [tab_get (by omega), show (x * 8 + y) / 8 = x by omega, show (x * 8 + y) % 8 = y by omega, if_pos ⟨hx, hy⟩]
theorem sqZ : (#[.int .i64 0, .int .i64 0, .int .i64 0, .int .i64 0, .int .i64 0, .int .i64 0, .int .i64 0, .int .i64 0, .int .i64 0, .int .i64 0, .int .i64 0, .int .i64 0, .int .i64 0, .int .i64 0, .int .i64 0, .int .i64 0, .int .i64 0, .int .i64 0, .int .i64 0, .int .i64 0, .int .i64 0, .int .i64 0, .int .i64 0, .int .i64 0, .int .i64 0, .int .i64 0, .int .i64 0, .int .i64 0, .int .i64 0, .int .i64 0, .int .i64 0, .int .i64 0, .int .i64 0, .int .i64 0, .int .i64 0, .int .i64 0, .int .i64 0, .int .i64 0, .int .i64 0, .int .i64 0, .int .i64 0, .int .i64 0, .int .i64 0, .int .i64 0, .int .i64 0, .int .i64 0, .int .i64 0, .int .i64 0, .int .i64 0, .int .i64 0, .int .i64 0, .int .i64 0, .int .i64 0, .int .i64 0, .int .i64 0, .int .i64 0, .int .i64 0, .int .i64 0, .int .i64 0, .int .i64 0, .int .i64 0, .int .i64 0, .int .i64 0, .int .i64 0] : Array Value) = tab 64 fun _ => .int .i64 0 := by kernel_rfl
theorem infoSq : (Tryz.prog.info? 109).map (·.size) = some 64 := by kernel_rfl
theorem Has.row_set {w : World} {g : Nat} {T : TypeId} {cs cs' : Array Value} (h : Has w g T cs) : Has (w.setRow g cs') g T cs' := setRow_heap w g cs cs' T (0, 0) h
theorem Has.row_far {w : World} {g k : Nat} {T : TypeId} {cs cs' : Array Value} (h : Has w k T cs) (hk : k ≠ g) : Has (w.setRow g cs') k T cs := (setRow_other w g k cs' hk).trans h
theorem Ex.row {a w : World} {g : Nat} (h : Ex a w) (hg : a.heap.size ≤ g) (cs : Array Value) : Ex a (w.setRow g cs) := below_setRow h hg cs

set_option maxRecDepth 100000 in
set_option maxHeartbeats 8000000 in
theorem squareOf_has (A : Option Addr) (N c kf : Nat) (cap : Array Value) (V : Nat → Nat → Int) (w : World) (hN : N ≤ 8)
    (eg : ∀ args w, (callFunc kf args).run Tryz.prog w = .ok (.enter kf args) w)
    (hF : ∀ W', Ex w W' → ∀ a b, a < N → b < N → Calls Tryz.prog kf (#[.int .i64 (a : Int), .int .i64 (b : Int)] ++ cap) W' fun e w' => e = .returned (.int .i64 (V a b)) ∧ Ex W' w') :
    Calls Tryz.prog 107 #[.agg #[.slice A N c], .func (.func kf) #[] cap] w fun e w' => e = .returned (.agg (sqA N V)) ∧ Ex w w' := by
  have HF := Lib.hid hF
  have HEG := Lib.hid eg
  clear hF eg
  have e0 : Ex w ((((w.alloc (.cells #[.slice A N c] 32)).alloc (.cells #[.func (.func kf) #[] cap] 87)).alloc (.cells #[.int .i64 0, .int .i64 0, .int .i64 0, .int .i64 0, .int .i64 0, .int .i64 0, .int .i64 0, .int .i64 0, .int .i64 0, .int .i64 0, .int .i64 0, .int .i64 0, .int .i64 0, .int .i64 0, .int .i64 0, .int .i64 0, .int .i64 0, .int .i64 0, .int .i64 0, .int .i64 0, .int .i64 0, .int .i64 0, .int .i64 0, .int .i64 0, .int .i64 0, .int .i64 0, .int .i64 0, .int .i64 0, .int .i64 0, .int .i64 0, .int .i64 0, .int .i64 0, .int .i64 0, .int .i64 0, .int .i64 0, .int .i64 0, .int .i64 0, .int .i64 0, .int .i64 0, .int .i64 0, .int .i64 0, .int .i64 0, .int .i64 0, .int .i64 0, .int .i64 0, .int .i64 0, .int .i64 0, .int .i64 0, .int .i64 0, .int .i64 0, .int .i64 0, .int .i64 0, .int .i64 0, .int .i64 0, .int .i64 0, .int .i64 0, .int .i64 0, .int .i64 0, .int .i64 0, .int .i64 0, .int .i64 0, .int .i64 0, .int .i64 0, .int .i64 0] 109)).alloc (.cells #[.int .i64 0, .int .i64 0, .int .i64 0, .int .i64 0, .int .i64 0, .int .i64 0, .int .i64 0, .int .i64 0, .int .i64 0, .int .i64 0, .int .i64 0, .int .i64 0, .int .i64 0, .int .i64 0, .int .i64 0, .int .i64 0, .int .i64 0, .int .i64 0, .int .i64 0, .int .i64 0, .int .i64 0, .int .i64 0, .int .i64 0, .int .i64 0, .int .i64 0, .int .i64 0, .int .i64 0, .int .i64 0, .int .i64 0, .int .i64 0, .int .i64 0, .int .i64 0, .int .i64 0, .int .i64 0, .int .i64 0, .int .i64 0, .int .i64 0, .int .i64 0, .int .i64 0, .int .i64 0, .int .i64 0, .int .i64 0, .int .i64 0, .int .i64 0, .int .i64 0, .int .i64 0, .int .i64 0, .int .i64 0, .int .i64 0, .int .i64 0, .int .i64 0, .int .i64 0, .int .i64 0, .int .i64 0, .int .i64 0, .int .i64 0, .int .i64 0, .int .i64 0, .int .i64 0, .int .i64 0, .int .i64 0, .int .i64 0, .int .i64 0, .int .i64 0] 109)) := ((((Ex.refl w).alloc _).alloc _).alloc _).alloc _
  have b0 : Has ((((w.alloc (.cells #[.slice A N c] 32)).alloc (.cells #[.func (.func kf) #[] cap] 87)).alloc (.cells #[.int .i64 0, .int .i64 0, .int .i64 0, .int .i64 0, .int .i64 0, .int .i64 0, .int .i64 0, .int .i64 0, .int .i64 0, .int .i64 0, .int .i64 0, .int .i64 0, .int .i64 0, .int .i64 0, .int .i64 0, .int .i64 0, .int .i64 0, .int .i64 0, .int .i64 0, .int .i64 0, .int .i64 0, .int .i64 0, .int .i64 0, .int .i64 0, .int .i64 0, .int .i64 0, .int .i64 0, .int .i64 0, .int .i64 0, .int .i64 0, .int .i64 0, .int .i64 0, .int .i64 0, .int .i64 0, .int .i64 0, .int .i64 0, .int .i64 0, .int .i64 0, .int .i64 0, .int .i64 0, .int .i64 0, .int .i64 0, .int .i64 0, .int .i64 0, .int .i64 0, .int .i64 0, .int .i64 0, .int .i64 0, .int .i64 0, .int .i64 0, .int .i64 0, .int .i64 0, .int .i64 0, .int .i64 0, .int .i64 0, .int .i64 0, .int .i64 0, .int .i64 0, .int .i64 0, .int .i64 0, .int .i64 0, .int .i64 0, .int .i64 0, .int .i64 0] 109)).alloc (.cells #[.int .i64 0, .int .i64 0, .int .i64 0, .int .i64 0, .int .i64 0, .int .i64 0, .int .i64 0, .int .i64 0, .int .i64 0, .int .i64 0, .int .i64 0, .int .i64 0, .int .i64 0, .int .i64 0, .int .i64 0, .int .i64 0, .int .i64 0, .int .i64 0, .int .i64 0, .int .i64 0, .int .i64 0, .int .i64 0, .int .i64 0, .int .i64 0, .int .i64 0, .int .i64 0, .int .i64 0, .int .i64 0, .int .i64 0, .int .i64 0, .int .i64 0, .int .i64 0, .int .i64 0, .int .i64 0, .int .i64 0, .int .i64 0, .int .i64 0, .int .i64 0, .int .i64 0, .int .i64 0, .int .i64 0, .int .i64 0, .int .i64 0, .int .i64 0, .int .i64 0, .int .i64 0, .int .i64 0, .int .i64 0, .int .i64 0, .int .i64 0, .int .i64 0, .int .i64 0, .int .i64 0, .int .i64 0, .int .i64 0, .int .i64 0, .int .i64 0, .int .i64 0, .int .i64 0, .int .i64 0, .int .i64 0, .int .i64 0, .int .i64 0, .int .i64 0] 109)) (w.heap.size) 32 #[.slice A N c] := ((((Has.newAt (w := w) (e := 32) (cs := #[.slice A N c]) (k := w.heap.size) (by simp)).alloc _).alloc _).alloc _)
  have b1 : Has ((((w.alloc (.cells #[.slice A N c] 32)).alloc (.cells #[.func (.func kf) #[] cap] 87)).alloc (.cells #[.int .i64 0, .int .i64 0, .int .i64 0, .int .i64 0, .int .i64 0, .int .i64 0, .int .i64 0, .int .i64 0, .int .i64 0, .int .i64 0, .int .i64 0, .int .i64 0, .int .i64 0, .int .i64 0, .int .i64 0, .int .i64 0, .int .i64 0, .int .i64 0, .int .i64 0, .int .i64 0, .int .i64 0, .int .i64 0, .int .i64 0, .int .i64 0, .int .i64 0, .int .i64 0, .int .i64 0, .int .i64 0, .int .i64 0, .int .i64 0, .int .i64 0, .int .i64 0, .int .i64 0, .int .i64 0, .int .i64 0, .int .i64 0, .int .i64 0, .int .i64 0, .int .i64 0, .int .i64 0, .int .i64 0, .int .i64 0, .int .i64 0, .int .i64 0, .int .i64 0, .int .i64 0, .int .i64 0, .int .i64 0, .int .i64 0, .int .i64 0, .int .i64 0, .int .i64 0, .int .i64 0, .int .i64 0, .int .i64 0, .int .i64 0, .int .i64 0, .int .i64 0, .int .i64 0, .int .i64 0, .int .i64 0, .int .i64 0, .int .i64 0, .int .i64 0] 109)).alloc (.cells #[.int .i64 0, .int .i64 0, .int .i64 0, .int .i64 0, .int .i64 0, .int .i64 0, .int .i64 0, .int .i64 0, .int .i64 0, .int .i64 0, .int .i64 0, .int .i64 0, .int .i64 0, .int .i64 0, .int .i64 0, .int .i64 0, .int .i64 0, .int .i64 0, .int .i64 0, .int .i64 0, .int .i64 0, .int .i64 0, .int .i64 0, .int .i64 0, .int .i64 0, .int .i64 0, .int .i64 0, .int .i64 0, .int .i64 0, .int .i64 0, .int .i64 0, .int .i64 0, .int .i64 0, .int .i64 0, .int .i64 0, .int .i64 0, .int .i64 0, .int .i64 0, .int .i64 0, .int .i64 0, .int .i64 0, .int .i64 0, .int .i64 0, .int .i64 0, .int .i64 0, .int .i64 0, .int .i64 0, .int .i64 0, .int .i64 0, .int .i64 0, .int .i64 0, .int .i64 0, .int .i64 0, .int .i64 0, .int .i64 0, .int .i64 0, .int .i64 0, .int .i64 0, .int .i64 0, .int .i64 0, .int .i64 0, .int .i64 0, .int .i64 0, .int .i64 0] 109)) (w.heap.size + 1) 87 #[.func (.func kf) #[] cap] := (((Has.newAt (w := (w.alloc (.cells #[.slice A N c] 32))) (e := 87) (cs := #[.func (.func kf) #[] cap]) (k := w.heap.size + 1) (by simp)).alloc _).alloc _)
  have b2 : Has ((((w.alloc (.cells #[.slice A N c] 32)).alloc (.cells #[.func (.func kf) #[] cap] 87)).alloc (.cells #[.int .i64 0, .int .i64 0, .int .i64 0, .int .i64 0, .int .i64 0, .int .i64 0, .int .i64 0, .int .i64 0, .int .i64 0, .int .i64 0, .int .i64 0, .int .i64 0, .int .i64 0, .int .i64 0, .int .i64 0, .int .i64 0, .int .i64 0, .int .i64 0, .int .i64 0, .int .i64 0, .int .i64 0, .int .i64 0, .int .i64 0, .int .i64 0, .int .i64 0, .int .i64 0, .int .i64 0, .int .i64 0, .int .i64 0, .int .i64 0, .int .i64 0, .int .i64 0, .int .i64 0, .int .i64 0, .int .i64 0, .int .i64 0, .int .i64 0, .int .i64 0, .int .i64 0, .int .i64 0, .int .i64 0, .int .i64 0, .int .i64 0, .int .i64 0, .int .i64 0, .int .i64 0, .int .i64 0, .int .i64 0, .int .i64 0, .int .i64 0, .int .i64 0, .int .i64 0, .int .i64 0, .int .i64 0, .int .i64 0, .int .i64 0, .int .i64 0, .int .i64 0, .int .i64 0, .int .i64 0, .int .i64 0, .int .i64 0, .int .i64 0, .int .i64 0] 109)).alloc (.cells #[.int .i64 0, .int .i64 0, .int .i64 0, .int .i64 0, .int .i64 0, .int .i64 0, .int .i64 0, .int .i64 0, .int .i64 0, .int .i64 0, .int .i64 0, .int .i64 0, .int .i64 0, .int .i64 0, .int .i64 0, .int .i64 0, .int .i64 0, .int .i64 0, .int .i64 0, .int .i64 0, .int .i64 0, .int .i64 0, .int .i64 0, .int .i64 0, .int .i64 0, .int .i64 0, .int .i64 0, .int .i64 0, .int .i64 0, .int .i64 0, .int .i64 0, .int .i64 0, .int .i64 0, .int .i64 0, .int .i64 0, .int .i64 0, .int .i64 0, .int .i64 0, .int .i64 0, .int .i64 0, .int .i64 0, .int .i64 0, .int .i64 0, .int .i64 0, .int .i64 0, .int .i64 0, .int .i64 0, .int .i64 0, .int .i64 0, .int .i64 0, .int .i64 0, .int .i64 0, .int .i64 0, .int .i64 0, .int .i64 0, .int .i64 0, .int .i64 0, .int .i64 0, .int .i64 0, .int .i64 0, .int .i64 0, .int .i64 0, .int .i64 0, .int .i64 0] 109)) (w.heap.size + 1 + 1) 109 #[.int .i64 0, .int .i64 0, .int .i64 0, .int .i64 0, .int .i64 0, .int .i64 0, .int .i64 0, .int .i64 0, .int .i64 0, .int .i64 0, .int .i64 0, .int .i64 0, .int .i64 0, .int .i64 0, .int .i64 0, .int .i64 0, .int .i64 0, .int .i64 0, .int .i64 0, .int .i64 0, .int .i64 0, .int .i64 0, .int .i64 0, .int .i64 0, .int .i64 0, .int .i64 0, .int .i64 0, .int .i64 0, .int .i64 0, .int .i64 0, .int .i64 0, .int .i64 0, .int .i64 0, .int .i64 0, .int .i64 0, .int .i64 0, .int .i64 0, .int .i64 0, .int .i64 0, .int .i64 0, .int .i64 0, .int .i64 0, .int .i64 0, .int .i64 0, .int .i64 0, .int .i64 0, .int .i64 0, .int .i64 0, .int .i64 0, .int .i64 0, .int .i64 0, .int .i64 0, .int .i64 0, .int .i64 0, .int .i64 0, .int .i64 0, .int .i64 0, .int .i64 0, .int .i64 0, .int .i64 0, .int .i64 0, .int .i64 0, .int .i64 0, .int .i64 0] := ((Has.newAt (w := ((w.alloc (.cells #[.slice A N c] 32)).alloc (.cells #[.func (.func kf) #[] cap] 87))) (e := 109) (cs := #[.int .i64 0, .int .i64 0, .int .i64 0, .int .i64 0, .int .i64 0, .int .i64 0, .int .i64 0, .int .i64 0, .int .i64 0, .int .i64 0, .int .i64 0, .int .i64 0, .int .i64 0, .int .i64 0, .int .i64 0, .int .i64 0, .int .i64 0, .int .i64 0, .int .i64 0, .int .i64 0, .int .i64 0, .int .i64 0, .int .i64 0, .int .i64 0, .int .i64 0, .int .i64 0, .int .i64 0, .int .i64 0, .int .i64 0, .int .i64 0, .int .i64 0, .int .i64 0, .int .i64 0, .int .i64 0, .int .i64 0, .int .i64 0, .int .i64 0, .int .i64 0, .int .i64 0, .int .i64 0, .int .i64 0, .int .i64 0, .int .i64 0, .int .i64 0, .int .i64 0, .int .i64 0, .int .i64 0, .int .i64 0, .int .i64 0, .int .i64 0, .int .i64 0, .int .i64 0, .int .i64 0, .int .i64 0, .int .i64 0, .int .i64 0, .int .i64 0, .int .i64 0, .int .i64 0, .int .i64 0, .int .i64 0, .int .i64 0, .int .i64 0, .int .i64 0]) (k := w.heap.size + 1 + 1) (by simp)).alloc _)
  have b3 : Has ((((w.alloc (.cells #[.slice A N c] 32)).alloc (.cells #[.func (.func kf) #[] cap] 87)).alloc (.cells #[.int .i64 0, .int .i64 0, .int .i64 0, .int .i64 0, .int .i64 0, .int .i64 0, .int .i64 0, .int .i64 0, .int .i64 0, .int .i64 0, .int .i64 0, .int .i64 0, .int .i64 0, .int .i64 0, .int .i64 0, .int .i64 0, .int .i64 0, .int .i64 0, .int .i64 0, .int .i64 0, .int .i64 0, .int .i64 0, .int .i64 0, .int .i64 0, .int .i64 0, .int .i64 0, .int .i64 0, .int .i64 0, .int .i64 0, .int .i64 0, .int .i64 0, .int .i64 0, .int .i64 0, .int .i64 0, .int .i64 0, .int .i64 0, .int .i64 0, .int .i64 0, .int .i64 0, .int .i64 0, .int .i64 0, .int .i64 0, .int .i64 0, .int .i64 0, .int .i64 0, .int .i64 0, .int .i64 0, .int .i64 0, .int .i64 0, .int .i64 0, .int .i64 0, .int .i64 0, .int .i64 0, .int .i64 0, .int .i64 0, .int .i64 0, .int .i64 0, .int .i64 0, .int .i64 0, .int .i64 0, .int .i64 0, .int .i64 0, .int .i64 0, .int .i64 0] 109)).alloc (.cells #[.int .i64 0, .int .i64 0, .int .i64 0, .int .i64 0, .int .i64 0, .int .i64 0, .int .i64 0, .int .i64 0, .int .i64 0, .int .i64 0, .int .i64 0, .int .i64 0, .int .i64 0, .int .i64 0, .int .i64 0, .int .i64 0, .int .i64 0, .int .i64 0, .int .i64 0, .int .i64 0, .int .i64 0, .int .i64 0, .int .i64 0, .int .i64 0, .int .i64 0, .int .i64 0, .int .i64 0, .int .i64 0, .int .i64 0, .int .i64 0, .int .i64 0, .int .i64 0, .int .i64 0, .int .i64 0, .int .i64 0, .int .i64 0, .int .i64 0, .int .i64 0, .int .i64 0, .int .i64 0, .int .i64 0, .int .i64 0, .int .i64 0, .int .i64 0, .int .i64 0, .int .i64 0, .int .i64 0, .int .i64 0, .int .i64 0, .int .i64 0, .int .i64 0, .int .i64 0, .int .i64 0, .int .i64 0, .int .i64 0, .int .i64 0, .int .i64 0, .int .i64 0, .int .i64 0, .int .i64 0, .int .i64 0, .int .i64 0, .int .i64 0, .int .i64 0] 109)) (w.heap.size + 1 + 1 + 1) 109 #[.int .i64 0, .int .i64 0, .int .i64 0, .int .i64 0, .int .i64 0, .int .i64 0, .int .i64 0, .int .i64 0, .int .i64 0, .int .i64 0, .int .i64 0, .int .i64 0, .int .i64 0, .int .i64 0, .int .i64 0, .int .i64 0, .int .i64 0, .int .i64 0, .int .i64 0, .int .i64 0, .int .i64 0, .int .i64 0, .int .i64 0, .int .i64 0, .int .i64 0, .int .i64 0, .int .i64 0, .int .i64 0, .int .i64 0, .int .i64 0, .int .i64 0, .int .i64 0, .int .i64 0, .int .i64 0, .int .i64 0, .int .i64 0, .int .i64 0, .int .i64 0, .int .i64 0, .int .i64 0, .int .i64 0, .int .i64 0, .int .i64 0, .int .i64 0, .int .i64 0, .int .i64 0, .int .i64 0, .int .i64 0, .int .i64 0, .int .i64 0, .int .i64 0, .int .i64 0, .int .i64 0, .int .i64 0, .int .i64 0, .int .i64 0, .int .i64 0, .int .i64 0, .int .i64 0, .int .i64 0, .int .i64 0, .int .i64 0, .int .i64 0, .int .i64 0] := (Has.newAt (w := (((w.alloc (.cells #[.slice A N c] 32)).alloc (.cells #[.func (.func kf) #[] cap] 87)).alloc (.cells #[.int .i64 0, .int .i64 0, .int .i64 0, .int .i64 0, .int .i64 0, .int .i64 0, .int .i64 0, .int .i64 0, .int .i64 0, .int .i64 0, .int .i64 0, .int .i64 0, .int .i64 0, .int .i64 0, .int .i64 0, .int .i64 0, .int .i64 0, .int .i64 0, .int .i64 0, .int .i64 0, .int .i64 0, .int .i64 0, .int .i64 0, .int .i64 0, .int .i64 0, .int .i64 0, .int .i64 0, .int .i64 0, .int .i64 0, .int .i64 0, .int .i64 0, .int .i64 0, .int .i64 0, .int .i64 0, .int .i64 0, .int .i64 0, .int .i64 0, .int .i64 0, .int .i64 0, .int .i64 0, .int .i64 0, .int .i64 0, .int .i64 0, .int .i64 0, .int .i64 0, .int .i64 0, .int .i64 0, .int .i64 0, .int .i64 0, .int .i64 0, .int .i64 0, .int .i64 0, .int .i64 0, .int .i64 0, .int .i64 0, .int .i64 0, .int .i64 0, .int .i64 0, .int .i64 0, .int .i64 0, .int .i64 0, .int .i64 0, .int .i64 0, .int .i64 0] 109))) (e := 109) (cs := #[.int .i64 0, .int .i64 0, .int .i64 0, .int .i64 0, .int .i64 0, .int .i64 0, .int .i64 0, .int .i64 0, .int .i64 0, .int .i64 0, .int .i64 0, .int .i64 0, .int .i64 0, .int .i64 0, .int .i64 0, .int .i64 0, .int .i64 0, .int .i64 0, .int .i64 0, .int .i64 0, .int .i64 0, .int .i64 0, .int .i64 0, .int .i64 0, .int .i64 0, .int .i64 0, .int .i64 0, .int .i64 0, .int .i64 0, .int .i64 0, .int .i64 0, .int .i64 0, .int .i64 0, .int .i64 0, .int .i64 0, .int .i64 0, .int .i64 0, .int .i64 0, .int .i64 0, .int .i64 0, .int .i64 0, .int .i64 0, .int .i64 0, .int .i64 0, .int .i64 0, .int .i64 0, .int .i64 0, .int .i64 0, .int .i64 0, .int .i64 0, .int .i64 0, .int .i64 0, .int .i64 0, .int .i64 0, .int .i64 0, .int .i64 0, .int .i64 0, .int .i64 0, .int .i64 0, .int .i64 0, .int .i64 0, .int .i64 0, .int .i64 0, .int .i64 0]) (k := w.heap.size + 1 + 1 + 1) (by simp))
  have hsz : ((((w.alloc (.cells #[.slice A N c] 32)).alloc (.cells #[.func (.func kf) #[] cap] 87)).alloc (.cells #[.int .i64 0, .int .i64 0, .int .i64 0, .int .i64 0, .int .i64 0, .int .i64 0, .int .i64 0, .int .i64 0, .int .i64 0, .int .i64 0, .int .i64 0, .int .i64 0, .int .i64 0, .int .i64 0, .int .i64 0, .int .i64 0, .int .i64 0, .int .i64 0, .int .i64 0, .int .i64 0, .int .i64 0, .int .i64 0, .int .i64 0, .int .i64 0, .int .i64 0, .int .i64 0, .int .i64 0, .int .i64 0, .int .i64 0, .int .i64 0, .int .i64 0, .int .i64 0, .int .i64 0, .int .i64 0, .int .i64 0, .int .i64 0, .int .i64 0, .int .i64 0, .int .i64 0, .int .i64 0, .int .i64 0, .int .i64 0, .int .i64 0, .int .i64 0, .int .i64 0, .int .i64 0, .int .i64 0, .int .i64 0, .int .i64 0, .int .i64 0, .int .i64 0, .int .i64 0, .int .i64 0, .int .i64 0, .int .i64 0, .int .i64 0, .int .i64 0, .int .i64 0, .int .i64 0, .int .i64 0, .int .i64 0, .int .i64 0, .int .i64 0, .int .i64 0] 109)).alloc (.cells #[.int .i64 0, .int .i64 0, .int .i64 0, .int .i64 0, .int .i64 0, .int .i64 0, .int .i64 0, .int .i64 0, .int .i64 0, .int .i64 0, .int .i64 0, .int .i64 0, .int .i64 0, .int .i64 0, .int .i64 0, .int .i64 0, .int .i64 0, .int .i64 0, .int .i64 0, .int .i64 0, .int .i64 0, .int .i64 0, .int .i64 0, .int .i64 0, .int .i64 0, .int .i64 0, .int .i64 0, .int .i64 0, .int .i64 0, .int .i64 0, .int .i64 0, .int .i64 0, .int .i64 0, .int .i64 0, .int .i64 0, .int .i64 0, .int .i64 0, .int .i64 0, .int .i64 0, .int .i64 0, .int .i64 0, .int .i64 0, .int .i64 0, .int .i64 0, .int .i64 0, .int .i64 0, .int .i64 0, .int .i64 0, .int .i64 0, .int .i64 0, .int .i64 0, .int .i64 0, .int .i64 0, .int .i64 0, .int .i64 0, .int .i64 0, .int .i64 0, .int .i64 0, .int .i64 0, .int .i64 0, .int .i64 0, .int .i64 0, .int .i64 0, .int .i64 0] 109)).heap.size = w.heap.size + 1 + 1 + 1 + 1 := by simp
  have c0 := b0.cell 0
  refine (callsIn_wide (n := 20)).1 ?_
  refine callsIn_of_wp_marks Tryz.func107 rfl trivial ?_ rfl
  simp only [Tryz.ntmps107, List.size_toArray, List.length_cons, List.length_nil, Nat.reduceAdd, Nat.reduceSub, Array.replicate_succ, Array.replicate_zero, List.push_toArray, List.append_toArray, List.nil_append, List.cons_append]
  refine wpIn_wide.2 ?_
  go_wp2_with fail
  refine (elementsOf_any A N c _).mono ?_
  rintro e w' ⟨rfl, rfl⟩
  generalize ((((w.alloc (.cells #[.slice A N c] 32)).alloc (.cells #[.func (.func kf) #[] cap] 87)).alloc (.cells #[.int .i64 0, .int .i64 0, .int .i64 0, .int .i64 0, .int .i64 0, .int .i64 0, .int .i64 0, .int .i64 0, .int .i64 0, .int .i64 0, .int .i64 0, .int .i64 0, .int .i64 0, .int .i64 0, .int .i64 0, .int .i64 0, .int .i64 0, .int .i64 0, .int .i64 0, .int .i64 0, .int .i64 0, .int .i64 0, .int .i64 0, .int .i64 0, .int .i64 0, .int .i64 0, .int .i64 0, .int .i64 0, .int .i64 0, .int .i64 0, .int .i64 0, .int .i64 0, .int .i64 0, .int .i64 0, .int .i64 0, .int .i64 0, .int .i64 0, .int .i64 0, .int .i64 0, .int .i64 0, .int .i64 0, .int .i64 0, .int .i64 0, .int .i64 0, .int .i64 0, .int .i64 0, .int .i64 0, .int .i64 0, .int .i64 0, .int .i64 0, .int .i64 0, .int .i64 0, .int .i64 0, .int .i64 0, .int .i64 0, .int .i64 0, .int .i64 0, .int .i64 0, .int .i64 0, .int .i64 0, .int .i64 0, .int .i64 0, .int .i64 0, .int .i64 0] 109)).alloc (.cells #[.int .i64 0, .int .i64 0, .int .i64 0, .int .i64 0, .int .i64 0, .int .i64 0, .int .i64 0, .int .i64 0, .int .i64 0, .int .i64 0, .int .i64 0, .int .i64 0, .int .i64 0, .int .i64 0, .int .i64 0, .int .i64 0, .int .i64 0, .int .i64 0, .int .i64 0, .int .i64 0, .int .i64 0, .int .i64 0, .int .i64 0, .int .i64 0, .int .i64 0, .int .i64 0, .int .i64 0, .int .i64 0, .int .i64 0, .int .i64 0, .int .i64 0, .int .i64 0, .int .i64 0, .int .i64 0, .int .i64 0, .int .i64 0, .int .i64 0, .int .i64 0, .int .i64 0, .int .i64 0, .int .i64 0, .int .i64 0, .int .i64 0, .int .i64 0, .int .i64 0, .int .i64 0, .int .i64 0, .int .i64 0, .int .i64 0, .int .i64 0, .int .i64 0, .int .i64 0, .int .i64 0, .int .i64 0, .int .i64 0, .int .i64 0, .int .i64 0, .int .i64 0, .int .i64 0, .int .i64 0, .int .i64 0, .int .i64 0, .int .i64 0, .int .i64 0] 109)) = W3 at *
  obtain ⟨p, hp⟩ : ∃ p, w.heap.size = p := ⟨_, rfl⟩
  rw [hp] at hsz b0 b1 b2 b3
  simp only [hsz, hp]
  rw [sqZ] at b2 b3
  obtain ⟨W4, hW4⟩ : ∃ W4, W3.alloc (.cells #[.slice A N c] 32) = W4 := ⟨_, rfl⟩
  have ea := Ex.new W3 (.cells #[.slice A N c] 32)
  have bG := b0.ex ea
  have bF := b1.ex ea
  have bR := b2.ex ea
  have bS := b3.ex ea
  have bE : Has (W3.alloc (.cells #[.slice A N c] 32)) (p + 1 + 1 + 1 + 1) 32 #[.slice A N c] := Has.newAt hsz
  have HE3 := Lib.hid (e0.trans ea)
  have hsz4 : (W3.alloc (.cells #[.slice A N c] 32)).heap.size = p + 1 + 1 + 1 + 1 + 1 := by simp [hsz]
  rw [hW4] at bG bF bR bS bE HE3 hsz4 ⊢
  have HP := Lib.hid hp
  clear b0 b1 b2 b3 e0 ea hW4 hsz c0 hp
  go_wp2_with fail
  have HBF := Lib.hid bF
  have HBR := Lib.hid bR
  clear bF bR
  refine (wpIn_wide (n := 20)).1 ?_
  refine range_topB (n := 20) (n₀ := p + 1 + 1 + 1) (by omega) (gf := 109) (lb := #[.pointer (some ⟨p + 1 + 1 + 1 + 1, 0, none⟩)]) rfl (enters_of Tryz.func109 (by kernel_rfl) rfl)
    (elements_stops 19 (by omega) (p + 1 + 1 + 1 + 1) (p + 1 + 1 + 1) N c _ W4 (by omega) (bE.cell 0) (by omega)) (by omega) (fun _ => rfl) 2 (fun x => .int .i64 (x.1 : Int))
    (fun pre W => Has W (p + 1 + 1 + 1) 109 (tabP 64 (mqR pre) fun p => V (p / 8) (p % 8)))
    (fun c' _ W => False)
    (Own.from (has_own _ _ _) _)
    (fun _ => ownFrom_pure _ _)
    (by rw [tabP_none (fun p _ => mqR_nil p)]; exact bS) ?round ?done ?stop
  case stop =>
    rintro D' c' pre W hD' hpre h
    exact h.elim
  case done =>
    rintro D' xs W hD' hxs hA hKW hK
    rw [hxs, sqA_of] at hA
    have hB2 : Has W (p + 1 + 1) 109 (tab 64 fun _ => .int .i64 0) := HBR.out.below hKW.1 (by omega)
    have HKW := Lib.hid hKW
    have HB2 := Lib.hid hB2
    have HA := Lib.hid hA
    have HKD := Lib.hid hK
    clear bG bS bE hA hKW hB2 hK
    simp only [Exit.inBlock, Exit.then]
    go_wp2_with (first | (refine wpList_load_row rfl 109 _ rfl (p + 1 + 1 + 1) rfl 109 (sqA N V) (0, 0) _ HA.out Tryz.underlying109 rfl (by rw [sqA_size]; exact infoSq) ?_) | (refine wpList_store_row rfl 109 _ _ rfl (p + 1 + 1) (sqA N V) rfl rfl 109 _ HB2.out (by rw [sqA_size]; exact infoSq) (by rw [sqA_size, tab_size]) (sqA_cells N V) ?_))
    have hne : p + 1 + 1 ≠ D' := by intro e; have h1 := HB2.out; have h2 := HKD.out; rw [← e, show W.heap[p + 1 + 1]? = _ from h1] at h2; cases h2
    have hK' : (W.setRow (p + 1 + 1) (sqA N V)).heap[D']? = some (.deferred (some [])) := (setRow_other W (p + 1 + 1) D' _ (fun e => hne e.symm)).trans HKD.out
    refine ⟨by simp, .inl ⟨_, _, rfl, run_takeDeferred hK', ?_⟩⟩
    have hRs : Has (W.setRow (p + 1 + 1) (sqA N V)) (p + 1 + 1) 109 (sqA N V) := HB2.out.row_set
    have hEs : Ex w (W.setRow (p + 1 + 1) (sqA N V)) := (HE3.out.trans' HKW.out.1 (by have := HP.out; omega)).row (by have := HP.out; omega) _
    generalize (W.setRow (p + 1 + 1) (sqA N V)) = Ws at *
    have hg8 := grownBy_putObj' Ws D' (.deferred none)
    have hr8 : ∀ r, some D' = some r → ∃ o : Obj, Ws.heap[r]? = some o ∧ o.isCells = false := fun r e => by cases e; exact ⟨_, hK', rfl⟩
    have hR8 := hRs.grownR hg8 hr8
    refine ⟨.agg (sqA N V), results_cell_row Tryz.results107 _ _ (p + 1 + 1) 109 (sqA N V) (0, 0) _ rfl hR8 Tryz.underlying109 rfl (by rw [sqA_size]; exact infoSq), rfl, Below.grown hEs hg8 hEs.size (fun k hk => by cases hk; have := HP.out; omega)⟩
  case round =>
    clear bS bE
    intro l x W K hK
    have HK := Lib.hid hK
    clear hK
    gi_wp2
    refine HK.out _ ?_
    clear HK
    rintro l B1 pre W1 hB1 hle1 hr hA hKW bX _
    rw [hB1]
    clear hB1
    obtain ⟨a, ha⟩ := x
    dsimp only at bX
    have HKW := Lib.hid hKW
    have HR := Lib.hid hr
    have hgW : Has W1 p 32 #[.slice A N c] := bG.below hKW.1 (by omega)
    have hcg := hgW.cell 0
    clear hKW hr
    gi_wp2_with (refine ⟨trivial, ?_⟩; gi_at_call 74; refine (CallsIn.inRound l (callsIn_wide.2 (elementsOf_any A N c _))).mono ?_; rintro e w' ⟨rfl, rfl⟩)
    clear hcg hgW
    have eA := Ex.new W1 (.cells #[.slice A N c] 32)
    have bA := hA.ex eA
    have bX2 : Has (W1.alloc (.cells #[.slice A N c] 32)) B1 2 #[.int .i64 (a : Int)] := Has.alloc bX _
    have bE := Has.new W1 32 #[.slice A N c]
    have hK1 : Keeps (p + 1 + 1 + 1) W1 (W1.alloc (.cells #[.slice A N c] 32)) := (Keeps.refl _ _).alloc (by have := hA.lt; omega) _
    have hszA : (W1.alloc (.cells #[.slice A N c] 32)).heap.size = W1.heap.size + 1 := by simp
    have hrA : ∃ r, (W1.alloc (.cells #[.slice A N c] 32)).heap[l]? = some (.loop r) := by
      obtain ⟨r, hr⟩ := HR.out
      exact ⟨r, (Below.heap_alloc W1 _ l (Array.getElem?_eq_some_iff.1 hr).1).trans hr⟩
    have hltA := hA.lt
    have hneD : B1 ≠ p + 1 + 1 + 1 := by omega
    clear hA bX eA bG
    obtain ⟨W2, hW2⟩ : ∃ W2, W1.alloc (.cells #[.slice A N c] 32) = W2 := ⟨_, rfl⟩
    rw [hW2] at bA bX2 bE hK1 hszA hrA ⊢
    clear hW2
    have HK1 := Lib.hid hK1
    have hE2 : Ex w W2 := HE3.out.trans' (HKW.out.1.trans hK1.1) (by have := HP.out; omega)
    refine range_in (n := 20 - 1 - 1) (n₀ := p + 1 + 1 + 1) (by omega) hrA (gf := 109) (lb := #[.pointer (some ⟨W1.heap.size, 0, none⟩)]) rfl (enters_of Tryz.func109 (by kernel_rfl) rfl)
      (elements_stops (20 - 1 - 1 - 1) (by omega) W1.heap.size (p + 1 + 1 + 1) N c _ W2 (by omega) (bE.cell 0) (by omega)) (by omega) (fun _ => rfl)
      (fun pre2 W => Has W (p + 1 + 1 + 1) 109 (tabP 64 (mqC pre a pre2) fun p => V (p / 8) (p % 8)) ∧ Has W B1 2 #[.int .i64 (a : Int)])
      (fun c' _ W => False)
      (OwnFrom.and (Own.from (has_own _ _ _) _) (Own.from (has_own _ _ _) _))
      (fun _ => ownFrom_pure _ _)
      ⟨by rw [tabP_congr (fun p _ => mqC_nil pre a p)]; exact bA, bX2⟩ ?round2 ?done2 ?stop2
    case done2 =>
      rintro ys W hys ⟨bM2, _⟩ hKW2
      rw [hys, tabP_congr (fun p _ => mqC_all pre a ha p)] at bM2
      gi_wp2
      exact ⟨HK1.out.trans hKW2, bM2⟩
    case stop2 =>
      rintro c' pre' W hpre h
      exact h.elim
    case round2 =>
      clear bA bX2 bE hK1 hszA hrA
      have HE2 := Lib.hid hE2
      clear hE2
      intro l2 y W K hK
      have HK := Lib.hid hK
      clear hK
      gi_wp2
      refine HK.out _ ?_
      clear HK
      rintro l2 pre2 W3' hr2 ⟨bM2, bX3⟩ hKW2 _
      obtain ⟨b, hb⟩ := y
      dsimp only
      have hE3 : Ex w W3' := HE2.out.trans' hKW2.1 (by have := HP.out; omega)
      have hF3 : Has W3' (p + 1) 87 #[.func (.func kf) #[] cap] := (HBF.out.below HKW.out.1 (by omega)).below (HK1.out.1.trans hKW2.1) (by omega)
      obtain ⟨s, hs⟩ : ∃ s, a * 8 = s := ⟨_, rfl⟩
      have hplace : s + b < 64 := by omega
      have HPT := Lib.hid (tabP_put (S := mqC pre a pre2) (f := fun p => V (p / 8) (p % 8)) hplace)
      obtain ⟨u, hu⟩ : ∃ u, V a b = u := ⟨_, rfl⟩
      have hfu : V ((s + b) / 8) ((s + b) % 8) = u := by rw [show (s + b) / 8 = a by omega, show (s + b) % 8 = b by omega, hu]
      have HCG := Lib.hid (tabP_congr (n := 64) (f := fun p => V (p / 8) (p % 8)) (fun p _ => hs ▸ mqC_snoc pre pre2 a b hb hN p))
      rw [hfu, HCG.out] at HPT
      have HC := Lib.hid (hu ▸ HF.out W3'.drew hE3.drew a b ha hb)
      obtain ⟨v0, hv0⟩ := tabP_get (S := mqC pre a pre2) (f := fun p => V (p / 8) (p % 8)) hplace
      have HV0 := Lib.hid hv0
      have HBM := Lib.hid bM2
      have HBX := Lib.hid bX3
      have HBF3 := Lib.hid hF3
      have HZ := Lib.hid (show p + 1 + 1 + 1 ≤ W3'.heap.size by have := bM2.lt; omega)
      have hC0 : (fun w' : World => w'.cell? ⟨B1, 0, none⟩ = some (.int .i64 (a : Int)) ∧ w'.cell? ⟨p + 1, 0, none⟩ = some (.func (.func kf) #[] cap)) W3'.drew := ⟨bX3.cell 0, hF3.cell 0⟩
      have ha0 : (0 : Int) ≤ (a : Int) := by omega
      have haN : (a : Int) < (8 : Int) := by omega
      have hb0 : (0 : Int) ≤ (b : Int) := by omega
      have hbN : (b : Int) < (8 : Int) := by omega
      have HSA := Lib.hid hs
      clear bM2 bX3 hKW2 hE3 hF3 hu hfu HCG hv0 hplace hs
      gi_wp2_with fail
      refine Late.round (C := fun w' : World => w'.cell? ⟨B1, 0, none⟩ = some (.int .i64 (a : Int)) ∧ w'.cell? ⟨p + 1, 0, none⟩ = some (.func (.func kf) #[] cap))
        (fun _ => true) (by kernel_rfl) (by rfl) (by rintro ⟨_, _, h⟩; exact h) hC0 ?_
      intro hS
      refine Late.take (i := 0) (oi := _) (v := ?_) rfl (by kernel_rfl) (by kernel_rfl) (by kernel_rfl) (by kernel_rfl) (fun _ _ _ h => h) (Or.inl ⟨by rfl, ?_⟩) hS ?_
      rotate_left
      · (intro w hSw; (try dsimp only at hSw); go_simp; first | done | with_reducible rfl)
      simp only [Act.put]
      refine Late.take (i := 1) (oi := _) (v := ?_) rfl (by kernel_rfl) (by kernel_rfl) (by kernel_rfl) (by kernel_rfl) (fun _ _ _ h => h) (Or.inl ⟨by rfl, ?_⟩) hS ?_
      rotate_left
      · (intro w hSw; (try dsimp only at hSw); go_simp; first | done | with_reducible rfl)
      simp only [Act.put]
      refine Late.take (i := 2) (oi := _) (v := ?_) rfl (by kernel_rfl) (by kernel_rfl) (by kernel_rfl) (by kernel_rfl) (fun _ _ _ h => h) (Or.inl ⟨by rfl, ?_⟩) hS ?_
      rotate_left
      · (intro w hSw; (try dsimp only at hSw); go_simp; first | done | with_reducible rfl)
      simp only [Act.put]
      refine Late.take (i := 3) (oi := _) (v := ?_) rfl (by kernel_rfl) (by kernel_rfl) (by kernel_rfl) (by kernel_rfl) (fun _ _ _ h => h) (Or.inl ⟨by rfl, ?_⟩) hS ?_
      rotate_left
      · (intro w hSw; (try dsimp only at hSw); go_simp; first | done | with_reducible rfl)
      simp only [Act.put]
      refine Late.take (i := 4) (oi := _) (v := ?_) rfl (by kernel_rfl) (by kernel_rfl) (by kernel_rfl) (by kernel_rfl) (fun _ _ _ h => h) (Or.inl ⟨by rfl, ?_⟩) hS ?_
      rotate_left
      · (intro w hSw; (try dsimp only at hSw); go_simp; first | done | with_reducible rfl)
      simp only [Act.put]
      refine Late.take (i := 6) (oi := _) (v := ?_) rfl (by kernel_rfl) (by kernel_rfl) (by kernel_rfl) (by kernel_rfl) (fun _ _ _ h => h) (Or.inl ⟨by rfl, ?_⟩) hS ?_
      rotate_left
      · (intro w hSw; (try dsimp only at hSw); go_simp; first | done | with_reducible rfl)
      simp only [Act.put]
      refine Late.one (i := 5) (o := _) (by kernel_rfl) rfl (fun K' hK' => ?_)
      rw [if_pos (by rfl)]
      have hegw := HEG.out
      go_simp
      clear hegw
      refine HC.out.mono ?_
      rintro e6 W6 ⟨rfl, he6⟩
      have hx6 : Ex W3' W6 := (Ex.refl W3').drew.trans he6
      have hM6 := HBM.out.ex hx6
      have hX6 := HBX.out.ex hx6
      have hF6 := HBF3.out.ex hx6
      have hC6 := And.intro (hX6.cell 0) (hF6.cell 0)
      have hcell := hM6.cell (s + b)
      rw [HV0.out, ← HSA.out] at hcell
      have hfree := hM6.free (a * 8 + b)
      refine hK'.out _ _ (fun _ => hC6) (fun _ => ?_)
      clear hK' K'
      try simp only [Act.put, List.setIfInBounds_toArray, List.set_cons_zero, List.set_cons_succ]
      refine Late.take (i := 7) (oi := _) (v := ?_) rfl (by kernel_rfl) (by kernel_rfl) (by kernel_rfl) (by kernel_rfl) (fun _ _ _ h => h) (Or.inl ⟨by rfl, ?_⟩) hC6 ?_
      rotate_left
      · (intro w hSw; (try dsimp only at hSw); go_simp; first | done | with_reducible rfl)
      simp only [Act.put]
      refine Late.one (i := 8) (o := _) (by kernel_rfl) rfl (fun K' hK' => ?_)
      go_simp
      refine hK'.out _ _ (fun _ => And.intro ((hX6.far (p := ⟨p + 1 + 1 + 1, a * 8 + b, none⟩) hneD _).cell 0) ((hF6.far (p := ⟨p + 1 + 1 + 1, a * 8 + b, none⟩) (by show p + 1 ≠ p + 1 + 1 + 1; omega) _).cell 0)) (fun _ => ?_)
      clear hK' K'
      refine Late.done (by kernel_rfl) ?_ _
      have hM7 := hM6.put (s + b) (.int .i64 u)
      rw [HPT.out] at hM7
      rw [HSA.out]
      exact ⟨(Keeps.of_below hx6 HZ.out).setCell (p := ⟨p + 1 + 1 + 1, s + b, none⟩) (Nat.le_refl _) _, hM7, hX6.far (p := ⟨p + 1 + 1 + 1, s + b, none⟩) hneD _⟩

end Go.Proofs.YtcdijeeabgmgmaaGreatDoor
