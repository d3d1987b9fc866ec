/- Two boxes for results that a region makes and fills, in whatever order. -/
import Derived.Test.YtalejhbdbclfaaaDoorExv
import Derived.Test.YtalejhbdbclfaaaDoorUp
namespace Go.Proofs.YtalejhbdbclfaaaDoor
open Go.RowKit

theorem bt_ne {d : Array Bool} {j i : Nat} (h : i ≠ j) : (d.setIfInBounds j true).getD i true = d.getD i true := by rw [bt_set]; simp [h]
theorem bt_self {d : Array Bool} {j : Nat} : (d.setIfInBounds j true).getD j true = true := by rw [bt_set]; simp
theorem bt_keep {d : Array Bool} {j i : Nat} (h : d.getD i true = true) : (d.setIfInBounds j true).getD i true = true := by rw [bt_set, h]; rfl
theorem bt_no {d : Array Bool} {j i : Nat} (h : (d.setIfInBounds j true).getD i true = false) : d.getD i true = false := by
  rw [bt_set, Bool.or_eq_false_iff] at h
  exact h.1

/-- What calls and far stores keep. -/
structure Kept (P : World → Nat → Nat → Prop) : Prop where
  ex : ∀ {w w' : World} {lo hi : Nat}, P w lo hi → Ex w w' → P w' lo hi
  off : ∀ {w w' : World} {lo hi D : Nat}, P w lo hi → Only D (D + 1) w w' → (D < lo ∨ hi ≤ D) → P w' lo hi
theorem Kept.ownL (A : Option Addr) (xs : List Int) : Kept fun w lo hi => OwnL w lo hi A xs := ⟨fun h k => h.ex k, fun h k hd => hd.elim (fun hd => h.above k hd) (fun hd => h.under k hd)⟩
theorem Kept.ownT (A : Option Addr) (t : List (List Int)) : Kept fun w lo hi => OwnT w lo hi A t := ⟨fun h k => h.ex k, fun h k hd => hd.elim (fun hd => h.above k hd) (fun hd => h.under k hd)⟩
theorem Kept.and {P Q : World → Nat → Nat → Prop} (h : Kept P) (k : Kept Q) : Kept fun w lo hi => P w lo hi ∧ Q w lo hi := ⟨fun a e => ⟨h.ex a.1 e, k.ex a.2 e⟩, fun a o d => ⟨h.off a.1 o d, k.off a.2 o d⟩⟩

/-- The two boxes: made, filled, and what the call between has given. -/
structure TwoR (base : Nat) (T0 T1 : TypeId) (z0 z1 c0 c1 : Array Value) (P : World → Nat → Nat → Prop) (bc b0 b1 f0 f1 : Bool) (s0 s1 : Value) (lo hi D E : Nat) (w : World) : Prop where
  box0 : b0 = true → s0 = .pointer (some ⟨D, 0, none⟩) ∧ base ≤ D ∧ Has w D T0 (cond f0 c0 z0) ∧ (bc = true → D < lo ∨ hi ≤ D)
  box1 : b1 = true → s1 = .pointer (some ⟨E, 0, none⟩) ∧ base ≤ E ∧ Has w E T1 (cond f1 c1 z1) ∧ (bc = true → E < lo ∨ hi ≤ E)
  ne : b0 = true → b1 = true → D ≠ E
  res : bc = true → P w lo hi ∧ hi ≤ w.heap.size
  st0 : f0 = true → bc = true ∧ b0 = true
  st1 : f1 = true → bc = true ∧ b1 = true

variable {base : Nat} {T0 T1 : TypeId} {z0 z1 c0 c1 c0' c1' : Array Value} {P P' : World → Nat → Nat → Prop} {bc b0 b1 f0 f1 : Bool} {s0 s1 : Value} {lo hi D E : Nat} {w w' : World}
theorem Has.keep1 {g b : Nat} {e : TypeId} {cs : Array Value} (h : Has w b e cs) (k : Only g (g + 1) w w') (hne : b ≠ g) : Has w' b e cs := by
  rcases Nat.lt_or_ge b g with hl | hg
  · exact h.under k hl
  · exact h.above k (by omega)
theorem TwoR.ex (h : TwoR base T0 T1 z0 z1 c0 c1 P bc b0 b1 f0 f1 s0 s1 lo hi D E w) (hP : Kept P) (k : Ex w w') : TwoR base T0 T1 z0 z1 c0 c1 P bc b0 b1 f0 f1 s0 s1 lo hi D E w' where
  box0 hb := ⟨(h.box0 hb).1, (h.box0 hb).2.1, (h.box0 hb).2.2.1.ex k, (h.box0 hb).2.2.2⟩
  box1 hb := ⟨(h.box1 hb).1, (h.box1 hb).2.1, (h.box1 hb).2.2.1.ex k, (h.box1 hb).2.2.2⟩
  ne := h.ne
  res hb := ⟨hP.ex (h.res hb).1 k, Nat.le_trans (h.res hb).2 k.size⟩
  st0 := h.st0
  st1 := h.st1
theorem TwoR.call (h : TwoR base T0 T1 z0 z1 c0 c1 P false b0 b1 f0 f1 s0 s1 lo hi D E w) (k : Ex w w') (hP : P' w' w.heap.size w'.heap.size) : TwoR base T0 T1 z0 z1 c0' c1' P' true b0 b1 f0 f1 s0 s1 w.heap.size w'.heap.size D E w' := by
  have e0 : f0 = false := by cases hf : f0 with | false => rfl | true => exact absurd (h.st0 hf).1 (by decide)
  have e1 : f1 = false := by cases hf : f1 with | false => rfl | true => exact absurd (h.st1 hf).1 (by decide)
  subst e0
  subst e1
  exact ⟨fun hb => ⟨(h.box0 hb).1, (h.box0 hb).2.1, (h.box0 hb).2.2.1.ex k, fun _ => .inl (h.box0 hb).2.2.1.lt⟩, fun hb => ⟨(h.box1 hb).1, (h.box1 hb).2.1, (h.box1 hb).2.2.1.ex k, fun _ => .inl (h.box1 hb).2.2.1.lt⟩, h.ne, fun _ => ⟨hP, Nat.le_refl _⟩, fun hf => (by cases hf), fun hf => (by cases hf)⟩
theorem TwoR.alloc0 (h : TwoR base T0 T1 z0 z1 c0 c1 P bc false b1 f0 f1 s0 s1 lo hi D E w) (hP : Kept P) (hs : base ≤ w.heap.size) : TwoR base T0 T1 z0 z1 c0 c1 P bc true b1 f0 f1 (.pointer (some ⟨w.heap.size, 0, none⟩)) s1 lo hi w.heap.size E (w.alloc (.cells z0 T0)) := by
  have e0 : f0 = false := by cases hf : f0 with | false => rfl | true => exact absurd (h.st0 hf).2 (by decide)
  subst e0
  exact ⟨fun _ => ⟨rfl, hs, Has.new _ _ _, fun hb => .inr (h.res hb).2⟩, fun hb => ⟨(h.box1 hb).1, (h.box1 hb).2.1, (h.box1 hb).2.2.1.alloc _, (h.box1 hb).2.2.2⟩, fun _ hb => by have := (h.box1 hb).2.2.1.lt; omega, fun hb => ⟨hP.ex (h.res hb).1 (Ex.new _ _), Nat.le_trans (h.res hb).2 (Ex.new _ _).size⟩, fun hf => (by cases hf), h.st1⟩
theorem TwoR.alloc1 (h : TwoR base T0 T1 z0 z1 c0 c1 P bc b0 false f0 f1 s0 s1 lo hi D E w) (hP : Kept P) (hs : base ≤ w.heap.size) : TwoR base T0 T1 z0 z1 c0 c1 P bc b0 true f0 f1 s0 (.pointer (some ⟨w.heap.size, 0, none⟩)) lo hi D w.heap.size (w.alloc (.cells z1 T1)) := by
  have e0 : f1 = false := by cases hf : f1 with | false => rfl | true => exact absurd (h.st1 hf).2 (by decide)
  subst e0
  exact ⟨fun hb => ⟨(h.box0 hb).1, (h.box0 hb).2.1, (h.box0 hb).2.2.1.alloc _, (h.box0 hb).2.2.2⟩, fun _ => ⟨rfl, hs, Has.new _ _ _, fun hb => .inr (h.res hb).2⟩, fun hb _ => by have := (h.box0 hb).2.2.1.lt; omega, fun hb => ⟨hP.ex (h.res hb).1 (Ex.new _ _), Nat.le_trans (h.res hb).2 (Ex.new _ _).size⟩, h.st0, fun hf => (by cases hf)⟩
theorem TwoR.store0 (h : TwoR base T0 T1 z0 z1 c0 c1 P true true b1 f0 f1 s0 s1 lo hi D E w) (hP : Kept P) (k : Only D (D + 1) w w') (hH : Has w' D T0 c0) : TwoR base T0 T1 z0 z1 c0 c1 P true true b1 true f1 s0 s1 lo hi D E w' :=
  ⟨fun _ => ⟨(h.box0 rfl).1, (h.box0 rfl).2.1, hH, (h.box0 rfl).2.2.2⟩, fun hb => ⟨(h.box1 hb).1, (h.box1 hb).2.1, (h.box1 hb).2.2.1.keep1 k (fun e => h.ne rfl hb e.symm), (h.box1 hb).2.2.2⟩, h.ne, fun _ => ⟨hP.off (h.res rfl).1 k ((h.box0 rfl).2.2.2 rfl), Nat.le_trans (h.res rfl).2 k.size⟩, fun _ => ⟨rfl, rfl⟩, h.st1⟩
theorem TwoR.store1 (h : TwoR base T0 T1 z0 z1 c0 c1 P true b0 true f0 f1 s0 s1 lo hi D E w) (hP : Kept P) (k : Only E (E + 1) w w') (hH : Has w' E T1 c1) : TwoR base T0 T1 z0 z1 c0 c1 P true b0 true f0 true s0 s1 lo hi D E w' :=
  ⟨fun hb => ⟨(h.box0 hb).1, (h.box0 hb).2.1, (h.box0 hb).2.2.1.keep1 k (fun e => h.ne hb rfl e), (h.box0 hb).2.2.2⟩, fun _ => ⟨(h.box1 rfl).1, (h.box1 rfl).2.1, hH, (h.box1 rfl).2.2.2⟩, h.ne, fun _ => ⟨hP.off (h.res rfl).1 k ((h.box1 rfl).2.2.2 rfl), Nat.le_trans (h.res rfl).2 k.size⟩, h.st0, fun _ => ⟨rfl, rfl⟩⟩
theorem TwoR.start : TwoR base T0 T1 z0 z1 c0 c1 P false false false false false s0 s1 lo hi D E w := by
  constructor <;> intro h <;> cases h

end Go.Proofs.YtalejhbdbclfaaaDoor
