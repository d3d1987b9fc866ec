/- Inv Up Uz in one text. -/
import Derived.Orders
import Derived.Test.YtcdijeeabgmgmaaGreatDoorBa
import Derived.Test.YtcdijeeabgmgmaaGreatDoorExv
/- A region that draws its order, walked by a relation that each of its operations keeps, in whatever order they come: no order is told apart. -/
namespace Go.Proofs.YtcdijeeabgmgmaaGreatDoor
open Go.RowKit

/-- How many of the first n are not done. -/
def undone (n : Nat) (done : Array Bool) : Nat := (List.range n).countP fun j => !done.getD j true
theorem undone_set {n j : Nat} {done : Array Bool} (hj : j < n) (h : done.getD j true = false) : undone n (done.setIfInBounds j true) < undone n done := by
  unfold undone
  have hs : j < done.size := by
    rcases Nat.lt_or_ge j done.size with h' | h'
    · exact h'
    · simp [Array.getD, Nat.not_lt.2 h'] at h
  induction n with
  | zero => omega
  | succ n ih =>
    rw [List.range_succ, List.countP_append, List.countP_append]
    have hle : ∀ m, (List.range m).countP (fun i => !(done.setIfInBounds j true).getD i true) ≤ (List.range m).countP fun i => !done.getD i true := fun m => List.countP_mono_left fun i _ hi => by
      by_cases hij : j = i
      · subst hij
        simp [Array.getD, hs] at hi
      · rwa [getD_set_ne true hij] at hi
    by_cases hjn : j = n
    · subst hjn
      have h1 := hle j
      have h2 : [j].countP (fun i => !(done.setIfInBounds j true).getD i true) = 0 := by simp [Array.getD, hs]
      have h3 : [j].countP (fun i => !done.getD i true) = 1 := by rw [List.countP_singleton, h]; rfl
      omega
    · have h1 := ih (by omega)
      have h2 : [n].countP (fun i => !(done.setIfInBounds j true).getD i true) ≤ [n].countP fun i => !done.getD i true := List.countP_mono_left fun i _ hi => by
        by_cases hij : j = i
        · subst hij
          simp [Array.getD, hs] at hi
        · rwa [getD_set_ne true hij] at hi
      omega

section
variable {P : Program} {md : Region.Mode} {ops : Array Oper} {Q : Exit → Act → World → Prop} {S : Array Bool → Act → World → Prop}
theorem wpAny_inv (hstep : ∀ done a w j, S done a w → j < ops.size → j ∈ Region.ready md ops done → wpOp P ops Q j (S (done.setIfInBounds j true)) a w)
    (hend : ∀ done a w, S done a w → Region.ready md ops done = [] → Q .normal a w) : ∀ (k : Nat) (done : Array Bool) (a : Act) (w : World), S done a w → done.size = ops.size → undone ops.size done ≤ k → wpAny P md ops Q k done a w
  | 0, done, a, w, hS, hz, hk => by
    have hr : Region.ready md ops done = [] := by
      rw [List.eq_nil_iff_forall_not_mem]
      intro j hj
      obtain ⟨hu, oj, hoj, _⟩ := mem_ready.1 hj
      have := undone_set (n := ops.size) (Array.getElem?_eq_some_iff.1 hoj).1 hu
      omega
    exact ⟨hr, hend _ _ _ hS hr⟩
  | k + 1, done, a, w, hS, hz, hk => ⟨fun hr => hend _ _ _ hS hr, fun j hj => by
    obtain ⟨hu, oj, hoj, _⟩ := mem_ready.1 hj
    have hjs := (Array.getElem?_eq_some_iff.1 hoj).1
    have := undone_set (n := ops.size) hjs hu
    exact wpOp_mono (fun a' w' h' => wpAny_inv hstep hend k _ a' w' h' (by simpa using hz) (by omega)) (hstep done a w j hS hjs hj)⟩
theorem region_inv {id : Nat} {a : Act} {w : World} (S : Array Bool → Act → World → Prop) (hm : P.follows .mixedOrders = true) (h0 : S (Array.replicate ops.size false) a w.drew)
    (hstep : ∀ done a w j, S done a w → j < ops.size → j ∈ Region.ready .any ops done → wpOp P ops Q j (S (done.setIfInBounds j true)) a w)
    (hend : ∀ done a w, S done a w → Region.ready .any ops done = [] → Q .normal a w) : (Code.region id ops true).wp P Q a w :=
  wp_region_any hm (wpAny_inv hstep hend _ _ _ _ h0 (by simp) (by unfold undone; exact Nat.le_trans List.countP_le_length (by simp)))
end

end Go.Proofs.YtcdijeeabgmgmaaGreatDoor

/- A region that draws its order, from a point on, by a relation that each operation keeps: the order is told nowhere. -/
namespace Go.Proofs.YtcdijeeabgmgmaaGreatDoor
open Go.RowKit

theorem bt_set (d : Array Bool) (j i : Nat) : (d.setIfInBounds j true).getD i true = (d.getD i true || decide (i = j)) := by
  by_cases h : j = i
  · subst h
    rcases Nat.lt_or_ge j d.size with hs | hs
    · simp [Array.getD, hs]
    · simp [Array.getD, Nat.not_lt.2 hs]
  · rw [getD_set_ne true h]
    simp [Ne.symm h]
theorem bt_old {d : Array Bool} {j i : Nat} (h : (d.setIfInBounds j true).getD i true = true) (hne : i ≠ j) : d.getD i true = true := by
  rw [bt_set] at h
  simpa [hne] using h

theorem getD_io {d : Array Bool} {i : Nat} (h : i < d.size) (a b : Bool) : d.getD i a = d.getD i b := by
  unfold Array.getD
  rw [dif_pos h, dif_pos h]
/-- Does each operation wait for earlier ones alone? -/
def depB (md : Region.Mode) (ops : Array Oper) : Bool := (List.range ops.size).all fun j => match ops[j]? with
  | some o => o.after.toList.all fun e => !Region.binds md e || decide (e.on < j)
  | none => true
theorem depB_spec {md : Region.Mode} {ops : Array Oper} (h : depB md ops = true) {j : Nat} {o : Oper} (ho : ops[j]? = some o) {e : Edge} (he : e ∈ o.after) (hb : Region.binds md e = true) : e.on < j := by
  have h1 := List.all_eq_true.1 h j (List.mem_range.2 (Array.getElem?_eq_some_iff.1 ho).1)
  simp only [ho] at h1
  have h2 := List.all_eq_true.1 h1 e (Array.mem_toList_iff.2 he)
  simpa [hb] using h2
section
variable {P : Program} {md : Region.Mode} {ops : Array Oper} {Q : Exit → Act → World → Prop} {C : World → Prop} {need : Nat → Bool}
theorem ready_nil_all (hdep : depB md ops = true) {d : Array Bool} (hz : d.size = ops.size) (h : Region.ready md ops d = []) : ∀ j, j < ops.size → d.getD j true = true := by
  intro j
  induction j using Nat.strongRecOn with
  | ind j ih =>
    intro hj
    cases hd : d.getD j true with
    | true => rfl
    | false =>
      exfalso
      have hm : j ∈ Region.ready md ops d := mem_ready.2 ⟨hd, ops[j], Array.getElem?_eq_getElem hj, fun e he hb => by
        have h1 := depB_spec hdep (j := j) (o := ops[j]) (Array.getElem?_eq_getElem hj) he hb
        have h2 := ih e.on h1 (by omega)
        have h3 : e.on < d.size := by omega
        rw [getD_io h3 false true]
        exact h2⟩
      rw [h] at hm
      cases hm
theorem late_inv {SS : Act → Array Bool → Act → World → Prop} {a0 : Act} (hdep : depB md ops = true) (hC : ∀ d a w, SS a0 d a w → C w)
    (hstep : ∀ d a w, SS a0 d a w → ∀ j oj, ops[j]? = some oj → d.getD j true = false → (∀ e ∈ oj.after, Region.binds md e = true → d.getD e.on true = true) → wpOp P ops Q j (SS a0 (d.setIfInBounds j true)) a w)
    (hend : ∀ d a w, SS a0 d a w → (∀ j, j < ops.size → d.getD j true = true) → Q .normal a w) :
    ∀ (k : Nat) (d : Array Bool) (a : Act) (w : World), SS a0 d a w → d.size = ops.size → undone ops.size d ≤ k → Late P md ops Q C need k d a w
  | 0, d, a, w, hS, hz, hk => by
    have hr : Region.ready md ops d = [] := by
      rw [List.eq_nil_iff_forall_not_mem]
      intro j hj
      obtain ⟨hu, oj, hoj, _⟩ := mem_ready.1 hj
      have := undone_set (n := ops.size) (Array.getElem?_eq_some_iff.1 hoj).1 hu
      omega
    exact ⟨hr, hend _ _ _ hS (ready_nil_all hdep hz hr)⟩
  | k + 1, d, a, w, hS, hz, hk => ⟨fun hr => hend _ _ _ hS (ready_nil_all hdep hz hr), fun j hj => by
    obtain ⟨hu, oj, hoj, hall⟩ := mem_ready.1 hj
    have hjs := (Array.getElem?_eq_some_iff.1 hoj).1
    have hun := undone_set (n := ops.size) hjs hu
    refine wpOp_mono (fun a' w' h' => ⟨fun _ => hC _ _ _ h', late_inv hdep hC hstep hend k _ a' w' h' (by simpa using hz) (by omega)⟩) (hstep d a w hS j oj hoj hu fun e he hb => ?_)
    have h1 := hall e he hb
    have h2 := depB_spec hdep hoj he hb
    have h3 : e.on < d.size := by omega
    rw [getD_io h3 true false]
    exact h1⟩
theorem late_start {SS : Act → Array Bool → Act → World → Prop} {k : Nat} {d : Array Bool} {a : Act} {w : World} (hdep : depB md ops = true) (h0 : SS a d a w) (hz : d.size = ops.size) (hk : undone ops.size d ≤ k) (hC : ∀ d a' w, SS a d a' w → C w)
    (hend : ∀ d a' w, SS a d a' w → (∀ j, j < ops.size → d.getD j true = true) → Q .normal a' w)
    (hstep : ∀ d a' w, SS a d a' w → ∀ j oj, ops[j]? = some oj → d.getD j true = false → (∀ e ∈ oj.after, Region.binds md e = true → d.getD e.on true = true) → wpOp P ops Q j (SS a (d.setIfInBounds j true)) a' w) :
    Late P md ops Q C need k d a w := late_inv hdep hC hstep hend k d a w h0 hz hk
end

end Go.Proofs.YtcdijeeabgmgmaaGreatDoor

/- Two boxes for results that a region makes and fills, in whatever order. -/
namespace Go.Proofs.YtcdijeeabgmgmaaGreatDoor
open Go.RowKit

theorem bt_ne {d : Array Bool} {j i : Nat} (h : i ≠ j) : (d.setIfInBounds j true).getD i true = d.getD i true := by rw [bt_set]; simp [h]
theorem bt_self {d : Array Bool} {j : Nat} : (d.setIfInBounds j true).getD j true = true := by rw [bt_set]; simp
theorem bt_keep {d : Array Bool} {j i : Nat} (h : d.getD i true = true) : (d.setIfInBounds j true).getD i true = true := by rw [bt_set, h]; rfl
theorem bt_no {d : Array Bool} {j i : Nat} (h : (d.setIfInBounds j true).getD i true = false) : d.getD i true = false := by
  rw [bt_set, Bool.or_eq_false_iff] at h
  exact h.1

/-- What calls and far stores keep. -/
structure Kept (P : World → Nat → Nat → Prop) : Prop where
  ex : ∀ {w w' : World} {lo hi : Nat}, P w lo hi → Ex w w' → P w' lo hi
  off : ∀ {w w' : World} {lo hi D : Nat}, P w lo hi → Only D (D + 1) w w' → (D < lo ∨ hi ≤ D) → P w' lo hi
theorem Kept.ownL (A : Option Addr) (xs : List Int) : Kept fun w lo hi => OwnL w lo hi A xs := ⟨fun h k => h.ex k, fun h k hd => hd.elim (fun hd => h.above k hd) (fun hd => h.under k hd)⟩
theorem Kept.ownT (A : Option Addr) (t : List (List Int)) : Kept fun w lo hi => OwnT w lo hi A t := ⟨fun h k => h.ex k, fun h k hd => hd.elim (fun hd => h.above k hd) (fun hd => h.under k hd)⟩
theorem Kept.and {P Q : World → Nat → Nat → Prop} (h : Kept P) (k : Kept Q) : Kept fun w lo hi => P w lo hi ∧ Q w lo hi := ⟨fun a e => ⟨h.ex a.1 e, k.ex a.2 e⟩, fun a o d => ⟨h.off a.1 o d, k.off a.2 o d⟩⟩

/-- The two boxes: made, filled, and what the call between has given. -/
structure TwoR (base : Nat) (T0 T1 : TypeId) (z0 z1 c0 c1 : Array Value) (P : World → Nat → Nat → Prop) (bc b0 b1 f0 f1 : Bool) (s0 s1 : Value) (lo hi D E : Nat) (w : World) : Prop where
  box0 : b0 = true → s0 = .pointer (some ⟨D, 0, none⟩) ∧ base ≤ D ∧ Has w D T0 (cond f0 c0 z0) ∧ (bc = true → D < lo ∨ hi ≤ D)
  box1 : b1 = true → s1 = .pointer (some ⟨E, 0, none⟩) ∧ base ≤ E ∧ Has w E T1 (cond f1 c1 z1) ∧ (bc = true → E < lo ∨ hi ≤ E)
  ne : b0 = true → b1 = true → D ≠ E
  res : bc = true → P w lo hi ∧ hi ≤ w.heap.size
  st0 : f0 = true → bc = true ∧ b0 = true
  st1 : f1 = true → bc = true ∧ b1 = true

variable {base : Nat} {T0 T1 : TypeId} {z0 z1 c0 c1 c0' c1' : Array Value} {P P' : World → Nat → Nat → Prop} {bc b0 b1 f0 f1 : Bool} {s0 s1 : Value} {lo hi D E : Nat} {w w' : World}
theorem Has.keep1 {g b : Nat} {e : TypeId} {cs : Array Value} (h : Has w b e cs) (k : Only g (g + 1) w w') (hne : b ≠ g) : Has w' b e cs := by
  rcases Nat.lt_or_ge b g with hl | hg
  · exact h.under k hl
  · exact h.above k (by omega)
theorem TwoR.ex (h : TwoR base T0 T1 z0 z1 c0 c1 P bc b0 b1 f0 f1 s0 s1 lo hi D E w) (hP : Kept P) (k : Ex w w') : TwoR base T0 T1 z0 z1 c0 c1 P bc b0 b1 f0 f1 s0 s1 lo hi D E w' where
  box0 hb := ⟨(h.box0 hb).1, (h.box0 hb).2.1, (h.box0 hb).2.2.1.ex k, (h.box0 hb).2.2.2⟩
  box1 hb := ⟨(h.box1 hb).1, (h.box1 hb).2.1, (h.box1 hb).2.2.1.ex k, (h.box1 hb).2.2.2⟩
  ne := h.ne
  res hb := ⟨hP.ex (h.res hb).1 k, Nat.le_trans (h.res hb).2 k.size⟩
  st0 := h.st0
  st1 := h.st1
theorem TwoR.call (h : TwoR base T0 T1 z0 z1 c0 c1 P false b0 b1 f0 f1 s0 s1 lo hi D E w) (k : Ex w w') (hP : P' w' w.heap.size w'.heap.size) : TwoR base T0 T1 z0 z1 c0' c1' P' true b0 b1 f0 f1 s0 s1 w.heap.size w'.heap.size D E w' := by
  have e0 : f0 = false := by cases hf : f0 with | false => rfl | true => exact absurd (h.st0 hf).1 (by decide)
  have e1 : f1 = false := by cases hf : f1 with | false => rfl | true => exact absurd (h.st1 hf).1 (by decide)
  subst e0
  subst e1
  exact ⟨fun hb => ⟨(h.box0 hb).1, (h.box0 hb).2.1, (h.box0 hb).2.2.1.ex k, fun _ => .inl (h.box0 hb).2.2.1.lt⟩, fun hb => ⟨(h.box1 hb).1, (h.box1 hb).2.1, (h.box1 hb).2.2.1.ex k, fun _ => .inl (h.box1 hb).2.2.1.lt⟩, h.ne, fun _ => ⟨hP, Nat.le_refl _⟩, fun hf => (by cases hf), fun hf => (by cases hf)⟩
theorem TwoR.alloc0 (h : TwoR base T0 T1 z0 z1 c0 c1 P bc false b1 f0 f1 s0 s1 lo hi D E w) (hP : Kept P) (hs : base ≤ w.heap.size) : TwoR base T0 T1 z0 z1 c0 c1 P bc true b1 f0 f1 (.pointer (some ⟨w.heap.size, 0, none⟩)) s1 lo hi w.heap.size E (w.alloc (.cells z0 T0)) := by
  have e0 : f0 = false := by cases hf : f0 with | false => rfl | true => exact absurd (h.st0 hf).2 (by decide)
  subst e0
  exact ⟨fun _ => ⟨rfl, hs, Has.new _ _ _, fun hb => .inr (h.res hb).2⟩, fun hb => ⟨(h.box1 hb).1, (h.box1 hb).2.1, (h.box1 hb).2.2.1.alloc _, (h.box1 hb).2.2.2⟩, fun _ hb => by have := (h.box1 hb).2.2.1.lt; omega, fun hb => ⟨hP.ex (h.res hb).1 (Ex.new _ _), Nat.le_trans (h.res hb).2 (Ex.new _ _).size⟩, fun hf => (by cases hf), h.st1⟩
theorem TwoR.alloc1 (h : TwoR base T0 T1 z0 z1 c0 c1 P bc b0 false f0 f1 s0 s1 lo hi D E w) (hP : Kept P) (hs : base ≤ w.heap.size) : TwoR base T0 T1 z0 z1 c0 c1 P bc b0 true f0 f1 s0 (.pointer (some ⟨w.heap.size, 0, none⟩)) lo hi D w.heap.size (w.alloc (.cells z1 T1)) := by
  have e0 : f1 = false := by cases hf : f1 with | false => rfl | true => exact absurd (h.st1 hf).2 (by decide)
  subst e0
  exact ⟨fun hb => ⟨(h.box0 hb).1, (h.box0 hb).2.1, (h.box0 hb).2.2.1.alloc _, (h.box0 hb).2.2.2⟩, fun _ => ⟨rfl, hs, Has.new _ _ _, fun hb => .inr (h.res hb).2⟩, fun hb _ => by have := (h.box0 hb).2.2.1.lt; omega, fun hb => ⟨hP.ex (h.res hb).1 (Ex.new _ _), Nat.le_trans (h.res hb).2 (Ex.new _ _).size⟩, h.st0, fun hf => (by cases hf)⟩
theorem TwoR.store0 (h : TwoR base T0 T1 z0 z1 c0 c1 P true true b1 f0 f1 s0 s1 lo hi D E w) (hP : Kept P) (k : Only D (D + 1) w w') (hH : Has w' D T0 c0) : TwoR base T0 T1 z0 z1 c0 c1 P true true b1 true f1 s0 s1 lo hi D E w' :=
  ⟨fun _ => ⟨(h.box0 rfl).1, (h.box0 rfl).2.1, hH, (h.box0 rfl).2.2.2⟩, fun hb => ⟨(h.box1 hb).1, (h.box1 hb).2.1, (h.box1 hb).2.2.1.keep1 k (fun e => h.ne rfl hb e.symm), (h.box1 hb).2.2.2⟩, h.ne, fun _ => ⟨hP.off (h.res rfl).1 k ((h.box0 rfl).2.2.2 rfl), Nat.le_trans (h.res rfl).2 k.size⟩, fun _ => ⟨rfl, rfl⟩, h.st1⟩
theorem TwoR.store1 (h : TwoR base T0 T1 z0 z1 c0 c1 P true b0 true f0 f1 s0 s1 lo hi D E w) (hP : Kept P) (k : Only E (E + 1) w w') (hH : Has w' E T1 c1) : TwoR base T0 T1 z0 z1 c0 c1 P true b0 true f0 true s0 s1 lo hi D E w' :=
  ⟨fun hb => ⟨(h.box0 hb).1, (h.box0 hb).2.1, (h.box0 hb).2.2.1.keep1 k (fun e => h.ne hb rfl e), (h.box0 hb).2.2.2⟩, fun _ => ⟨(h.box1 rfl).1, (h.box1 rfl).2.1, hH, (h.box1 rfl).2.2.2⟩, h.ne, fun _ => ⟨hP.off (h.res rfl).1 k ((h.box1 rfl).2.2.2 rfl), Nat.le_trans (h.res rfl).2 k.size⟩, h.st0, fun _ => ⟨rfl, rfl⟩⟩
theorem TwoR.start : TwoR base T0 T1 z0 z1 c0 c1 P false false false false false s0 s1 lo hi D E w := by
  constructor <;> intro h <;> cases h

end Go.Proofs.YtcdijeeabgmgmaaGreatDoor
