/- A region that draws its order and whose last operations write what it has read: a condition on the world that is asked only behind those operations which do not wait for the reads ('need'). -/
import Derived.Deep.RegionHeld3
import Derived.Test.YtdehalkebneaoaaDoorRng
namespace Go.Proofs.YtdehalkebneaoaaDoor
open Go.RowKit

section
variable {P : Program} {ops : Array Oper} {Q : Exit → Act → World → Prop} {md : Region.Mode} {C : World → Prop} {need : Nat → Bool}

/-- Whatever order is picked from here on; C holds behind each operation that needs it. -/
def Late (P : Program) (md : Region.Mode) (ops : Array Oper) (Q : Exit → Act → World → Prop) (C : World → Prop) (need : Nat → Bool) : Nat → Array Bool → Act → World → Prop
  | 0, done, a, w => Region.ready md ops done = [] ∧ Q .normal a w
  | k + 1, done, a, w => (Region.ready md ops done = [] → Q .normal a w) ∧
    ∀ j ∈ Region.ready md ops done, wpOp P ops Q j (fun a' w' => (need j = true → C w') ∧ Late P md ops Q C need k (done.setIfInBounds j true) a' w') a w

theorem Late.any : ∀ (k : Nat) (done : Array Bool) (a : Act) (w : World), Late P md ops Q C need k done a w → wpAny P md ops Q k done a w
  | 0, _, _, _, h => h
  | k + 1, _, _, _, h => ⟨h.1, fun j hj => wpOp_mono (fun a' w' h' => Late.any k _ a' w' h'.2) (h.2 j hj)⟩

theorem Late.first {i : Nat} {oi : Oper} {v : Value} (hi : ops[i]? = some oi) (hsel : ∀ (j : Nat) (o : Oper) cs b, ops[j]? = some o → o.op ≠ .select cs b)
    (hQ : ∀ c a w, Q (.panic c) (a.put oi.dst v) w → Q (.panic c) a w) (hn : ∀ j oj, ops[j]? = some oj → j ≠ i → need j = false → ∃ e ∈ oj.after, Region.binds md e = true ∧ e.on = i) :
    ∀ (k : Nat) (done : Array Bool) (a : Act) (w : World),
      (∀ j oj, ops[j]? = some oj → j ≠ i → done.getD j true = false → (∀ e ∈ oj.after, Region.binds md e = true → e.on ≠ i) → oi.apart ops oj = true) →
      i ∈ Region.ready md ops done → YieldsIf P ops C oi v a → C w → Late P md ops Q C need k (done.setIfInBounds i true) (a.put oi.dst v) w → Late P md ops Q C need (k + 1) done a w := by
  intro k
  induction k with
  | zero =>
    intro done a w _ hr hy hC H
    refine ⟨fun h => absurd (h ▸ hr) (by simp), fun j hj => ?_⟩
    rcases Nat.decEq j i with hji | rfl
    · exact absurd (H.1 ▸ ready_mono hj hji) (by simp)
    · exact hy.wpOp hi hC ⟨fun _ => hC, H⟩
  | succ k ih =>
    intro done a w hf hr hy hC H
    refine ⟨fun h => absurd (h ▸ hr) (by simp), fun j hj => ?_⟩
    rcases Nat.decEq j i with hji | rfl
    · obtain ⟨hu, oj, hoj, hall⟩ := mem_ready.1 hj
      have hru := (mem_ready.1 hr).1
      have hno : ∀ e ∈ oj.after, Region.binds md e = true → e.on ≠ i := fun e he hb heq => by
        have h1 := hall e he hb
        rw [heq] at h1
        rcases Nat.lt_or_ge i done.size with hs | hs
        · simp [hs] at hru h1
          rw [hru] at h1
          cases h1
        · simp [Array.getElem?_eq_none hs] at h1
      have hnj : need j = true := by
        cases hb : need j
        · obtain ⟨e, he, hbe, hone⟩ := hn j oj hoj hji hb
          exact absurd hone (hno e he hbe)
        · rfl
      have h2 := wpOp_putIf hoj (hf j oj hoj hji hu hno) (fun cs b => hsel i oi cs b hi) (fun cs b => hsel j oj cs b hoj) hQ hy (H.2 j (ready_mono hj hji))
      refine wpOp_mono (fun a' w' h3 => ⟨h3.2.1, ih (done.setIfInBounds j true) a' w' (fun l ol hl hli hul hnl => ?_) (ready_mono hr (Ne.symm hji)) h3.1 (h3.2.1 hnj) ?_⟩) h2
      · refine hf l ol hl hli ?_ hnl
        by_cases hjl : j = l
        · subst hjl
          exact hu
        · rwa [getD_set_ne true hjl] at hul
      · rw [Array.setIfInBounds_comm _ _ hji]
        exact h3.2.2
    · exact hy.wpOp hi hC ⟨fun _ => hC, H⟩

/-- Do all operations that may leave C behind them wait for the operation i? -/
def lateB (md : Region.Mode) (ops : Array Oper) (need : Nat → Bool) (i : Nat) : Bool :=
  (List.range ops.size).all fun j => j == i || need j || match ops[j]? with
    | some oj => oj.after.any fun e => Region.binds md e && e.on == i
    | none => true
theorem lateB_spec {i : Nat} (h : lateB md ops need i = true) (j : Nat) (oj : Oper) (hj : ops[j]? = some oj) (hne : j ≠ i) (hn : need j = false) : ∃ e ∈ oj.after, Region.binds md e = true ∧ e.on = i := by
  have h1 := List.all_eq_true.1 h j (List.mem_range.2 (Array.getElem?_eq_some_iff.1 hj).1)
  simp only [hj, hn, Bool.or_false, Bool.or_eq_true, beq_iff_eq] at h1
  rcases h1 with h1 | h1
  · exact absurd h1 hne
  · obtain ⟨e, he, hb⟩ := Array.any_eq_true'.1 h1
    simp only [Bool.and_eq_true, beq_iff_eq] at hb
    exact ⟨e, he, hb.1, hb.2⟩

theorem Late.take {i : Nat} {oi : Oper} {v : Value} {k : Nat} {done : Array Bool} {a : Act} {w : World} (hi : ops[i]? = some oi)
    (hs : Region.noSelect ops = true) (hf : Region.free md ops done i = true) (hr : (Region.ready md ops done).contains i = true) (hl : lateB md ops need i = true)
    (hQ : ∀ c a w, Q (.panic c) (a.put oi.dst v) w → Q (.panic c) a w) (hy : YieldsIf P ops C oi v a) (hC : C w)
    (h : Late P md ops Q C need k (done.setIfInBounds i true) (a.put oi.dst v) w) : Late P md ops Q C need (k + 1) done a w :=
  Late.first hi (Region.noSelect_spec hs) hQ (lateB_spec hl) k done a w (Region.free_spec hi hf) (by simpa using hr) hy hC h

/-- The one operation that may come up. -/
theorem Late.one {i : Nat} {o : Oper} {k : Nat} {done : Array Bool} {a : Act} {w : World} (hr : Region.ready md ops done = [i]) (ho : ops[i]? = some o)
    (h : ∀ K' : Act → World → Prop, Shut (∀ a w, (need i = true → C w) → ((need i = true → C w) → Late P md ops Q C need k (done.setIfInBounds i true) a w) → K' a w) → if Region.wanted o (yielded ops a.tmps) = true then Oper.wp P o a w K' Q else K' (a.put o.dst undef) w) :
    Late P md ops Q C need (k + 1) done a w := by
  refine ⟨fun h0 => absurd (hr ▸ h0) (by simp), fun j hj => ?_⟩
  rw [hr] at hj
  obtain rfl := List.mem_singleton.1 hj
  exact wpOp_step ho fun K' hK => h K' fun a w hS hW => hK a w ⟨hS, hW hS⟩

theorem Late.done {listed : Array Bool} {a : Act} {w : World} (hr : Region.ready md ops listed = []) (h : Q .normal a w) : ∀ k, Late P md ops Q C need k listed a w
  | 0 => ⟨hr, h⟩
  | _ + 1 => ⟨fun _ => h, by rw [hr]; simp⟩

theorem Late.region {id : Nat} {a : Act} {w : World} (need : Nat → Bool) (hm : P.follows .mixedOrders = true) (hC : C w.drew) (h : C w.drew → Late P .any ops Q C need ops.size (Array.replicate ops.size false) a w.drew) : (Code.region id ops true).wp P Q a w :=
  wp_region_any hm (Late.any _ _ _ _ (h hC))
end

section
variable {n r : Nat} {P : Program} {Q : Exit → Act → World → Prop}
/-- In a round of a range over a function. -/
theorem Late.round {id : Nat} {a : Act} {w : World} {l : List Oper} {C : World → Prop} (need : Nat → Bool) (hm : P.follows .mixedOrders = true) (hp : plainOps l = true) (hQ : ¬ LetsOut Q) (hC : C w.drew)
    (h : C w.drew → Late P .any l.toArray Q C need l.length (Array.replicate l.length false) a w.drew) : (Code.region id l.toArray true).wpIn (Fence.wide.inRound r) n P Q a w := by
  have h1 := Late.any _ _ _ _ (h hC)
  have h2 := wpAnyIn_round (r := r) hp rfl _ _ _ _ (wpAnyIn_of_wpAny (n := n) hQ _ _ _ _ h1)
  refine wpIn_region_any hm ?_
  simpa using h2
end

end Go.Proofs.YtdehalkebneaoaaDoor
