/- A region that draws its order, from a point on, by a relation that each operation keeps: the order is told nowhere. -/
import Derived.Test.YtalejhbdbclfaaaDoorInv
namespace Go.Proofs.YtalejhbdbclfaaaDoor
open Go.RowKit

theorem bt_set (d : Array Bool) (j i : Nat) : (d.setIfInBounds j true).getD i true = (d.getD i true || decide (i = j)) := by
  by_cases h : j = i
  · subst h
    rcases Nat.lt_or_ge j d.size with hs | hs
    · simp [Array.getD, hs]
    · simp [Array.getD, Nat.not_lt.2 hs]
  · rw [getD_set_ne true h]
    simp [Ne.symm h]
theorem bt_old {d : Array Bool} {j i : Nat} (h : (d.setIfInBounds j true).getD i true = true) (hne : i ≠ j) : d.getD i true = true := by
  rw [bt_set] at h
  simpa [hne] using h

theorem getD_io {d : Array Bool} {i : Nat} (h : i < d.size) (a b : Bool) : d.getD i a = d.getD i b := by
  unfold Array.getD
  rw [dif_pos h, dif_pos h]
/-- Does each operation wait for earlier ones alone? -/
def depB (md : Region.Mode) (ops : Array Oper) : Bool := (List.range ops.size).all fun j => match ops[j]? with
  | some o => o.after.toList.all fun e => !Region.binds md e || decide (e.on < j)
  | none => true
theorem depB_spec {md : Region.Mode} {ops : Array Oper} (h : depB md ops = true) {j : Nat} {o : Oper} (ho : ops[j]? = some o) {e : Edge} (he : e ∈ o.after) (hb : Region.binds md e = true) : e.on < j := by
  have h1 := List.all_eq_true.1 h j (List.mem_range.2 (Array.getElem?_eq_some_iff.1 ho).1)
  simp only [ho] at h1
  have h2 := List.all_eq_true.1 h1 e (Array.mem_toList_iff.2 he)
  simpa [hb] using h2
section
variable {P : Program} {md : Region.Mode} {ops : Array Oper} {Q : Exit → Act → World → Prop} {C : World → Prop} {need : Nat → Bool}
theorem ready_nil_all (hdep : depB md ops = true) {d : Array Bool} (hz : d.size = ops.size) (h : Region.ready md ops d = []) : ∀ j, j < ops.size → d.getD j true = true := by
  intro j
  induction j using Nat.strongRecOn with
  | ind j ih =>
    intro hj
    cases hd : d.getD j true with
    | true => rfl
    | false =>
      exfalso
      have hm : j ∈ Region.ready md ops d := mem_ready.2 ⟨hd, ops[j], Array.getElem?_eq_getElem hj, fun e he hb => by
        have h1 := depB_spec hdep (j := j) (o := ops[j]) (Array.getElem?_eq_getElem hj) he hb
        have h2 := ih e.on h1 (by omega)
        have h3 : e.on < d.size := by omega
        rw [getD_io h3 false true]
        exact h2⟩
      rw [h] at hm
      cases hm
theorem late_inv {SS : Act → Array Bool → Act → World → Prop} {a0 : Act} (hdep : depB md ops = true) (hC : ∀ d a w, SS a0 d a w → C w)
    (hstep : ∀ d a w, SS a0 d a w → ∀ j oj, ops[j]? = some oj → d.getD j true = false → (∀ e ∈ oj.after, Region.binds md e = true → d.getD e.on true = true) → wpOp P ops Q j (SS a0 (d.setIfInBounds j true)) a w)
    (hend : ∀ d a w, SS a0 d a w → (∀ j, j < ops.size → d.getD j true = true) → Q .normal a w) :
    ∀ (k : Nat) (d : Array Bool) (a : Act) (w : World), SS a0 d a w → d.size = ops.size → undone ops.size d ≤ k → Late P md ops Q C need k d a w
  | 0, d, a, w, hS, hz, hk => by
    have hr : Region.ready md ops d = [] := by
      rw [List.eq_nil_iff_forall_not_mem]
      intro j hj
      obtain ⟨hu, oj, hoj, _⟩ := mem_ready.1 hj
      have := undone_set (n := ops.size) (Array.getElem?_eq_some_iff.1 hoj).1 hu
      omega
    exact ⟨hr, hend _ _ _ hS (ready_nil_all hdep hz hr)⟩
  | k + 1, d, a, w, hS, hz, hk => ⟨fun hr => hend _ _ _ hS (ready_nil_all hdep hz hr), fun j hj => by
    obtain ⟨hu, oj, hoj, hall⟩ := mem_ready.1 hj
    have hjs := (Array.getElem?_eq_some_iff.1 hoj).1
    have hun := undone_set (n := ops.size) hjs hu
    refine wpOp_mono (fun a' w' h' => ⟨fun _ => hC _ _ _ h', late_inv hdep hC hstep hend k _ a' w' h' (by simpa using hz) (by omega)⟩) (hstep d a w hS j oj hoj hu fun e he hb => ?_)
    have h1 := hall e he hb
    have h2 := depB_spec hdep hoj he hb
    have h3 : e.on < d.size := by omega
    rw [getD_io h3 true false]
    exact h1⟩
theorem late_start {SS : Act → Array Bool → Act → World → Prop} {k : Nat} {d : Array Bool} {a : Act} {w : World} (hdep : depB md ops = true) (h0 : SS a d a w) (hz : d.size = ops.size) (hk : undone ops.size d ≤ k) (hC : ∀ d a' w, SS a d a' w → C w)
    (hend : ∀ d a' w, SS a d a' w → (∀ j, j < ops.size → d.getD j true = true) → Q .normal a' w)
    (hstep : ∀ d a' w, SS a d a' w → ∀ j oj, ops[j]? = some oj → d.getD j true = false → (∀ e ∈ oj.after, Region.binds md e = true → d.getD e.on true = true) → wpOp P ops Q j (SS a (d.setIfInBounds j true)) a' w) :
    Late P md ops Q C need k d a w := late_inv hdep hC hstep hend k d a w h0 hz hk
end

end Go.Proofs.YtalejhbdbclfaaaDoor
