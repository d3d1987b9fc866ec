/-
  At every value of each parameter that can be read (a group value): FnExactOrdersOf answers true and its arguments read as before: OrdersOf answers as its model does. No condition.
-/
import Derived.Test.YtenenlpfpkdplaaFra
import Derived.Test.YtenenlpfpkdplaaJp
import Derived.Test.YtenenlpfpkdplaaLwOrdersOf
import Derived.Test.YtenenlpfpkdplaaEo
namespace Go.Proofs.Ytenenlpfpkdplaa
open Go.ChangeShapes Go.WideShapes Go.ChangeAt Go.RowKit

set_option maxRecDepth 100000 in
theorem ordersOf_lifted (os : Os) (started : os.Started) (H : Type) (enc : TypeId × Value → H) :
    ReturnsInHanded {} Try.checked os 3 .any (Rows.fnExactOrdersOfSpec.pre6 enc Try.prog Try.f3 Rows.fnExactOrdersOfRow.domain false) (Rows.fnExactOrdersOfSpec.post enc Try.prog Try.f3 false true false false) := by
  refine returnsInHanded_of_change (C := Try.checked) own_ started (by kernel_rfl) Try.func3
    (ChangeSpec.witness6 (enc := enc) (C := Try.checked) false ⟨#[], #[.agg #[.slice none 0 0]], []⟩ 8 (by kernel_rfl) (by kernel_rfl) (by kernel_rfl) (by kernel_rfl)) ?_
  intro W base args ds gs before hval0 hW hcnd _
  have hval : ∀ (j : Nat) t v, Try.f3.params[j]? = some t → args[j]? = some v → Value.okWide Try.prog W .any base t v := hval0
  have hW' := hW
  obtain ⟨p, q, hA0, hV, rfl, hfz, hnd⟩ := hW
  have hA : DataW.TrodAll enc Try.prog W 0 (fun _ => true) true Try.f3.params.toList args.toList ds p := hA0
  rw [Try.params3] at hA hval
  obtain ⟨v0, d0, rfl, rfl, h0⟩ := trodAll_one hA
  obtain ⟨rfl, rfl⟩ := trodVars_none hV
  obtain ⟨A0, t0, c0, rfl, hR0, hn0, hl0, _⟩ := open_group (hval 0 24 v0 rfl rfl) h0
  clear hA0 hval0
  simp only [List.append_nil] at hW'
  have hlt0 : ∀ x ∈ p, x.block < W.heap.size := fun x hx => hW'.lt x (by simp [hx])
  refine (lawOrdersOf_any A0 t0 c0 (yOrdersOf0 t0) (qOrdersOf1 t0) W hR0 hn0 hl0 (ordersOf_small0 t0) (specOrdersOf_ex t0) (implOrdersOf_ex t0)).mono fun e W' ⟨he, hb⟩ => ?_
  subst he
  exact ⟨_, rfl, law_post (pa := p) hW' hb rfl rfl rfl (trodAll_mk1 (Below.trod laidOut_ (by kernel_rfl) (of_decide_eq_true (by kernel_rfl)) h0 hb hlt0)) (by simp)⟩

theorem ordersOf_j10 : (Rows.fnExactOrdersOfRow.inPlace == Try.prog.inPlace 3) = true := by kernel_rfl
theorem ordersOf_j11 : (Rows.fnExactOrdersOfRow.unfollowed == Try.prog.unfollowed 3) = true := by kernel_rfl
theorem ordersOf_j12 : (Rows.fnExactOrdersOfRow.recurses == Try.prog.recurses 3) = true := by kernel_rfl
theorem ordersOf_j13 : (Rows.fnExactOrdersOfRow.named == Try.prog.varsNamed 3) = true := by kernel_rfl
theorem ordersOf_j5 : namedTie Try.prog Rows.fnExactOrdersOfRow.named Rows.fnExactOrdersOfSpec.vars = true := by kernel_rfl
theorem ordersOf_j23 : (Rows.fnExactOrdersOfRow.plainKeys == Try.prog.plainKeys) = true := by kernel_rfl
theorem ordersOf_j27 : (Rows.fnExactOrdersOfRow.lifted == Try.prog.liftsFinal) = true := by rw [jp_final]; rfl
theorem ordersOf_j28 : (Try.prog.make == some Rows.fnExactOrdersOfRow.make) = true := by rw [jp_make]; rfl

theorem ordersOf_closed : joinedFacts Try.prog 3 Try.f3 Rows.fnExactOrdersOfSpec Rows.fnExactOrdersOfRow = true :=
  joined_parts (by kernel_rfl) jp_laid jp_maps (by kernel_rfl) ordersOf_j5 (by kernel_rfl) jp_stops (by kernel_rfl) jp_knobs ordersOf_j10 ordersOf_j11 ordersOf_j12 ordersOf_j13 (by kernel_rfl) (by kernel_rfl) (by kernel_rfl) (by kernel_rfl) (by kernel_rfl) (by kernel_rfl) (by kernel_rfl) (by kernel_rfl) (by kernel_rfl)
    ordersOf_j23 (by kernel_rfl) jp_heard jp_enter ordersOf_j27 ordersOf_j28 (by kernel_rfl) (by kernel_rfl) (by kernel_rfl) (by kernel_rfl)

theorem ordersOf_named : Try.pinned.checked.prog.funcNamed Rows.fnExactOrdersOfRow.func = some 3 := by kernel_rfl

theorem ordersOf_holds : Rows.FnExactOrdersOfSaid :=
  OpenClaim.holds_of_wide 3 Try.f3 rfl rfl rfl rfl rfl rfl rfl ⟨rfl, rfl, rfl, rfl, rfl⟩ rfl rfl rfl rfl rfl ordersOf_named Try.func3 ordersOf_closed
    (of_decide_eq_true (by kernel_rfl)) (by unfold Func.isWrapper; first | (rw [if_pos (by decide +kernel)]; kernel_rfl) | (rw [if_neg (by decide +kernel)]; exact ⟨rfl, rfl⟩))
    (fun os started H enc _ => ordersOf_lifted os started H enc)

end Go.Proofs.Ytenenlpfpkdplaa
