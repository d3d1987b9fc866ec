/-
  At every value of each parameter that can be read (a group value, a module value): FnExactDualModule answers true and its arguments read as before: DualModule answers as its model does. No condition.
-/
import Derived.Test.YtdehalkebneaoaaFrm3
import Derived.Test.YtdehalkebneaoaaJp
import Derived.Test.YtdehalkebneaoaaLwDualModule
import Derived.Test.YtdehalkebneaoaaDl
namespace Go.Proofs.Ytdehalkebneaoaa
open Go.ChangeShapes Go.WideShapes Go.ChangeAt Go.RowKit

set_option maxRecDepth 100000 in
theorem dualModule_lifted (os : Os) (started : os.Started) (H : Type) (enc : TypeId × Value → H) :
    ReturnsInHanded {} Try.checked os 6 .any (Rows.fnExactDualModuleSpec.pre6 enc Try.prog Try.f6 Rows.fnExactDualModuleRow.domain false) (Rows.fnExactDualModuleSpec.post enc Try.prog Try.f6 false true false false) := by
  refine returnsInHanded_of_change (C := Try.checked) own_ started (by kernel_rfl) Try.func6
    (ChangeSpec.witness6 (enc := enc) (C := Try.checked) false ⟨#[], #[.agg #[.slice none 0 0], .agg #[.int .i64 0, .slice none 0 0]], []⟩ 8 (by kernel_rfl) (by kernel_rfl) (by kernel_rfl) (by kernel_rfl)) ?_
  intro W base args ds gs before hval0 hW hcnd _
  have hval : ∀ (j : Nat) t v, Try.f6.params[j]? = some t → args[j]? = some v → Value.okWide Try.prog W .any base t v := hval0
  have hW' := hW
  obtain ⟨p, q, hA0, hV, rfl, hfz, hnd⟩ := hW
  have hA : DataW.TrodAll enc Try.prog W 0 (fun _ => true) true Try.f6.params.toList args.toList ds p := hA0
  rw [Try.params6] at hA hval
  obtain ⟨v0, v1, d0, d1, p0, p1, rfl, rfl, rfl, h0, h1⟩ := trodAll_two hA
  obtain ⟨rfl, rfl⟩ := trodVars_none hV
  obtain ⟨A0, t0, c0, rfl, hR0, hn0, hl0, _⟩ := open_group (hval 0 24 v0 rfl rfl) h0
  obtain ⟨m1, A1, t1, c1, rfl, hR1, hn1⟩ := open_module (hval 1 48 v1 rfl rfl) h1
  clear hA0 hval0
  simp only [List.append_nil] at hW'
  have hlt0 : ∀ x ∈ p0, x.block < W.heap.size := fun x hx => hW'.lt x (by simp [hx])
  have hlt1 : ∀ x ∈ p1, x.block < W.heap.size := fun x hx => hW'.lt x (by simp [hx])
  refine (lawDualModule_any A0 t0 c0 m1 A1 t1 c1 (qDualModule0 t0 m1 t1) (yDualModule0 t0 m1 t1) (qDualModule1 t0 m1 t1) W hR0 hn0 hl0 hR1 hn1 (dualModule_small0 t0 m1 t1) (specDualModule_ex t0 m1 t1) (implDualModule_ex t0 m1 t1)).mono fun e W' ⟨he, hb⟩ => ?_
  subst he
  exact ⟨_, rfl, law_post (pa := p0 ++ (p1)) hW' hb rfl rfl rfl (trodAll_mk2 (Below.trod laidOut_ (by kernel_rfl) (of_decide_eq_true (by kernel_rfl)) h0 hb hlt0) (Below.trod laidOut_ (by kernel_rfl) (of_decide_eq_true (by kernel_rfl)) h1 hb hlt1)) (by simp)⟩

theorem dualModule_j10 : (Rows.fnExactDualModuleRow.inPlace == Try.prog.inPlace 6) = true := by kernel_rfl
theorem dualModule_j11 : (Rows.fnExactDualModuleRow.unfollowed == Try.prog.unfollowed 6) = true := by kernel_rfl
theorem dualModule_j12 : (Rows.fnExactDualModuleRow.recurses == Try.prog.recurses 6) = true := by kernel_rfl
theorem dualModule_j13 : (Rows.fnExactDualModuleRow.named == Try.prog.varsNamed 6) = true := by kernel_rfl
theorem dualModule_j5 : namedTie Try.prog Rows.fnExactDualModuleRow.named Rows.fnExactDualModuleSpec.vars = true := by kernel_rfl
theorem dualModule_j23 : (Rows.fnExactDualModuleRow.plainKeys == Try.prog.plainKeys) = true := by kernel_rfl
theorem dualModule_j27 : (Rows.fnExactDualModuleRow.lifted == Try.prog.liftsFinal) = true := by rw [jp_final]; rfl
theorem dualModule_j28 : (Try.prog.make == some Rows.fnExactDualModuleRow.make) = true := by rw [jp_make]; rfl

theorem dualModule_closed : joinedFacts Try.prog 6 Try.f6 Rows.fnExactDualModuleSpec Rows.fnExactDualModuleRow = true :=
  joined_parts (by kernel_rfl) jp_laid jp_maps (by kernel_rfl) dualModule_j5 (by kernel_rfl) jp_stops (by kernel_rfl) jp_knobs dualModule_j10 dualModule_j11 dualModule_j12 dualModule_j13 (by kernel_rfl) (by kernel_rfl) (by kernel_rfl) (by kernel_rfl) (by kernel_rfl) (by kernel_rfl) (by kernel_rfl) (by kernel_rfl) (by kernel_rfl)
    dualModule_j23 (by kernel_rfl) jp_heard jp_enter dualModule_j27 dualModule_j28 (by kernel_rfl) (by kernel_rfl) (by kernel_rfl) (by kernel_rfl)

theorem dualModule_named : Try.pinned.checked.prog.funcNamed Rows.fnExactDualModuleRow.func = some 6 := by kernel_rfl

theorem dualModule_holds : Rows.FnExactDualModuleSaid :=
  OpenClaim.holds_of_wide 6 Try.f6 rfl rfl rfl rfl rfl rfl rfl ⟨rfl, rfl, rfl, rfl, rfl⟩ rfl rfl rfl rfl rfl dualModule_named Try.func6 dualModule_closed
    (of_decide_eq_true (by kernel_rfl)) (by unfold Func.isWrapper; first | (rw [if_pos (by decide +kernel)]; kernel_rfl) | (rw [if_neg (by decide +kernel)]; exact ⟨rfl, rfl⟩))
    (fun os started H enc _ => dualModule_lifted os started H enc)

end Go.Proofs.Ytdehalkebneaoaa
