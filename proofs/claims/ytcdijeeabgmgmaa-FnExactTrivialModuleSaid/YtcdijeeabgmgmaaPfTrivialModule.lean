/-
  At every value of each parameter that can be read (a group value, a number): FnExactTrivialModule answers true and its arguments read as before: TrivialModule answers as its model does. No condition.
-/
import Derived.Test.YtcdijeeabgmgmaaFra
import Derived.Test.YtcdijeeabgmgmaaJp
import Derived.Test.YtcdijeeabgmgmaaLwTrivialModule
import Derived.Test.YtcdijeeabgmgmaaTv
namespace Go.Proofs.Ytcdijeeabgmgmaa
open Go.ChangeShapes Go.WideShapes Go.ChangeAt Go.RowKit

set_option maxRecDepth 100000 in
theorem trivialModule_lifted (os : Os) (started : os.Started) (H : Type) (enc : TypeId × Value → H) :
    ReturnsInHanded {} Try.checked os 3 .any (Rows.fnExactTrivialModuleSpec.pre6 enc Try.prog Try.f3 Rows.fnExactTrivialModuleRow.domain false) (Rows.fnExactTrivialModuleSpec.post enc Try.prog Try.f3 false true false false) := by
  refine returnsInHanded_of_change (C := Try.checked) own_ started (by kernel_rfl) Try.func3
    (ChangeSpec.witness6 (enc := enc) (C := Try.checked) false ⟨#[], #[.agg #[.slice none 0 0], .int .i64 0], []⟩ 8 (by kernel_rfl) (by kernel_rfl) (by kernel_rfl) (by kernel_rfl)) ?_
  intro W base args ds gs before hval0 hW hcnd _
  have hval : ∀ (j : Nat) t v, Try.f3.params[j]? = some t → args[j]? = some v → Value.okWide Try.prog W .any base t v := hval0
  have hW' := hW
  obtain ⟨p, q, hA0, hV, rfl, hfz, hnd⟩ := hW
  have hA : DataW.TrodAll enc Try.prog W 0 (fun _ => true) true Try.f3.params.toList args.toList ds p := hA0
  rw [Try.params3] at hA hval
  obtain ⟨v0, v1, d0, d1, p0, p1, rfl, rfl, rfl, h0, h1⟩ := trodAll_two hA
  obtain ⟨rfl, rfl⟩ := trodVars_none hV
  obtain ⟨A0, t0, c0, rfl, hR0, hn0, hl0, _⟩ := open_group (hval 0 24 v0 rfl rfl) h0
  obtain ⟨m1, rfl, rfl, rfl, w1⟩ := open_int Try.underlying2 (hval 1 2 v1 rfl rfl) h1
  clear hA0 hval0
  simp only [List.append_nil] at hW'
  have hlt0 : ∀ x ∈ p0, x.block < W.heap.size := fun x hx => hW'.lt x (by simp [hx])
  refine (lawTrivialModule_any A0 t0 c0 m1 (qTrivialModule0 t0 m1) (yTrivialModule0 t0 m1) (qTrivialModule1 t0 m1) W hR0 hn0 hl0 (trivialModule_small0 t0 m1) (specTrivialModule_ex t0 m1) (implTrivialModule_ex t0 m1)).mono fun e W' ⟨he, hb⟩ => ?_
  subst he
  exact ⟨_, rfl, law_post (pa := p0 ++ ([])) hW' hb rfl rfl rfl (trodAll_mk2 (Below.trod laidOut_ (by kernel_rfl) (of_decide_eq_true (by kernel_rfl)) h0 hb hlt0) (shut_int Try.underlying2 w1)) (by simp)⟩

theorem trivialModule_j10 : (Rows.fnExactTrivialModuleRow.inPlace == Try.prog.inPlace 3) = true := by kernel_rfl
theorem trivialModule_j11 : (Rows.fnExactTrivialModuleRow.unfollowed == Try.prog.unfollowed 3) = true := by kernel_rfl
theorem trivialModule_j12 : (Rows.fnExactTrivialModuleRow.recurses == Try.prog.recurses 3) = true := by kernel_rfl
theorem trivialModule_j13 : (Rows.fnExactTrivialModuleRow.named == Try.prog.varsNamed 3) = true := by kernel_rfl
theorem trivialModule_j5 : namedTie Try.prog Rows.fnExactTrivialModuleRow.named Rows.fnExactTrivialModuleSpec.vars = true := by kernel_rfl
theorem trivialModule_j23 : (Rows.fnExactTrivialModuleRow.plainKeys == Try.prog.plainKeys) = true := by kernel_rfl
theorem trivialModule_j27 : (Rows.fnExactTrivialModuleRow.lifted == Try.prog.liftsFinal) = true := by rw [jp_final]; rfl
theorem trivialModule_j28 : (Try.prog.make == some Rows.fnExactTrivialModuleRow.make) = true := by rw [jp_make]; rfl

theorem trivialModule_closed : joinedFacts Try.prog 3 Try.f3 Rows.fnExactTrivialModuleSpec Rows.fnExactTrivialModuleRow = true :=
  joined_parts (by kernel_rfl) jp_laid jp_maps (by kernel_rfl) trivialModule_j5 (by kernel_rfl) jp_stops (by kernel_rfl) jp_knobs trivialModule_j10 trivialModule_j11 trivialModule_j12 trivialModule_j13 (by kernel_rfl) (by kernel_rfl) (by kernel_rfl) (by kernel_rfl) (by kernel_rfl) (by kernel_rfl) (by kernel_rfl) (by kernel_rfl) (by kernel_rfl)
    trivialModule_j23 (by kernel_rfl) jp_heard jp_enter trivialModule_j27 trivialModule_j28 (by kernel_rfl) (by kernel_rfl) (by kernel_rfl) (by kernel_rfl)

theorem trivialModule_named : Try.pinned.checked.prog.funcNamed Rows.fnExactTrivialModuleRow.func = some 3 := by kernel_rfl

theorem trivialModule_holds : Rows.FnExactTrivialModuleSaid :=
  OpenClaim.holds_of_wide 3 Try.f3 rfl rfl rfl rfl rfl rfl rfl ⟨rfl, rfl, rfl, rfl, rfl⟩ rfl rfl rfl rfl rfl trivialModule_named Try.func3 trivialModule_closed
    (of_decide_eq_true (by kernel_rfl)) (by unfold Func.isWrapper; first | (rw [if_pos (by decide +kernel)]; kernel_rfl) | (rw [if_neg (by decide +kernel)]; exact ⟨rfl, rfl⟩))
    (fun os started H enc _ => trivialModule_lifted os started H enc)

end Go.Proofs.Ytcdijeeabgmgmaa
