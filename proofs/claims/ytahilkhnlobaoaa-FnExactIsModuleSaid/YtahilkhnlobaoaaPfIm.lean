/-
  At every group value and every module value that can be read: FnExactIsModule answers true and its arguments read as before: IsModule answers as its model does. No condition.
-/
import Derived.Test.YtahilkhnlobaoaaFrm2
import Derived.Test.YtahilkhnlobaoaaJp
import Derived.Test.YtahilkhnlobaoaaLwIm
namespace Go.Proofs.Ytahilkhnlobaoaa
open Go.ChangeShapes Go.WideShapes Go.ChangeAt Go.RowKit

set_option maxRecDepth 100000 in
theorem isModule_lifted (os : Os) (started : os.Started) (H : Type) (enc : TypeId × Value → H) :
    ReturnsInHanded {} Try.checked os 7 .any (Rows.fnExactIsModuleSpec.pre6 enc Try.prog Try.f7 Rows.fnExactIsModuleRow.domain false) (Rows.fnExactIsModuleSpec.post enc Try.prog Try.f7 false true false false) := by
  refine returnsInHanded_of_change (C := Try.checked) own_ started (by kernel_rfl) Try.func7
    (ChangeSpec.witness6 (enc := enc) (C := Try.checked) false ⟨#[], #[.agg #[.slice none 0 0], .agg #[.int .i64 0, .slice none 0 0]], []⟩ 8 (by kernel_rfl) (by kernel_rfl) (by kernel_rfl) (by kernel_rfl)) ?_
  intro W base args ds gs before hval0 hW hcnd _
  have hval : ∀ (j : Nat) t v, Try.f7.params[j]? = some t → args[j]? = some v → Value.okWide Try.prog W .any base t v := hval0
  have hW' := hW
  obtain ⟨p, q, hA0, hV, rfl, hfz, hnd⟩ := hW
  have hA : DataW.TrodAll enc Try.prog W 0 (fun _ => true) true Try.f7.params.toList args.toList ds p := hA0
  rw [Try.params7] at hA hval
  obtain ⟨v0, v1, d0, d1, p0, p1, rfl, rfl, rfl, h0, h1⟩ := trodAll_two hA
  obtain ⟨rfl, rfl⟩ := trodVars_none hV
  obtain ⟨A, t, c, rfl, hR, hn, hl, _⟩ := open_group (hval 0 43 v0 rfl rfl) h0
  obtain ⟨m, L, us, d, rfl, hX, hm⟩ := open_module (hval 1 59 v1 rfl rfl) h1
  clear hA0 hval0
  simp only [List.append_nil] at hW'
  have hlt0 : ∀ x ∈ p0, x.block < W.heap.size := fun x hx => hW'.lt x (by simp [hx])
  have hlt1 : ∀ x ∈ p1, x.block < W.heap.size := fun x hx => hW'.lt x (by simp [hx])
  refine (lawIsModule_any A L t m us c d W hR hX hn hl hm).mono fun e W' ⟨he, hb⟩ => ?_
  subst he
  exact ⟨_, rfl, law_post (pa := p0 ++ p1) hW' hb rfl rfl rfl (trodAll_mk2 (Below.trod laidOut_ (by kernel_rfl) (of_decide_eq_true (by kernel_rfl)) h0 hb hlt0) (Below.trod laidOut_ (by kernel_rfl) (of_decide_eq_true (by kernel_rfl)) h1 hb hlt1)) (by simp)⟩

theorem isModule_j10 : (Rows.fnExactIsModuleRow.inPlace == Try.prog.inPlace 7) = true := by kernel_rfl
theorem isModule_j11 : (Rows.fnExactIsModuleRow.unfollowed == Try.prog.unfollowed 7) = true := by kernel_rfl
theorem isModule_j12 : (Rows.fnExactIsModuleRow.recurses == Try.prog.recurses 7) = true := by kernel_rfl
theorem isModule_j13 : (Rows.fnExactIsModuleRow.named == Try.prog.varsNamed 7) = true := by kernel_rfl
theorem isModule_j5 : namedTie Try.prog Rows.fnExactIsModuleRow.named Rows.fnExactIsModuleSpec.vars = true := by kernel_rfl
theorem isModule_j23 : (Rows.fnExactIsModuleRow.plainKeys == Try.prog.plainKeys) = true := by kernel_rfl
theorem isModule_j27 : (Rows.fnExactIsModuleRow.lifted == Try.prog.liftsFinal) = true := by rw [jp_final]; rfl
theorem isModule_j28 : (Try.prog.make == some Rows.fnExactIsModuleRow.make) = true := by rw [jp_make]; rfl

theorem isModule_closed : joinedFacts Try.prog 7 Try.f7 Rows.fnExactIsModuleSpec Rows.fnExactIsModuleRow = true :=
  joined_parts (by kernel_rfl) jp_laid jp_maps (by kernel_rfl) isModule_j5 (by kernel_rfl) jp_stops (by kernel_rfl) jp_knobs isModule_j10 isModule_j11 isModule_j12 isModule_j13 (by kernel_rfl) (by kernel_rfl) (by kernel_rfl) (by kernel_rfl) (by kernel_rfl) (by kernel_rfl) (by kernel_rfl) (by kernel_rfl) (by kernel_rfl)
    isModule_j23 (by kernel_rfl) jp_heard jp_enter isModule_j27 isModule_j28 (by kernel_rfl) (by kernel_rfl) (by kernel_rfl) (by kernel_rfl)

theorem isModule_named : Try.pinned.checked.prog.funcNamed Rows.fnExactIsModuleRow.func = some 7 := by kernel_rfl

theorem isModule_holds : Rows.FnExactIsModuleSaid :=
  OpenClaim.holds_of_wide 7 Try.f7 rfl rfl rfl rfl rfl rfl rfl ⟨rfl, rfl, rfl, rfl, rfl⟩ rfl rfl rfl rfl rfl isModule_named Try.func7 isModule_closed
    (of_decide_eq_true (by kernel_rfl)) (by unfold Func.isWrapper; first | (rw [if_pos (by decide +kernel)]; kernel_rfl) | (rw [if_neg (by decide +kernel)]; exact ⟨rfl, rfl⟩))
    (fun os started H enc _ => isModule_lifted os started H enc)

end Go.Proofs.Ytahilkhnlobaoaa
