/-
  At every value of each parameter that can be read (a number, a number): FnExactUnitsOfCircle answers true and its arguments read as before: UnitsOfCircle answers as its model does. No condition.
-/
import Derived.Test.YtfnjpbjlikajbaaFra
import Derived.Test.YtfnjpbjlikajbaaJp
import Derived.Test.YtfnjpbjlikajbaaLwUnitsOfCircle
import Derived.Test.YtfnjpbjlikajbaaJk
namespace Go.Proofs.Ytfnjpbjlikajbaa
open Go.ChangeShapes Go.WideShapes Go.ChangeAt Go.RowKit

set_option maxRecDepth 100000 in
theorem unitsOfCircle_lifted (os : Os) (started : os.Started) (H : Type) (enc : TypeId × Value → H) :
    ReturnsInHanded {} Try.checked os 8 .any (Rows.fnExactUnitsOfCircleSpec.pre6 enc Try.prog Try.f8 Rows.fnExactUnitsOfCircleRow.domain false) (Rows.fnExactUnitsOfCircleSpec.post enc Try.prog Try.f8 false true false false) := by
  refine returnsInHanded_of_change (C := Try.checked) own_ started (by kernel_rfl) Try.func8
    (ChangeSpec.witness6 (enc := enc) (C := Try.checked) false ⟨#[], #[.int .i64 0, .int .i64 0], []⟩ 8 (by kernel_rfl) (by kernel_rfl) (by kernel_rfl) (by kernel_rfl)) ?_
  intro W base args ds gs before hval0 hW hcnd _
  have hval : ∀ (j : Nat) t v, Try.f8.params[j]? = some t → args[j]? = some v → Value.okWide Try.prog W .any base t v := hval0
  have hW' := hW
  obtain ⟨p, q, hA0, hV, rfl, hfz, hnd⟩ := hW
  have hA : DataW.TrodAll enc Try.prog W 0 (fun _ => true) true Try.f8.params.toList args.toList ds p := hA0
  rw [Try.params8] at hA hval
  obtain ⟨v0, v1, d0, d1, p0, p1, rfl, rfl, rfl, h0, h1⟩ := trodAll_two hA
  obtain ⟨rfl, rfl⟩ := trodVars_none hV
  obtain ⟨m0, rfl, rfl, rfl, w0⟩ := open_int Try.underlying2 (hval 0 2 v0 rfl rfl) h0
  obtain ⟨m1, rfl, rfl, rfl, w1⟩ := open_int Try.underlying2 (hval 1 2 v1 rfl rfl) h1
  clear hA0 hval0
  simp only [List.append_nil] at hW'
  refine (lawUnitsOfCircle_any m0 m1 (yUnitsOfCircle0 m0 m1) (qUnitsOfCircle1 m0 m1) W (unitsOfCircle_small0 m0 m1) (specUnitsOfCircle_ex m0 m1) (implUnitsOfCircle_ex m0 m1)).mono fun e W' ⟨he, hb⟩ => ?_
  subst he
  exact ⟨_, rfl, law_post (pa := [] ++ ([])) hW' hb rfl rfl rfl (trodAll_mk2 (shut_int Try.underlying2 w0) (shut_int Try.underlying2 w1)) (by simp)⟩

theorem unitsOfCircle_j10 : (Rows.fnExactUnitsOfCircleRow.inPlace == Try.prog.inPlace 8) = true := by kernel_rfl
theorem unitsOfCircle_j11 : (Rows.fnExactUnitsOfCircleRow.unfollowed == Try.prog.unfollowed 8) = true := by kernel_rfl
theorem unitsOfCircle_j12 : (Rows.fnExactUnitsOfCircleRow.recurses == Try.prog.recurses 8) = true := by kernel_rfl
theorem unitsOfCircle_j13 : (Rows.fnExactUnitsOfCircleRow.named == Try.prog.varsNamed 8) = true := by kernel_rfl
theorem unitsOfCircle_j5 : namedTie Try.prog Rows.fnExactUnitsOfCircleRow.named Rows.fnExactUnitsOfCircleSpec.vars = true := by kernel_rfl
theorem unitsOfCircle_j23 : (Rows.fnExactUnitsOfCircleRow.plainKeys == Try.prog.plainKeys) = true := by kernel_rfl
theorem unitsOfCircle_j27 : (Rows.fnExactUnitsOfCircleRow.lifted == Try.prog.liftsFinal) = true := by rw [jp_final]; rfl
theorem unitsOfCircle_j28 : (Try.prog.make == some Rows.fnExactUnitsOfCircleRow.make) = true := by rw [jp_make]; rfl

theorem unitsOfCircle_closed : joinedFacts Try.prog 8 Try.f8 Rows.fnExactUnitsOfCircleSpec Rows.fnExactUnitsOfCircleRow = true :=
  joined_parts (by kernel_rfl) jp_laid jp_maps (by kernel_rfl) unitsOfCircle_j5 (by kernel_rfl) jp_stops (by kernel_rfl) jp_knobs unitsOfCircle_j10 unitsOfCircle_j11 unitsOfCircle_j12 unitsOfCircle_j13 (by kernel_rfl) (by kernel_rfl) (by kernel_rfl) (by kernel_rfl) (by kernel_rfl) (by kernel_rfl) (by kernel_rfl) (by kernel_rfl) (by kernel_rfl)
    unitsOfCircle_j23 (by kernel_rfl) jp_heard jp_enter unitsOfCircle_j27 unitsOfCircle_j28 (by kernel_rfl) (by kernel_rfl) (by kernel_rfl) (by kernel_rfl)

theorem unitsOfCircle_named : Try.pinned.checked.prog.funcNamed Rows.fnExactUnitsOfCircleRow.func = some 8 := by kernel_rfl

theorem unitsOfCircle_holds : Rows.FnExactUnitsOfCircleSaid :=
  OpenClaim.holds_of_wide 8 Try.f8 rfl rfl rfl rfl rfl rfl rfl ⟨rfl, rfl, rfl, rfl, rfl⟩ rfl rfl rfl rfl rfl unitsOfCircle_named Try.func8 unitsOfCircle_closed
    (of_decide_eq_true (by kernel_rfl)) (by unfold Func.isWrapper; first | (rw [if_pos (by decide +kernel)]; kernel_rfl) | (rw [if_neg (by decide +kernel)]; exact ⟨rfl, rfl⟩))
    (fun os started H enc _ => unitsOfCircle_lifted os started H enc)

end Go.Proofs.Ytfnjpbjlikajbaa
