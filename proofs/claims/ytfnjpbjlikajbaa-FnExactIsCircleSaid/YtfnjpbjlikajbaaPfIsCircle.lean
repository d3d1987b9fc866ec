/-
  At every value of each parameter that can be read (a number, a number, a number): FnExactIsCircle answers true and its arguments read as before: IsCircle answers as its model does. No condition.
-/
import Derived.Test.YtfnjpbjlikajbaaFra
import Derived.Test.YtfnjpbjlikajbaaJp
import Derived.Test.YtfnjpbjlikajbaaLwIsCircle
import Derived.Test.YtfnjpbjlikajbaaJi
namespace Go.Proofs.Ytfnjpbjlikajbaa
open Go.ChangeShapes Go.WideShapes Go.ChangeAt Go.RowKit

set_option maxRecDepth 100000 in
theorem isCircle_lifted (os : Os) (started : os.Started) (H : Type) (enc : TypeId × Value → H) :
    ReturnsInHanded {} Try.checked os 3 .any (Rows.fnExactIsCircleSpec.pre6 enc Try.prog Try.f3 Rows.fnExactIsCircleRow.domain false) (Rows.fnExactIsCircleSpec.post enc Try.prog Try.f3 false true false false) := by
  refine returnsInHanded_of_change (C := Try.checked) own_ started (by kernel_rfl) Try.func3
    (ChangeSpec.witness6 (enc := enc) (C := Try.checked) false ⟨#[], #[.int .i64 0, .int .i64 0, .int .i64 0], []⟩ 8 (by kernel_rfl) (by kernel_rfl) (by kernel_rfl) (by kernel_rfl)) ?_
  intro W base args ds gs before hval0 hW hcnd _
  have hval : ∀ (j : Nat) t v, Try.f3.params[j]? = some t → args[j]? = some v → Value.okWide Try.prog W .any base t v := hval0
  have hW' := hW
  obtain ⟨p, q, hA0, hV, rfl, hfz, hnd⟩ := hW
  have hA : DataW.TrodAll enc Try.prog W 0 (fun _ => true) true Try.f3.params.toList args.toList ds p := hA0
  rw [Try.params3] at hA hval
  obtain ⟨v0, v1, v2, d0, d1, d2, p0, p1, p2, rfl, rfl, rfl, h0, h1, h2⟩ := trodAll_three hA
  obtain ⟨rfl, rfl⟩ := trodVars_none hV
  obtain ⟨m0, rfl, rfl, rfl, w0⟩ := open_int Try.underlying2 (hval 0 2 v0 rfl rfl) h0
  obtain ⟨m1, rfl, rfl, rfl, w1⟩ := open_int Try.underlying2 (hval 1 2 v1 rfl rfl) h1
  obtain ⟨m2, rfl, rfl, rfl, w2⟩ := open_int Try.underlying2 (hval 2 2 v2 rfl rfl) h2
  clear hA0 hval0
  simp only [List.append_nil] at hW'
  refine (lawIsCircle_any m0 m1 m2 (qIsCircle0 m0 m1 m2) W (specIsCircle_ex m0 m1 m2) (implIsCircle_ex m0 m1 m2)).mono fun e W' ⟨he, hb⟩ => ?_
  subst he
  exact ⟨_, rfl, law_post (pa := [] ++ ([] ++ ([]))) hW' hb rfl rfl rfl (trodAll_mk3 (shut_int Try.underlying2 w0) (shut_int Try.underlying2 w1) (shut_int Try.underlying2 w2)) (by simp)⟩

theorem isCircle_j10 : (Rows.fnExactIsCircleRow.inPlace == Try.prog.inPlace 3) = true := by kernel_rfl
theorem isCircle_j11 : (Rows.fnExactIsCircleRow.unfollowed == Try.prog.unfollowed 3) = true := by kernel_rfl
theorem isCircle_j12 : (Rows.fnExactIsCircleRow.recurses == Try.prog.recurses 3) = true := by kernel_rfl
theorem isCircle_j13 : (Rows.fnExactIsCircleRow.named == Try.prog.varsNamed 3) = true := by kernel_rfl
theorem isCircle_j5 : namedTie Try.prog Rows.fnExactIsCircleRow.named Rows.fnExactIsCircleSpec.vars = true := by kernel_rfl
theorem isCircle_j23 : (Rows.fnExactIsCircleRow.plainKeys == Try.prog.plainKeys) = true := by kernel_rfl
theorem isCircle_j27 : (Rows.fnExactIsCircleRow.lifted == Try.prog.liftsFinal) = true := by rw [jp_final]; rfl
theorem isCircle_j28 : (Try.prog.make == some Rows.fnExactIsCircleRow.make) = true := by rw [jp_make]; rfl

theorem isCircle_closed : joinedFacts Try.prog 3 Try.f3 Rows.fnExactIsCircleSpec Rows.fnExactIsCircleRow = true :=
  joined_parts (by kernel_rfl) jp_laid jp_maps (by kernel_rfl) isCircle_j5 (by kernel_rfl) jp_stops (by kernel_rfl) jp_knobs isCircle_j10 isCircle_j11 isCircle_j12 isCircle_j13 (by kernel_rfl) (by kernel_rfl) (by kernel_rfl) (by kernel_rfl) (by kernel_rfl) (by kernel_rfl) (by kernel_rfl) (by kernel_rfl) (by kernel_rfl)
    isCircle_j23 (by kernel_rfl) jp_heard jp_enter isCircle_j27 isCircle_j28 (by kernel_rfl) (by kernel_rfl) (by kernel_rfl) (by kernel_rfl)

theorem isCircle_named : Try.pinned.checked.prog.funcNamed Rows.fnExactIsCircleRow.func = some 3 := by kernel_rfl

theorem isCircle_holds : Rows.FnExactIsCircleSaid :=
  OpenClaim.holds_of_wide 3 Try.f3 rfl rfl rfl rfl rfl rfl rfl ⟨rfl, rfl, rfl, rfl, rfl⟩ rfl rfl rfl rfl rfl isCircle_named Try.func3 isCircle_closed
    (of_decide_eq_true (by kernel_rfl)) (by unfold Func.isWrapper; first | (rw [if_pos (by decide +kernel)]; kernel_rfl) | (rw [if_neg (by decide +kernel)]; exact ⟨rfl, rfl⟩))
    (fun os started H enc _ => isCircle_lifted os started H enc)

end Go.Proofs.Ytfnjpbjlikajbaa
