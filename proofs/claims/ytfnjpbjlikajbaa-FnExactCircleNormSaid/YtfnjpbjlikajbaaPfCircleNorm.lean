/-
  At every value of each parameter that can be read (a number, a number, a number): FnExactCircleNorm answers true and its arguments read as before: CircleNorm answers as its model does. No condition.
-/
import Derived.Test.YtfnjpbjlikajbaaFra
import Derived.Test.YtfnjpbjlikajbaaJp
import Derived.Test.YtfnjpbjlikajbaaLwCircleNorm
import Derived.Test.YtfnjpbjlikajbaaJi
namespace Go.Proofs.Ytfnjpbjlikajbaa
open Go.ChangeShapes Go.WideShapes Go.ChangeAt Go.RowKit

set_option maxRecDepth 100000 in
theorem circleNorm_lifted (os : Os) (started : os.Started) (H : Type) (enc : TypeId × Value → H) :
    ReturnsInHanded {} Try.checked os 4 .any (Rows.fnExactCircleNormSpec.pre6 enc Try.prog Try.f4 Rows.fnExactCircleNormRow.domain false) (Rows.fnExactCircleNormSpec.post enc Try.prog Try.f4 false true false false) := by
  refine returnsInHanded_of_change (C := Try.checked) own_ started (by kernel_rfl) Try.func4
    (ChangeSpec.witness6 (enc := enc) (C := Try.checked) false ⟨#[], #[.int .i64 0, .int .i64 0, .int .i64 0], []⟩ 8 (by kernel_rfl) (by kernel_rfl) (by kernel_rfl) (by kernel_rfl)) ?_
  intro W base args ds gs before hval0 hW hcnd _
  have hval : ∀ (j : Nat) t v, Try.f4.params[j]? = some t → args[j]? = some v → Value.okWide Try.prog W .any base t v := hval0
  have hW' := hW
  obtain ⟨p, q, hA0, hV, rfl, hfz, hnd⟩ := hW
  have hA : DataW.TrodAll enc Try.prog W 0 (fun _ => true) true Try.f4.params.toList args.toList ds p := hA0
  rw [Try.params4] at hA hval
  obtain ⟨v0, v1, v2, d0, d1, d2, p0, p1, p2, rfl, rfl, rfl, h0, h1, h2⟩ := trodAll_three hA
  obtain ⟨rfl, rfl⟩ := trodVars_none hV
  obtain ⟨m0, rfl, rfl, rfl, w0⟩ := open_int Try.underlying2 (hval 0 2 v0 rfl rfl) h0
  obtain ⟨m1, rfl, rfl, rfl, w1⟩ := open_int Try.underlying2 (hval 1 2 v1 rfl rfl) h1
  obtain ⟨m2, rfl, rfl, rfl, w2⟩ := open_int Try.underlying2 (hval 2 2 v2 rfl rfl) h2
  clear hA0 hval0
  simp only [List.append_nil] at hW'
  refine (lawCircleNorm_any m0 m1 m2 (qCircleNorm0 m0 m1 m2) (qCircleNorm1 m0 m1 m2) W (specCircleNorm_ex m0 m1 m2) (implCircleNorm_ex m0 m1 m2)).mono fun e W' ⟨he, hb⟩ => ?_
  subst he
  exact ⟨_, rfl, law_post (pa := [] ++ ([] ++ ([]))) hW' hb rfl rfl rfl (trodAll_mk3 (shut_int Try.underlying2 w0) (shut_int Try.underlying2 w1) (shut_int Try.underlying2 w2)) (by simp)⟩

theorem circleNorm_j10 : (Rows.fnExactCircleNormRow.inPlace == Try.prog.inPlace 4) = true := by kernel_rfl
theorem circleNorm_j11 : (Rows.fnExactCircleNormRow.unfollowed == Try.prog.unfollowed 4) = true := by kernel_rfl
theorem circleNorm_j12 : (Rows.fnExactCircleNormRow.recurses == Try.prog.recurses 4) = true := by kernel_rfl
theorem circleNorm_j13 : (Rows.fnExactCircleNormRow.named == Try.prog.varsNamed 4) = true := by kernel_rfl
theorem circleNorm_j5 : namedTie Try.prog Rows.fnExactCircleNormRow.named Rows.fnExactCircleNormSpec.vars = true := by kernel_rfl
theorem circleNorm_j23 : (Rows.fnExactCircleNormRow.plainKeys == Try.prog.plainKeys) = true := by kernel_rfl
theorem circleNorm_j27 : (Rows.fnExactCircleNormRow.lifted == Try.prog.liftsFinal) = true := by rw [jp_final]; rfl
theorem circleNorm_j28 : (Try.prog.make == some Rows.fnExactCircleNormRow.make) = true := by rw [jp_make]; rfl

theorem circleNorm_closed : joinedFacts Try.prog 4 Try.f4 Rows.fnExactCircleNormSpec Rows.fnExactCircleNormRow = true :=
  joined_parts (by kernel_rfl) jp_laid jp_maps (by kernel_rfl) circleNorm_j5 (by kernel_rfl) jp_stops (by kernel_rfl) jp_knobs circleNorm_j10 circleNorm_j11 circleNorm_j12 circleNorm_j13 (by kernel_rfl) (by kernel_rfl) (by kernel_rfl) (by kernel_rfl) (by kernel_rfl) (by kernel_rfl) (by kernel_rfl) (by kernel_rfl) (by kernel_rfl)
    circleNorm_j23 (by kernel_rfl) jp_heard jp_enter circleNorm_j27 circleNorm_j28 (by kernel_rfl) (by kernel_rfl) (by kernel_rfl) (by kernel_rfl)

theorem circleNorm_named : Try.pinned.checked.prog.funcNamed Rows.fnExactCircleNormRow.func = some 4 := by kernel_rfl

theorem circleNorm_holds : Rows.FnExactCircleNormSaid :=
  OpenClaim.holds_of_wide 4 Try.f4 rfl rfl rfl rfl rfl rfl rfl ⟨rfl, rfl, rfl, rfl, rfl⟩ rfl rfl rfl rfl rfl circleNorm_named Try.func4 circleNorm_closed
    (of_decide_eq_true (by kernel_rfl)) (by unfold Func.isWrapper; first | (rw [if_pos (by decide +kernel)]; kernel_rfl) | (rw [if_neg (by decide +kernel)]; exact ⟨rfl, rfl⟩))
    (fun os started H enc _ => circleNorm_lifted os started H enc)

end Go.Proofs.Ytfnjpbjlikajbaa
