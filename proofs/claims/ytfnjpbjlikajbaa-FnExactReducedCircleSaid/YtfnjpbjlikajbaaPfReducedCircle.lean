/-
  At every value of each parameter that can be read (a number, a number, a number, a number): FnExactReducedCircle answers true and its arguments read as before: ReducedCircle answers as its model does. No condition.
-/
import Derived.Test.YtfnjpbjlikajbaaFra
import Derived.Test.YtfnjpbjlikajbaaJp
import Derived.Test.YtfnjpbjlikajbaaLwReducedCircle
import Derived.Test.YtfnjpbjlikajbaaJj
namespace Go.Proofs.Ytfnjpbjlikajbaa
open Go.ChangeShapes Go.WideShapes Go.ChangeAt Go.RowKit

set_option maxRecDepth 100000 in
theorem reducedCircle_lifted (os : Os) (started : os.Started) (H : Type) (enc : TypeId × Value → H) :
    ReturnsInHanded {} Try.checked os 9 .any (Rows.fnExactReducedCircleSpec.pre6 enc Try.prog Try.f9 Rows.fnExactReducedCircleRow.domain false) (Rows.fnExactReducedCircleSpec.post enc Try.prog Try.f9 false true false false) := by
  refine returnsInHanded_of_change (C := Try.checked) own_ started (by kernel_rfl) Try.func9
    (ChangeSpec.witness6 (enc := enc) (C := Try.checked) false ⟨#[], #[.int .i64 0, .int .i64 0, .int .i64 0, .int .i64 0], []⟩ 8 (by kernel_rfl) (by kernel_rfl) (by kernel_rfl) (by kernel_rfl)) ?_
  intro W base args ds gs before hval0 hW hcnd _
  have hval : ∀ (j : Nat) t v, Try.f9.params[j]? = some t → args[j]? = some v → Value.okWide Try.prog W .any base t v := hval0
  have hW' := hW
  obtain ⟨p, q, hA0, hV, rfl, hfz, hnd⟩ := hW
  have hA : DataW.TrodAll enc Try.prog W 0 (fun _ => true) true Try.f9.params.toList args.toList ds p := hA0
  rw [Try.params9] at hA hval
  obtain ⟨v0, v1, v2, v3, d0, d1, d2, d3, p0, p1, p2, p3, rfl, rfl, rfl, h0, h1, h2, h3⟩ := trodAll_four hA
  obtain ⟨rfl, rfl⟩ := trodVars_none hV
  obtain ⟨m0, rfl, rfl, rfl, w0⟩ := open_int Try.underlying2 (hval 0 2 v0 rfl rfl) h0
  obtain ⟨m1, rfl, rfl, rfl, w1⟩ := open_int Try.underlying2 (hval 1 2 v1 rfl rfl) h1
  obtain ⟨m2, rfl, rfl, rfl, w2⟩ := open_int Try.underlying2 (hval 2 2 v2 rfl rfl) h2
  obtain ⟨m3, rfl, rfl, rfl, w3⟩ := open_int Try.underlying2 (hval 3 2 v3 rfl rfl) h3
  clear hA0 hval0
  simp only [List.append_nil] at hW'
  refine (lawReducedCircle_any m0 m1 m2 m3 (qReducedCircle0 m0 m1 m2 m3) (qReducedCircle1 m0 m1 m2 m3) (qReducedCircle2 m0 m1 m2 m3) (qReducedCircle3 m0 m1 m2 m3) W (specReducedCircle_ex m0 m1 m2 m3) (implReducedCircle_ex m0 m1 m2 m3)).mono fun e W' ⟨he, hb⟩ => ?_
  subst he
  exact ⟨_, rfl, law_post (pa := [] ++ ([] ++ ([] ++ ([])))) hW' hb rfl rfl rfl (trodAll_mk4 (shut_int Try.underlying2 w0) (shut_int Try.underlying2 w1) (shut_int Try.underlying2 w2) (shut_int Try.underlying2 w3)) (by simp)⟩

theorem reducedCircle_j10 : (Rows.fnExactReducedCircleRow.inPlace == Try.prog.inPlace 9) = true := by kernel_rfl
theorem reducedCircle_j11 : (Rows.fnExactReducedCircleRow.unfollowed == Try.prog.unfollowed 9) = true := by kernel_rfl
theorem reducedCircle_j12 : (Rows.fnExactReducedCircleRow.recurses == Try.prog.recurses 9) = true := by kernel_rfl
theorem reducedCircle_j13 : (Rows.fnExactReducedCircleRow.named == Try.prog.varsNamed 9) = true := by kernel_rfl
theorem reducedCircle_j5 : namedTie Try.prog Rows.fnExactReducedCircleRow.named Rows.fnExactReducedCircleSpec.vars = true := by kernel_rfl
theorem reducedCircle_j23 : (Rows.fnExactReducedCircleRow.plainKeys == Try.prog.plainKeys) = true := by kernel_rfl
theorem reducedCircle_j27 : (Rows.fnExactReducedCircleRow.lifted == Try.prog.liftsFinal) = true := by rw [jp_final]; rfl
theorem reducedCircle_j28 : (Try.prog.make == some Rows.fnExactReducedCircleRow.make) = true := by rw [jp_make]; rfl

theorem reducedCircle_closed : joinedFacts Try.prog 9 Try.f9 Rows.fnExactReducedCircleSpec Rows.fnExactReducedCircleRow = true :=
  joined_parts (by kernel_rfl) jp_laid jp_maps (by kernel_rfl) reducedCircle_j5 (by kernel_rfl) jp_stops (by kernel_rfl) jp_knobs reducedCircle_j10 reducedCircle_j11 reducedCircle_j12 reducedCircle_j13 (by kernel_rfl) (by kernel_rfl) (by kernel_rfl) (by kernel_rfl) (by kernel_rfl) (by kernel_rfl) (by kernel_rfl) (by kernel_rfl) (by kernel_rfl)
    reducedCircle_j23 (by kernel_rfl) jp_heard jp_enter reducedCircle_j27 reducedCircle_j28 (by kernel_rfl) (by kernel_rfl) (by kernel_rfl) (by kernel_rfl)

theorem reducedCircle_named : Try.pinned.checked.prog.funcNamed Rows.fnExactReducedCircleRow.func = some 9 := by kernel_rfl

theorem reducedCircle_holds : Rows.FnExactReducedCircleSaid :=
  OpenClaim.holds_of_wide 9 Try.f9 rfl rfl rfl rfl rfl rfl rfl ⟨rfl, rfl, rfl, rfl, rfl⟩ rfl rfl rfl rfl rfl reducedCircle_named Try.func9 reducedCircle_closed
    (of_decide_eq_true (by kernel_rfl)) (by unfold Func.isWrapper; first | (rw [if_pos (by decide +kernel)]; kernel_rfl) | (rw [if_neg (by decide +kernel)]; exact ⟨rfl, rfl⟩))
    (fun os started H enc _ => reducedCircle_lifted os started H enc)

end Go.Proofs.Ytfnjpbjlikajbaa
