/-
  At every value of each parameter that can be read (a number, a number, a number, a number, a number): FnExactTateClass answers true and its arguments read as before: TateClass answers as its model does. No condition.
-/
import Derived.Test.YtfnjpbjlikajbaaFra
import Derived.Test.YtfnjpbjlikajbaaJp
import Derived.Test.YtfnjpbjlikajbaaLwTateClass
import Derived.Test.YtfnjpbjlikajbaaJj
import Derived.Test.YtfnjpbjlikajbaaLv
namespace Go.Proofs.Ytfnjpbjlikajbaa
open Go.ChangeShapes Go.WideShapes Go.ChangeAt Go.RowKit

set_option maxRecDepth 100000 in
theorem tateClass_lifted (os : Os) (started : os.Started) (H : Type) (enc : TypeId × Value → H) :
    ReturnsInHanded {} Try.checked os 7 .any (Rows.fnExactTateClassSpec.pre6 enc Try.prog Try.f7 Rows.fnExactTateClassRow.domain false) (Rows.fnExactTateClassSpec.post enc Try.prog Try.f7 false true false false) := by
  refine returnsInHanded_of_change (C := Try.checked) own_ started (by kernel_rfl) Try.func7
    (ChangeSpec.witness6 (enc := enc) (C := Try.checked) false ⟨#[], #[.int .i64 0, .int .i64 0, .int .i64 0, .int .i64 0, .int .i64 0], []⟩ 8 (by kernel_rfl) (by kernel_rfl) (by kernel_rfl) (by kernel_rfl)) ?_
  intro W base args ds gs before hval0 hW hcnd _
  have hval : ∀ (j : Nat) t v, Try.f7.params[j]? = some t → args[j]? = some v → Value.okWide Try.prog W .any base t v := hval0
  have hW' := hW
  obtain ⟨p, q, hA0, hV, rfl, hfz, hnd⟩ := hW
  have hA : DataW.TrodAll enc Try.prog W 0 (fun _ => true) true Try.f7.params.toList args.toList ds p := hA0
  rw [Try.params7] at hA hval
  obtain ⟨v0, v1, v2, v3, v4, d0, d1, d2, d3, d4, p0, p1, p2, p3, p4, rfl, rfl, rfl, h0, h1, h2, h3, h4⟩ := trodAll_five hA
  obtain ⟨rfl, rfl⟩ := trodVars_none hV
  obtain ⟨m0, rfl, rfl, rfl, w0⟩ := open_int Try.underlying2 (hval 0 2 v0 rfl rfl) h0
  obtain ⟨m1, rfl, rfl, rfl, w1⟩ := open_int Try.underlying2 (hval 1 2 v1 rfl rfl) h1
  obtain ⟨m2, rfl, rfl, rfl, w2⟩ := open_int Try.underlying2 (hval 2 2 v2 rfl rfl) h2
  obtain ⟨m3, rfl, rfl, rfl, w3⟩ := open_int Try.underlying2 (hval 3 2 v3 rfl rfl) h3
  obtain ⟨m4, rfl, rfl, rfl, w4⟩ := open_int Try.underlying2 (hval 4 2 v4 rfl rfl) h4
  clear hA0 hval0
  simp only [List.append_nil] at hW'
  refine (lawTateClass_any m0 m1 m2 m3 m4 (qTateClass0 m0 m1 m2 m3 m4) (qTateClass1 m0 m1 m2 m3 m4) W (specTateClass_ex m0 m1 m2 m3 m4) (implTateClass_ex m0 m1 m2 m3 m4)).mono fun e W' ⟨he, hb⟩ => ?_
  subst he
  exact ⟨_, rfl, law_post (pa := [] ++ ([] ++ ([] ++ ([] ++ ([]))))) hW' hb rfl rfl rfl (trodAll_mk5 (shut_int Try.underlying2 w0) (shut_int Try.underlying2 w1) (shut_int Try.underlying2 w2) (shut_int Try.underlying2 w3) (shut_int Try.underlying2 w4)) (by simp)⟩

theorem tateClass_j10 : (Rows.fnExactTateClassRow.inPlace == Try.prog.inPlace 7) = true := by kernel_rfl
theorem tateClass_j11 : (Rows.fnExactTateClassRow.unfollowed == Try.prog.unfollowed 7) = true := by kernel_rfl
theorem tateClass_j12 : (Rows.fnExactTateClassRow.recurses == Try.prog.recurses 7) = true := by kernel_rfl
theorem tateClass_j13 : (Rows.fnExactTateClassRow.named == Try.prog.varsNamed 7) = true := by kernel_rfl
theorem tateClass_j5 : namedTie Try.prog Rows.fnExactTateClassRow.named Rows.fnExactTateClassSpec.vars = true := by kernel_rfl
theorem tateClass_j23 : (Rows.fnExactTateClassRow.plainKeys == Try.prog.plainKeys) = true := by kernel_rfl
theorem tateClass_j27 : (Rows.fnExactTateClassRow.lifted == Try.prog.liftsFinal) = true := by rw [jp_final]; rfl
theorem tateClass_j28 : (Try.prog.make == some Rows.fnExactTateClassRow.make) = true := by rw [jp_make]; rfl

theorem tateClass_closed : joinedFacts Try.prog 7 Try.f7 Rows.fnExactTateClassSpec Rows.fnExactTateClassRow = true :=
  joined_parts (by kernel_rfl) jp_laid jp_maps (by kernel_rfl) tateClass_j5 (by kernel_rfl) jp_stops (by kernel_rfl) jp_knobs tateClass_j10 tateClass_j11 tateClass_j12 tateClass_j13 (by kernel_rfl) (by kernel_rfl) (by kernel_rfl) (by kernel_rfl) (by kernel_rfl) (by kernel_rfl) (by kernel_rfl) (by kernel_rfl) (by kernel_rfl)
    tateClass_j23 (by kernel_rfl) jp_heard jp_enter tateClass_j27 tateClass_j28 (by kernel_rfl) (by kernel_rfl) (by kernel_rfl) (by kernel_rfl)

theorem tateClass_named : Try.pinned.checked.prog.funcNamed Rows.fnExactTateClassRow.func = some 7 := by kernel_rfl

theorem tateClass_holds : Rows.FnExactTateClassSaid :=
  OpenClaim.holds_of_wide_leaving 7 Try.f7 rfl rfl rfl rfl rfl rfl rfl ⟨rfl, rfl, rfl, rfl, rfl⟩ rfl rfl rfl rfl rfl tateClass_named Try.func7 tateClass_closed
    (of_decide_eq_true (by kernel_rfl)) (by unfold Func.isWrapper; first | (rw [if_pos (by decide +kernel)]; kernel_rfl) | (rw [if_neg (by decide +kernel)]; exact ⟨rfl, rfl⟩))
    (fun os started H enc _ => leaving_of_handed (tateClass_lifted os started H enc))

end Go.Proofs.Ytfnjpbjlikajbaa
