/-
  At every value of each parameter that can be read (a number, a number, a number, a number): FnExactTateMembers answers true and its arguments read as before: TateMembers answers as its model does. No condition.
-/
import Derived.Test.YtfnjpbjlikajbaaFra
import Derived.Test.YtfnjpbjlikajbaaJp
import Derived.Test.YtfnjpbjlikajbaaLwTateMembers
import Derived.Test.YtfnjpbjlikajbaaJm
import Derived.Test.YtfnjpbjlikajbaaLv
namespace Go.Proofs.Ytfnjpbjlikajbaa
open Go.ChangeShapes Go.WideShapes Go.ChangeAt Go.RowKit

set_option maxRecDepth 100000 in
theorem tateMembers_lifted (os : Os) (started : os.Started) (H : Type) (enc : TypeId × Value → H) :
    ReturnsInHanded {} Try.checked os 6 .any (Rows.fnExactTateMembersSpec.pre6 enc Try.prog Try.f6 Rows.fnExactTateMembersRow.domain false) (Rows.fnExactTateMembersSpec.post enc Try.prog Try.f6 false true false false) := by
  refine returnsInHanded_of_change (C := Try.checked) own_ started (by kernel_rfl) Try.func6
    (ChangeSpec.witness6 (enc := enc) (C := Try.checked) false ⟨#[], #[.int .i64 0, .int .i64 0, .int .i64 0, .int .i64 0], []⟩ 8 (by kernel_rfl) (by kernel_rfl) (by kernel_rfl) (by kernel_rfl)) ?_
  intro W base args ds gs before hval0 hW hcnd _
  have hval : ∀ (j : Nat) t v, Try.f6.params[j]? = some t → args[j]? = some v → Value.okWide Try.prog W .any base t v := hval0
  have hW' := hW
  obtain ⟨p, q, hA0, hV, rfl, hfz, hnd⟩ := hW
  have hA : DataW.TrodAll enc Try.prog W 0 (fun _ => true) true Try.f6.params.toList args.toList ds p := hA0
  rw [Try.params6] at hA hval
  obtain ⟨v0, v1, v2, v3, d0, d1, d2, d3, p0, p1, p2, p3, rfl, rfl, rfl, h0, h1, h2, h3⟩ := trodAll_four hA
  obtain ⟨rfl, rfl⟩ := trodVars_none hV
  obtain ⟨m0, rfl, rfl, rfl, w0⟩ := open_int Try.underlying2 (hval 0 2 v0 rfl rfl) h0
  obtain ⟨m1, rfl, rfl, rfl, w1⟩ := open_int Try.underlying2 (hval 1 2 v1 rfl rfl) h1
  obtain ⟨m2, rfl, rfl, rfl, w2⟩ := open_int Try.underlying2 (hval 2 2 v2 rfl rfl) h2
  obtain ⟨m3, rfl, rfl, rfl, w3⟩ := open_int Try.underlying2 (hval 3 2 v3 rfl rfl) h3
  clear hA0 hval0
  simp only [List.append_nil] at hW'
  refine (lawTateMembers_any m0 m1 m2 m3 (yTateMembers0 m0 m1 m2 m3) (yTateMembers1 m0 m1 m2 m3) (qTateMembers2 m0 m1 m2 m3) W (tateMembers_small0 m0 m1 m2 m3) (tateMembers_small1 m0 m1 m2 m3) (specTateMembers_ex m0 m1 m2 m3) (implTateMembers_ex m0 m1 m2 m3)).mono fun e W' ⟨he, hb⟩ => ?_
  subst he
  exact ⟨_, rfl, law_post (pa := [] ++ ([] ++ ([] ++ ([])))) hW' hb rfl rfl rfl (trodAll_mk4 (shut_int Try.underlying2 w0) (shut_int Try.underlying2 w1) (shut_int Try.underlying2 w2) (shut_int Try.underlying2 w3)) (by simp)⟩

theorem tateMembers_j10 : (Rows.fnExactTateMembersRow.inPlace == Try.prog.inPlace 6) = true := by kernel_rfl
theorem tateMembers_j11 : (Rows.fnExactTateMembersRow.unfollowed == Try.prog.unfollowed 6) = true := by kernel_rfl
theorem tateMembers_j12 : (Rows.fnExactTateMembersRow.recurses == Try.prog.recurses 6) = true := by kernel_rfl
theorem tateMembers_j13 : (Rows.fnExactTateMembersRow.named == Try.prog.varsNamed 6) = true := by kernel_rfl
theorem tateMembers_j5 : namedTie Try.prog Rows.fnExactTateMembersRow.named Rows.fnExactTateMembersSpec.vars = true := by kernel_rfl
theorem tateMembers_j23 : (Rows.fnExactTateMembersRow.plainKeys == Try.prog.plainKeys) = true := by kernel_rfl
theorem tateMembers_j27 : (Rows.fnExactTateMembersRow.lifted == Try.prog.liftsFinal) = true := by rw [jp_final]; rfl
theorem tateMembers_j28 : (Try.prog.make == some Rows.fnExactTateMembersRow.make) = true := by rw [jp_make]; rfl

theorem tateMembers_closed : joinedFacts Try.prog 6 Try.f6 Rows.fnExactTateMembersSpec Rows.fnExactTateMembersRow = true :=
  joined_parts (by kernel_rfl) jp_laid jp_maps (by kernel_rfl) tateMembers_j5 (by kernel_rfl) jp_stops (by kernel_rfl) jp_knobs tateMembers_j10 tateMembers_j11 tateMembers_j12 tateMembers_j13 (by kernel_rfl) (by kernel_rfl) (by kernel_rfl) (by kernel_rfl) (by kernel_rfl) (by kernel_rfl) (by kernel_rfl) (by kernel_rfl) (by kernel_rfl)
    tateMembers_j23 (by kernel_rfl) jp_heard jp_enter tateMembers_j27 tateMembers_j28 (by kernel_rfl) (by kernel_rfl) (by kernel_rfl) (by kernel_rfl)

theorem tateMembers_named : Try.pinned.checked.prog.funcNamed Rows.fnExactTateMembersRow.func = some 6 := by kernel_rfl

theorem tateMembers_holds : Rows.FnExactTateMembersSaid :=
  OpenClaim.holds_of_wide_leaving 6 Try.f6 rfl rfl rfl rfl rfl rfl rfl ⟨rfl, rfl, rfl, rfl, rfl⟩ rfl rfl rfl rfl rfl tateMembers_named Try.func6 tateMembers_closed
    (of_decide_eq_true (by kernel_rfl)) (by unfold Func.isWrapper; first | (rw [if_pos (by decide +kernel)]; kernel_rfl) | (rw [if_neg (by decide +kernel)]; exact ⟨rfl, rfl⟩))
    (fun os started H enc _ => leaving_of_handed (tateMembers_lifted os started H enc))

end Go.Proofs.Ytfnjpbjlikajbaa
