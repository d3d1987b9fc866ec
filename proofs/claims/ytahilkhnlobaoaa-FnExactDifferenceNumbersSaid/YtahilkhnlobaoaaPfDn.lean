/-
  At every group value and every module value that can be read: FnExactDifferenceNumbers answers true and its arguments read as before: DifferenceNumbers answers as its model does. No condition.
-/
import Derived.Test.YtahilkhnlobaoaaFrm2
import Derived.Test.YtahilkhnlobaoaaJp
import Derived.Test.YtahilkhnlobaoaaLwDn
namespace Go.Proofs.Ytahilkhnlobaoaa
open Go.ChangeShapes Go.WideShapes Go.ChangeAt Go.RowKit

set_option maxRecDepth 100000 in
theorem differenceNumbers_lifted (os : Os) (started : os.Started) (H : Type) (enc : TypeId × Value → H) :
    ReturnsInHanded {} Try.checked os 12 .any (Rows.fnExactDifferenceNumbersSpec.pre6 enc Try.prog Try.f12 Rows.fnExactDifferenceNumbersRow.domain false) (Rows.fnExactDifferenceNumbersSpec.post enc Try.prog Try.f12 false true false false) := by
  refine returnsInHanded_of_change (C := Try.checked) own_ started (by kernel_rfl) Try.func12
    (ChangeSpec.witness6 (enc := enc) (C := Try.checked) false ⟨#[], #[.agg #[.slice none 0 0], .agg #[.int .i64 0, .slice none 0 0]], []⟩ 8 (by kernel_rfl) (by kernel_rfl) (by kernel_rfl) (by kernel_rfl)) ?_
  intro W base args ds gs before hval0 hW hcnd _
  have hval : ∀ (j : Nat) t v, Try.f12.params[j]? = some t → args[j]? = some v → Value.okWide Try.prog W .any base t v := hval0
  have hW' := hW
  obtain ⟨p, q, hA0, hV, rfl, hfz, hnd⟩ := hW
  have hA : DataW.TrodAll enc Try.prog W 0 (fun _ => true) true Try.f12.params.toList args.toList ds p := hA0
  rw [Try.params12] at hA hval
  obtain ⟨v0, v1, d0, d1, p0, p1, rfl, rfl, rfl, h0, h1⟩ := trodAll_two hA
  obtain ⟨rfl, rfl⟩ := trodVars_none hV
  obtain ⟨A, t, c, rfl, hR, hn, hl, _⟩ := open_group (hval 0 43 v0 rfl rfl) h0
  obtain ⟨m, L, us, d, rfl, hX, hm⟩ := open_module (hval 1 59 v1 rfl rfl) h1
  clear hA0 hval0
  simp only [List.append_nil] at hW'
  have hlt0 : ∀ x ∈ p0, x.block < W.heap.size := fun x hx => hW'.lt x (by simp [hx])
  have hlt1 : ∀ x ∈ p1, x.block < W.heap.size := fun x hx => hW'.lt x (by simp [hx])
  refine (lawDifferenceNumbers_any A L t m us c d W hR hX hn hl hm).mono fun e W' ⟨he, hb⟩ => ?_
  subst he
  exact ⟨_, rfl, law_post (pa := p0 ++ p1) hW' hb rfl rfl rfl (trodAll_mk2 (Below.trod laidOut_ (by kernel_rfl) (of_decide_eq_true (by kernel_rfl)) h0 hb hlt0) (Below.trod laidOut_ (by kernel_rfl) (of_decide_eq_true (by kernel_rfl)) h1 hb hlt1)) (by simp)⟩

theorem differenceNumbers_j10 : (Rows.fnExactDifferenceNumbersRow.inPlace == Try.prog.inPlace 12) = true := by kernel_rfl
theorem differenceNumbers_j11 : (Rows.fnExactDifferenceNumbersRow.unfollowed == Try.prog.unfollowed 12) = true := by kernel_rfl
theorem differenceNumbers_j12 : (Rows.fnExactDifferenceNumbersRow.recurses == Try.prog.recurses 12) = true := by kernel_rfl
theorem differenceNumbers_j13 : (Rows.fnExactDifferenceNumbersRow.named == Try.prog.varsNamed 12) = true := by kernel_rfl
theorem differenceNumbers_j5 : namedTie Try.prog Rows.fnExactDifferenceNumbersRow.named Rows.fnExactDifferenceNumbersSpec.vars = true := by kernel_rfl
theorem differenceNumbers_j23 : (Rows.fnExactDifferenceNumbersRow.plainKeys == Try.prog.plainKeys) = true := by kernel_rfl
theorem differenceNumbers_j27 : (Rows.fnExactDifferenceNumbersRow.lifted == Try.prog.liftsFinal) = true := by rw [jp_final]; rfl
theorem differenceNumbers_j28 : (Try.prog.make == some Rows.fnExactDifferenceNumbersRow.make) = true := by rw [jp_make]; rfl

theorem differenceNumbers_closed : joinedFacts Try.prog 12 Try.f12 Rows.fnExactDifferenceNumbersSpec Rows.fnExactDifferenceNumbersRow = true :=
  joined_parts (by kernel_rfl) jp_laid jp_maps (by kernel_rfl) differenceNumbers_j5 (by kernel_rfl) jp_stops (by kernel_rfl) jp_knobs differenceNumbers_j10 differenceNumbers_j11 differenceNumbers_j12 differenceNumbers_j13 (by kernel_rfl) (by kernel_rfl) (by kernel_rfl) (by kernel_rfl) (by kernel_rfl) (by kernel_rfl) (by kernel_rfl) (by kernel_rfl) (by kernel_rfl)
    differenceNumbers_j23 (by kernel_rfl) jp_heard jp_enter differenceNumbers_j27 differenceNumbers_j28 (by kernel_rfl) (by kernel_rfl) (by kernel_rfl) (by kernel_rfl)

theorem differenceNumbers_named : Try.pinned.checked.prog.funcNamed Rows.fnExactDifferenceNumbersRow.func = some 12 := by kernel_rfl

theorem differenceNumbers_holds : Rows.FnExactDifferenceNumbersSaid :=
  OpenClaim.holds_of_wide 12 Try.f12 rfl rfl rfl rfl rfl rfl rfl ⟨rfl, rfl, rfl, rfl, rfl⟩ rfl rfl rfl rfl rfl differenceNumbers_named Try.func12 differenceNumbers_closed
    (of_decide_eq_true (by kernel_rfl)) (by unfold Func.isWrapper; first | (rw [if_pos (by decide +kernel)]; kernel_rfl) | (rw [if_neg (by decide +kernel)]; exact ⟨rfl, rfl⟩))
    (fun os started H enc _ => differenceNumbers_lifted os started H enc)

end Go.Proofs.Ytahilkhnlobaoaa
