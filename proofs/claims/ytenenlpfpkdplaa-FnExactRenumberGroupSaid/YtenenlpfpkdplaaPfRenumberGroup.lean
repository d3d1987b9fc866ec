/-
  At every value of each parameter that can be read (a group value, a list of numbers): FnExactRenumberGroup answers true and its arguments read as before: RenumberGroup answers as its model does. No condition.
-/
import Derived.Test.YtenenlpfpkdplaaFra
import Derived.Test.YtenenlpfpkdplaaJp
import Derived.Test.YtenenlpfpkdplaaLwRenumberGroup
import Derived.Test.YtenenlpfpkdplaaYz
namespace Go.Proofs.Ytenenlpfpkdplaa
open Go.ChangeShapes Go.WideShapes Go.ChangeAt Go.RowKit

set_option maxRecDepth 100000 in
theorem renumberGroup_lifted (os : Os) (started : os.Started) (H : Type) (enc : TypeId × Value → H) :
    ReturnsInHanded {} Try.checked os 5 .any (Rows.fnExactRenumberGroupSpec.pre6 enc Try.prog Try.f5 Rows.fnExactRenumberGroupRow.domain false) (Rows.fnExactRenumberGroupSpec.post enc Try.prog Try.f5 false true false false) := by
  refine returnsInHanded_of_change (C := Try.checked) own_ started (by kernel_rfl) Try.func5
    (ChangeSpec.witness6 (enc := enc) (C := Try.checked) false ⟨#[], #[.agg #[.slice none 0 0], .slice none 0 0], []⟩ 8 (by kernel_rfl) (by kernel_rfl) (by kernel_rfl) (by kernel_rfl)) ?_
  intro W base args ds gs before hval0 hW hcnd _
  have hval : ∀ (j : Nat) t v, Try.f5.params[j]? = some t → args[j]? = some v → Value.okWide Try.prog W .any base t v := hval0
  have hW' := hW
  obtain ⟨p, q, hA0, hV, rfl, hfz, hnd⟩ := hW
  have hA : DataW.TrodAll enc Try.prog W 0 (fun _ => true) true Try.f5.params.toList args.toList ds p := hA0
  rw [Try.params5] at hA hval
  obtain ⟨v0, v1, d0, d1, p0, p1, rfl, rfl, rfl, h0, h1⟩ := trodAll_two hA
  obtain ⟨rfl, rfl⟩ := trodVars_none hV
  obtain ⟨A0, t0, c0, rfl, hR0, hn0, hl0, _⟩ := open_group (hval 0 24 v0 rfl rfl) h0
  obtain ⟨A1, t1, c1, rfl, hR1, hn1⟩ := open_list (hval 1 26 v1 rfl rfl) h1
  clear hA0 hval0
  simp only [List.append_nil] at hW'
  have hlt0 : ∀ x ∈ p0, x.block < W.heap.size := fun x hx => hW'.lt x (by simp [hx])
  have hlt1 : ∀ x ∈ p1, x.block < W.heap.size := fun x hx => hW'.lt x (by simp [hx])
  refine (lawRenumberGroup_any A0 t0 c0 A1 t1 c1 (yRenumberGroup0 t0 t1) (qRenumberGroup1 t0 t1) W hR0 hn0 hl0 hR1 hn1 (renumberGroup_small0 t0 t1) (specRenumberGroup_ex t0 t1) (implRenumberGroup_ex t0 t1)).mono fun e W' ⟨he, hb⟩ => ?_
  subst he
  exact ⟨_, rfl, law_post (pa := p0 ++ (p1)) hW' hb rfl rfl rfl (trodAll_mk2 (Below.trod laidOut_ (by kernel_rfl) (of_decide_eq_true (by kernel_rfl)) h0 hb hlt0) (Below.trod laidOut_ (by kernel_rfl) (of_decide_eq_true (by kernel_rfl)) h1 hb hlt1)) (by simp)⟩

theorem renumberGroup_j10 : (Rows.fnExactRenumberGroupRow.inPlace == Try.prog.inPlace 5) = true := by kernel_rfl
theorem renumberGroup_j11 : (Rows.fnExactRenumberGroupRow.unfollowed == Try.prog.unfollowed 5) = true := by kernel_rfl
theorem renumberGroup_j12 : (Rows.fnExactRenumberGroupRow.recurses == Try.prog.recurses 5) = true := by kernel_rfl
theorem renumberGroup_j13 : (Rows.fnExactRenumberGroupRow.named == Try.prog.varsNamed 5) = true := by kernel_rfl
theorem renumberGroup_j5 : namedTie Try.prog Rows.fnExactRenumberGroupRow.named Rows.fnExactRenumberGroupSpec.vars = true := by kernel_rfl
theorem renumberGroup_j23 : (Rows.fnExactRenumberGroupRow.plainKeys == Try.prog.plainKeys) = true := by kernel_rfl
theorem renumberGroup_j27 : (Rows.fnExactRenumberGroupRow.lifted == Try.prog.liftsFinal) = true := by rw [jp_final]; rfl
theorem renumberGroup_j28 : (Try.prog.make == some Rows.fnExactRenumberGroupRow.make) = true := by rw [jp_make]; rfl

theorem renumberGroup_closed : joinedFacts Try.prog 5 Try.f5 Rows.fnExactRenumberGroupSpec Rows.fnExactRenumberGroupRow = true :=
  joined_parts (by kernel_rfl) jp_laid jp_maps (by kernel_rfl) renumberGroup_j5 (by kernel_rfl) jp_stops (by kernel_rfl) jp_knobs renumberGroup_j10 renumberGroup_j11 renumberGroup_j12 renumberGroup_j13 (by kernel_rfl) (by kernel_rfl) (by kernel_rfl) (by kernel_rfl) (by kernel_rfl) (by kernel_rfl) (by kernel_rfl) (by kernel_rfl) (by kernel_rfl)
    renumberGroup_j23 (by kernel_rfl) jp_heard jp_enter renumberGroup_j27 renumberGroup_j28 (by kernel_rfl) (by kernel_rfl) (by kernel_rfl) (by kernel_rfl)

theorem renumberGroup_named : Try.pinned.checked.prog.funcNamed Rows.fnExactRenumberGroupRow.func = some 5 := by kernel_rfl

theorem renumberGroup_holds : Rows.FnExactRenumberGroupSaid :=
  OpenClaim.holds_of_wide 5 Try.f5 rfl rfl rfl rfl rfl rfl rfl ⟨rfl, rfl, rfl, rfl, rfl⟩ rfl rfl rfl rfl rfl renumberGroup_named Try.func5 renumberGroup_closed
    (of_decide_eq_true (by kernel_rfl)) (by unfold Func.isWrapper; first | (rw [if_pos (by decide +kernel)]; kernel_rfl) | (rw [if_neg (by decide +kernel)]; exact ⟨rfl, rfl⟩))
    (fun os started H enc _ => renumberGroup_lifted os started H enc)

end Go.Proofs.Ytenenlpfpkdplaa
