/-
  At every value of each parameter that can be read (a group value): FnExactGroupText answers true and its arguments read as before: GroupText answers as its model does. No condition.
-/
import Derived.Test.YtmmgmbgnlcfabaaFrm3
import Derived.Test.YtmmgmbgnlcfabaaJp
import Derived.Test.YtmmgmbgnlcfabaaLwGroupText
import Derived.Test.YtmmgmbgnlcfabaaGu
namespace Go.Proofs.Ytmmgmbgnlcfabaa
open Go.ChangeShapes Go.WideShapes Go.ChangeAt Go.RowKit

set_option maxRecDepth 100000 in
theorem groupText_lifted (os : Os) (started : os.Started) (H : Type) (enc : TypeId × Value → H) :
    ReturnsInHanded {} Try.checked os 6 .any (Rows.fnExactGroupTextSpec.pre6 enc Try.prog Try.f6 Rows.fnExactGroupTextRow.domain false) (Rows.fnExactGroupTextSpec.post enc Try.prog Try.f6 false true false false) := by
  refine returnsInHanded_of_change (C := Try.checked) own_ started (by kernel_rfl) Try.func6
    (ChangeSpec.witness6 (enc := enc) (C := Try.checked) false ⟨#[], #[.agg #[.slice none 0 0]], []⟩ 8 (by kernel_rfl) (by kernel_rfl) (by kernel_rfl) (by kernel_rfl)) ?_
  intro W base args ds gs before hval0 hW hcnd _
  have hval : ∀ (j : Nat) t v, Try.f6.params[j]? = some t → args[j]? = some v → Value.okWide Try.prog W .any base t v := hval0
  have hW' := hW
  obtain ⟨p, q, hA0, hV, rfl, hfz, hnd⟩ := hW
  have hA : DataW.TrodAll enc Try.prog W 0 (fun _ => true) true Try.f6.params.toList args.toList ds p := hA0
  rw [Try.params6] at hA hval
  obtain ⟨v0, d0, rfl, rfl, h0⟩ := trodAll_one hA
  obtain ⟨rfl, rfl⟩ := trodVars_none hV
  obtain ⟨A0, t0, c0, rfl, hR0, hn0, hl0, _⟩ := open_group (hval 0 24 v0 rfl rfl) h0
  clear hA0 hval0
  simp only [List.append_nil] at hW'
  have hlt0 : ∀ x ∈ p, x.block < W.heap.size := fun x hx => hW'.lt x (by simp [hx])
  refine (lawGroupText_any A0 t0 c0 (qGroupText0 t0) (qGroupText1 t0) W hR0 hn0 hl0 (specGroupText_ex t0) (implGroupText_ex t0)).mono fun e W' ⟨he, hb⟩ => ?_
  subst he
  exact ⟨_, rfl, law_post (pa := p) hW' hb rfl rfl rfl (trodAll_mk1 (Below.trod laidOut_ (by kernel_rfl) (of_decide_eq_true (by kernel_rfl)) h0 hb hlt0)) (by simp)⟩

theorem groupText_j10 : (Rows.fnExactGroupTextRow.inPlace == Try.prog.inPlace 6) = true := by kernel_rfl
theorem groupText_j11 : (Rows.fnExactGroupTextRow.unfollowed == Try.prog.unfollowed 6) = true := by kernel_rfl
theorem groupText_j12 : (Rows.fnExactGroupTextRow.recurses == Try.prog.recurses 6) = true := by kernel_rfl
theorem groupText_j13 : (Rows.fnExactGroupTextRow.named == Try.prog.varsNamed 6) = true := by kernel_rfl
theorem groupText_j5 : namedTie Try.prog Rows.fnExactGroupTextRow.named Rows.fnExactGroupTextSpec.vars = true := by kernel_rfl
theorem groupText_j23 : (Rows.fnExactGroupTextRow.plainKeys == Try.prog.plainKeys) = true := by kernel_rfl
theorem groupText_j27 : (Rows.fnExactGroupTextRow.lifted == Try.prog.liftsFinal) = true := by rw [jp_final]; rfl
theorem groupText_j28 : (Try.prog.make == some Rows.fnExactGroupTextRow.make) = true := by rw [jp_make]; rfl

theorem groupText_closed : joinedFacts Try.prog 6 Try.f6 Rows.fnExactGroupTextSpec Rows.fnExactGroupTextRow = true :=
  joined_parts (by kernel_rfl) jp_laid jp_maps (by kernel_rfl) groupText_j5 (by kernel_rfl) jp_stops (by kernel_rfl) jp_knobs groupText_j10 groupText_j11 groupText_j12 groupText_j13 (by kernel_rfl) (by kernel_rfl) (by kernel_rfl) (by kernel_rfl) (by kernel_rfl) (by kernel_rfl) (by kernel_rfl) (by kernel_rfl) (by kernel_rfl)
    groupText_j23 (by kernel_rfl) jp_heard jp_enter groupText_j27 groupText_j28 (by kernel_rfl) (by kernel_rfl) (by kernel_rfl) (by kernel_rfl)

theorem groupText_named : Try.pinned.checked.prog.funcNamed Rows.fnExactGroupTextRow.func = some 6 := by kernel_rfl

theorem groupText_holds : Rows.FnExactGroupTextSaid :=
  OpenClaim.holds_of_wide 6 Try.f6 rfl rfl rfl rfl rfl rfl rfl ⟨rfl, rfl, rfl, rfl, rfl⟩ rfl rfl rfl rfl rfl groupText_named Try.func6 groupText_closed
    (of_decide_eq_true (by kernel_rfl)) (by unfold Func.isWrapper; first | (rw [if_pos (by decide +kernel)]; kernel_rfl) | (rw [if_neg (by decide +kernel)]; exact ⟨rfl, rfl⟩))
    (fun os started H enc _ => groupText_lifted os started H enc)

end Go.Proofs.Ytmmgmbgnlcfabaa
