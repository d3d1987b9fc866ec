/-
  At every value of each parameter that can be read (a group value, a group value): FnExactDirectProduct answers true and its arguments read as before: DirectProduct answers as its model does. No condition.
-/
import Derived.Test.YtenenlpfpkdplaaFra
import Derived.Test.YtenenlpfpkdplaaJp
import Derived.Test.YtenenlpfpkdplaaLwDirectProduct
import Derived.Test.YtenenlpfpkdplaaDq
namespace Go.Proofs.Ytenenlpfpkdplaa
open Go.ChangeShapes Go.WideShapes Go.ChangeAt Go.RowKit

set_option maxRecDepth 100000 in
theorem directProduct_lifted (os : Os) (started : os.Started) (H : Type) (enc : TypeId × Value → H) :
    ReturnsInHanded {} Try.checked os 4 .any (Rows.fnExactDirectProductSpec.pre6 enc Try.prog Try.f4 Rows.fnExactDirectProductRow.domain false) (Rows.fnExactDirectProductSpec.post enc Try.prog Try.f4 false true false false) := by
  refine returnsInHanded_of_change (C := Try.checked) own_ started (by kernel_rfl) Try.func4
    (ChangeSpec.witness6 (enc := enc) (C := Try.checked) false ⟨#[], #[.agg #[.slice none 0 0], .agg #[.slice none 0 0]], []⟩ 8 (by kernel_rfl) (by kernel_rfl) (by kernel_rfl) (by kernel_rfl)) ?_
  intro W base args ds gs before hval0 hW hcnd _
  have hval : ∀ (j : Nat) t v, Try.f4.params[j]? = some t → args[j]? = some v → Value.okWide Try.prog W .any base t v := hval0
  have hW' := hW
  obtain ⟨p, q, hA0, hV, rfl, hfz, hnd⟩ := hW
  have hA : DataW.TrodAll enc Try.prog W 0 (fun _ => true) true Try.f4.params.toList args.toList ds p := hA0
  rw [Try.params4] at hA hval
  obtain ⟨v0, v1, d0, d1, p0, p1, rfl, rfl, rfl, h0, h1⟩ := trodAll_two hA
  obtain ⟨rfl, rfl⟩ := trodVars_none hV
  obtain ⟨A0, t0, c0, rfl, hR0, hn0, hl0, _⟩ := open_group (hval 0 24 v0 rfl rfl) h0
  obtain ⟨A1, t1, c1, rfl, hR1, hn1, hl1, _⟩ := open_group (hval 1 24 v1 rfl rfl) h1
  clear hA0 hval0
  simp only [List.append_nil] at hW'
  have hlt0 : ∀ x ∈ p0, x.block < W.heap.size := fun x hx => hW'.lt x (by simp [hx])
  have hlt1 : ∀ x ∈ p1, x.block < W.heap.size := fun x hx => hW'.lt x (by simp [hx])
  refine (lawDirectProduct_any A0 t0 c0 A1 t1 c1 (yDirectProduct0 t0 t1) (qDirectProduct1 t0 t1) W hR0 hn0 hl0 hR1 hn1 hl1 (directProduct_small0 t0 t1) (specDirectProduct_ex t0 t1) (implDirectProduct_ex t0 t1)).mono fun e W' ⟨he, hb⟩ => ?_
  subst he
  exact ⟨_, rfl, law_post (pa := p0 ++ (p1)) hW' hb rfl rfl rfl (trodAll_mk2 (Below.trod laidOut_ (by kernel_rfl) (of_decide_eq_true (by kernel_rfl)) h0 hb hlt0) (Below.trod laidOut_ (by kernel_rfl) (of_decide_eq_true (by kernel_rfl)) h1 hb hlt1)) (by simp)⟩

theorem directProduct_j10 : (Rows.fnExactDirectProductRow.inPlace == Try.prog.inPlace 4) = true := by kernel_rfl
theorem directProduct_j11 : (Rows.fnExactDirectProductRow.unfollowed == Try.prog.unfollowed 4) = true := by kernel_rfl
theorem directProduct_j12 : (Rows.fnExactDirectProductRow.recurses == Try.prog.recurses 4) = true := by kernel_rfl
theorem directProduct_j13 : (Rows.fnExactDirectProductRow.named == Try.prog.varsNamed 4) = true := by kernel_rfl
theorem directProduct_j5 : namedTie Try.prog Rows.fnExactDirectProductRow.named Rows.fnExactDirectProductSpec.vars = true := by kernel_rfl
theorem directProduct_j23 : (Rows.fnExactDirectProductRow.plainKeys == Try.prog.plainKeys) = true := by kernel_rfl
theorem directProduct_j27 : (Rows.fnExactDirectProductRow.lifted == Try.prog.liftsFinal) = true := by rw [jp_final]; rfl
theorem directProduct_j28 : (Try.prog.make == some Rows.fnExactDirectProductRow.make) = true := by rw [jp_make]; rfl

theorem directProduct_closed : joinedFacts Try.prog 4 Try.f4 Rows.fnExactDirectProductSpec Rows.fnExactDirectProductRow = true :=
  joined_parts (by kernel_rfl) jp_laid jp_maps (by kernel_rfl) directProduct_j5 (by kernel_rfl) jp_stops (by kernel_rfl) jp_knobs directProduct_j10 directProduct_j11 directProduct_j12 directProduct_j13 (by kernel_rfl) (by kernel_rfl) (by kernel_rfl) (by kernel_rfl) (by kernel_rfl) (by kernel_rfl) (by kernel_rfl) (by kernel_rfl) (by kernel_rfl)
    directProduct_j23 (by kernel_rfl) jp_heard jp_enter directProduct_j27 directProduct_j28 (by kernel_rfl) (by kernel_rfl) (by kernel_rfl) (by kernel_rfl)

theorem directProduct_named : Try.pinned.checked.prog.funcNamed Rows.fnExactDirectProductRow.func = some 4 := by kernel_rfl

theorem directProduct_holds : Rows.FnExactDirectProductSaid :=
  OpenClaim.holds_of_wide 4 Try.f4 rfl rfl rfl rfl rfl rfl rfl ⟨rfl, rfl, rfl, rfl, rfl⟩ rfl rfl rfl rfl rfl directProduct_named Try.func4 directProduct_closed
    (of_decide_eq_true (by kernel_rfl)) (by unfold Func.isWrapper; first | (rw [if_pos (by decide +kernel)]; kernel_rfl) | (rw [if_neg (by decide +kernel)]; exact ⟨rfl, rfl⟩))
    (fun os started H enc _ => directProduct_lifted os started H enc)

end Go.Proofs.Ytenenlpfpkdplaa
