/-
  At every value of each parameter that can be read (a group value, a group value, a list of numbers): FnExactIsHomomorphism answers true and its arguments read as before: IsHomomorphism answers as its model does. No condition.
-/
import Derived.Test.YtdehalkebneaoaaFrm3
import Derived.Test.YtdehalkebneaoaaJp
import Derived.Test.YtdehalkebneaoaaLwIsHomomorphism
import Derived.Test.YtdehalkebneaoaaHe
namespace Go.Proofs.Ytdehalkebneaoaa
open Go.ChangeShapes Go.WideShapes Go.ChangeAt Go.RowKit

set_option maxRecDepth 100000 in
theorem isHomomorphism_lifted (os : Os) (started : os.Started) (H : Type) (enc : TypeId × Value → H) :
    ReturnsInHanded {} Try.checked os 3 .any (Rows.fnExactIsHomomorphismSpec.pre6 enc Try.prog Try.f3 Rows.fnExactIsHomomorphismRow.domain false) (Rows.fnExactIsHomomorphismSpec.post enc Try.prog Try.f3 false true false false) := by
  refine returnsInHanded_of_change (C := Try.checked) own_ started (by kernel_rfl) Try.func3
    (ChangeSpec.witness6 (enc := enc) (C := Try.checked) false ⟨#[], #[.agg #[.slice none 0 0], .agg #[.slice none 0 0], .slice none 0 0], []⟩ 8 (by kernel_rfl) (by kernel_rfl) (by kernel_rfl) (by kernel_rfl)) ?_
  intro W base args ds gs before hval0 hW hcnd _
  have hval : ∀ (j : Nat) t v, Try.f3.params[j]? = some t → args[j]? = some v → Value.okWide Try.prog W .any base t v := hval0
  have hW' := hW
  obtain ⟨p, q, hA0, hV, rfl, hfz, hnd⟩ := hW
  have hA : DataW.TrodAll enc Try.prog W 0 (fun _ => true) true Try.f3.params.toList args.toList ds p := hA0
  rw [Try.params3] at hA hval
  obtain ⟨v0, v1, v2, d0, d1, d2, p0, p1, p2, rfl, rfl, rfl, h0, h1, h2⟩ := trodAll_three hA
  obtain ⟨rfl, rfl⟩ := trodVars_none hV
  obtain ⟨A0, t0, c0, rfl, hR0, hn0, hl0, _⟩ := open_group (hval 0 24 v0 rfl rfl) h0
  obtain ⟨A1, t1, c1, rfl, hR1, hn1, hl1, _⟩ := open_group (hval 1 24 v1 rfl rfl) h1
  obtain ⟨A2, t2, c2, rfl, hR2, hn2⟩ := open_list (hval 2 25 v2 rfl rfl) h2
  clear hA0 hval0
  simp only [List.append_nil] at hW'
  have hlt0 : ∀ x ∈ p0, x.block < W.heap.size := fun x hx => hW'.lt x (by simp [hx])
  have hlt1 : ∀ x ∈ p1, x.block < W.heap.size := fun x hx => hW'.lt x (by simp [hx])
  have hlt2 : ∀ x ∈ p2, x.block < W.heap.size := fun x hx => hW'.lt x (by simp [hx])
  refine (lawIsHomomorphism_any A0 t0 c0 A1 t1 c1 A2 t2 c2 (qIsHomomorphism0 t0 t1 t2) (qIsHomomorphism1 t0 t1 t2) W hR0 hn0 hl0 hR1 hn1 hl1 hR2 hn2 (specIsHomomorphism_ex t0 t1 t2) (implIsHomomorphism_ex t0 t1 t2)).mono fun e W' ⟨he, hb⟩ => ?_
  subst he
  exact ⟨_, rfl, law_post (pa := p0 ++ (p1 ++ (p2))) hW' hb rfl rfl rfl (trodAll_mk3 (Below.trod laidOut_ (by kernel_rfl) (of_decide_eq_true (by kernel_rfl)) h0 hb hlt0) (Below.trod laidOut_ (by kernel_rfl) (of_decide_eq_true (by kernel_rfl)) h1 hb hlt1) (Below.trod laidOut_ (by kernel_rfl) (of_decide_eq_true (by kernel_rfl)) h2 hb hlt2)) (by simp)⟩

theorem isHomomorphism_j10 : (Rows.fnExactIsHomomorphismRow.inPlace == Try.prog.inPlace 3) = true := by kernel_rfl
theorem isHomomorphism_j11 : (Rows.fnExactIsHomomorphismRow.unfollowed == Try.prog.unfollowed 3) = true := by kernel_rfl
theorem isHomomorphism_j12 : (Rows.fnExactIsHomomorphismRow.recurses == Try.prog.recurses 3) = true := by kernel_rfl
theorem isHomomorphism_j13 : (Rows.fnExactIsHomomorphismRow.named == Try.prog.varsNamed 3) = true := by kernel_rfl
theorem isHomomorphism_j5 : namedTie Try.prog Rows.fnExactIsHomomorphismRow.named Rows.fnExactIsHomomorphismSpec.vars = true := by kernel_rfl
theorem isHomomorphism_j23 : (Rows.fnExactIsHomomorphismRow.plainKeys == Try.prog.plainKeys) = true := by kernel_rfl
theorem isHomomorphism_j27 : (Rows.fnExactIsHomomorphismRow.lifted == Try.prog.liftsFinal) = true := by rw [jp_final]; rfl
theorem isHomomorphism_j28 : (Try.prog.make == some Rows.fnExactIsHomomorphismRow.make) = true := by rw [jp_make]; rfl

theorem isHomomorphism_closed : joinedFacts Try.prog 3 Try.f3 Rows.fnExactIsHomomorphismSpec Rows.fnExactIsHomomorphismRow = true :=
  joined_parts (by kernel_rfl) jp_laid jp_maps (by kernel_rfl) isHomomorphism_j5 (by kernel_rfl) jp_stops (by kernel_rfl) jp_knobs isHomomorphism_j10 isHomomorphism_j11 isHomomorphism_j12 isHomomorphism_j13 (by kernel_rfl) (by kernel_rfl) (by kernel_rfl) (by kernel_rfl) (by kernel_rfl) (by kernel_rfl) (by kernel_rfl) (by kernel_rfl) (by kernel_rfl)
    isHomomorphism_j23 (by kernel_rfl) jp_heard jp_enter isHomomorphism_j27 isHomomorphism_j28 (by kernel_rfl) (by kernel_rfl) (by kernel_rfl) (by kernel_rfl)

theorem isHomomorphism_named : Try.pinned.checked.prog.funcNamed Rows.fnExactIsHomomorphismRow.func = some 3 := by kernel_rfl

theorem isHomomorphism_holds : Rows.FnExactIsHomomorphismSaid :=
  OpenClaim.holds_of_wide 3 Try.f3 rfl rfl rfl rfl rfl rfl rfl ⟨rfl, rfl, rfl, rfl, rfl⟩ rfl rfl rfl rfl rfl isHomomorphism_named Try.func3 isHomomorphism_closed
    (of_decide_eq_true (by kernel_rfl)) (by unfold Func.isWrapper; first | (rw [if_pos (by decide +kernel)]; kernel_rfl) | (rw [if_neg (by decide +kernel)]; exact ⟨rfl, rfl⟩))
    (fun os started H enc _ => isHomomorphism_lifted os started H enc)

end Go.Proofs.Ytdehalkebneaoaa
