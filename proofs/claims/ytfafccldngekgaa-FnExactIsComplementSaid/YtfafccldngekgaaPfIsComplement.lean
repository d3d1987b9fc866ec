/-
  At every value of each parameter that can be read (a group value, a module value, a list of numbers): FnExactIsComplement answers true and its arguments read as before: IsComplement answers as its model does. No condition.
-/
import Derived.Test.YtfafccldngekgaaFra
import Derived.Test.YtfafccldngekgaaJp
import Derived.Test.YtfafccldngekgaaLwIsComplement
import Derived.Test.YtfafccldngekgaaKd
import Derived.Test.YtfafccldngekgaaLv
namespace Go.Proofs.Ytfafccldngekgaa
open Go.ChangeShapes Go.WideShapes Go.ChangeAt Go.RowKit

set_option maxRecDepth 100000 in
theorem isComplement_lifted (os : Os) (started : os.Started) (H : Type) (enc : TypeId × Value → H) :
    ReturnsInHanded {} Try.checked os 9 .any (Rows.fnExactIsComplementSpec.pre6 enc Try.prog Try.f9 Rows.fnExactIsComplementRow.domain false) (Rows.fnExactIsComplementSpec.post enc Try.prog Try.f9 false true false false) := by
  refine returnsInHanded_of_change (C := Try.checked) own_ started (by kernel_rfl) Try.func9
    (ChangeSpec.witness6 (enc := enc) (C := Try.checked) false ⟨#[], #[.agg #[.slice none 0 0], .agg #[.int .i64 0, .slice none 0 0], .slice none 0 0], []⟩ 8 (by kernel_rfl) (by kernel_rfl) (by kernel_rfl) (by kernel_rfl)) ?_
  intro W base args ds gs before hval0 hW hcnd _
  have hval : ∀ (j : Nat) t v, Try.f9.params[j]? = some t → args[j]? = some v → Value.okWide Try.prog W .any base t v := hval0
  have hW' := hW
  obtain ⟨p, q, hA0, hV, rfl, hfz, hnd⟩ := hW
  have hA : DataW.TrodAll enc Try.prog W 0 (fun _ => true) true Try.f9.params.toList args.toList ds p := hA0
  rw [Try.params9] at hA hval
  obtain ⟨v0, v1, v2, d0, d1, d2, p0, p1, p2, rfl, rfl, rfl, h0, h1, h2⟩ := trodAll_three hA
  obtain ⟨rfl, rfl⟩ := trodVars_none hV
  obtain ⟨A0, t0, c0, rfl, hR0, hn0, hl0, _⟩ := open_group (hval 0 24 v0 rfl rfl) h0
  obtain ⟨m1, A1, t1, c1, rfl, hR1, hn1⟩ := open_module (hval 1 27 v1 rfl rfl) h1
  obtain ⟨A2, t2, c2, rfl, hR2, hn2⟩ := open_list (hval 2 25 v2 rfl rfl) h2
  clear hA0 hval0
  simp only [List.append_nil] at hW'
  have hlt0 : ∀ x ∈ p0, x.block < W.heap.size := fun x hx => hW'.lt x (by simp [hx])
  have hlt1 : ∀ x ∈ p1, x.block < W.heap.size := fun x hx => hW'.lt x (by simp [hx])
  have hlt2 : ∀ x ∈ p2, x.block < W.heap.size := fun x hx => hW'.lt x (by simp [hx])
  refine (lawIsComplement_any A0 t0 c0 m1 A1 t1 c1 A2 t2 c2 (qIsComplement0 t0 m1 t1 t2) (qIsComplement1 t0 m1 t1 t2) W hR0 hn0 hl0 hR1 hn1 hR2 hn2 (specIsComplement_ex t0 m1 t1 t2) (implIsComplement_ex t0 m1 t1 t2)).mono fun e W' ⟨he, hb⟩ => ?_
  subst he
  exact ⟨_, rfl, law_post (pa := p0 ++ (p1 ++ (p2))) hW' hb rfl rfl rfl (trodAll_mk3 (Below.trod laidOut_ (by kernel_rfl) (of_decide_eq_true (by kernel_rfl)) h0 hb hlt0) (Below.trod laidOut_ (by kernel_rfl) (of_decide_eq_true (by kernel_rfl)) h1 hb hlt1) (Below.trod laidOut_ (by kernel_rfl) (of_decide_eq_true (by kernel_rfl)) h2 hb hlt2)) (by simp)⟩

theorem isComplement_j10 : (Rows.fnExactIsComplementRow.inPlace == Try.prog.inPlace 9) = true := by kernel_rfl
theorem isComplement_j11 : (Rows.fnExactIsComplementRow.unfollowed == Try.prog.unfollowed 9) = true := by kernel_rfl
theorem isComplement_j12 : (Rows.fnExactIsComplementRow.recurses == Try.prog.recurses 9) = true := by kernel_rfl
theorem isComplement_j13 : (Rows.fnExactIsComplementRow.named == Try.prog.varsNamed 9) = true := by kernel_rfl
theorem isComplement_j5 : namedTie Try.prog Rows.fnExactIsComplementRow.named Rows.fnExactIsComplementSpec.vars = true := by kernel_rfl
theorem isComplement_j23 : (Rows.fnExactIsComplementRow.plainKeys == Try.prog.plainKeys) = true := by kernel_rfl
theorem isComplement_j27 : (Rows.fnExactIsComplementRow.lifted == Try.prog.liftsFinal) = true := by rw [jp_final]; rfl
theorem isComplement_j28 : (Try.prog.make == some Rows.fnExactIsComplementRow.make) = true := by rw [jp_make]; rfl

theorem isComplement_closed : joinedFacts Try.prog 9 Try.f9 Rows.fnExactIsComplementSpec Rows.fnExactIsComplementRow = true :=
  joined_parts (by kernel_rfl) jp_laid jp_maps (by kernel_rfl) isComplement_j5 (by kernel_rfl) jp_stops (by kernel_rfl) jp_knobs isComplement_j10 isComplement_j11 isComplement_j12 isComplement_j13 (by kernel_rfl) (by kernel_rfl) (by kernel_rfl) (by kernel_rfl) (by kernel_rfl) (by kernel_rfl) (by kernel_rfl) (by kernel_rfl) (by kernel_rfl)
    isComplement_j23 (by kernel_rfl) jp_heard jp_enter isComplement_j27 isComplement_j28 (by kernel_rfl) (by kernel_rfl) (by kernel_rfl) (by kernel_rfl)

theorem isComplement_named : Try.pinned.checked.prog.funcNamed Rows.fnExactIsComplementRow.func = some 9 := by kernel_rfl

theorem isComplement_holds : Rows.FnExactIsComplementSaid :=
  OpenClaim.holds_of_wide_leaving 9 Try.f9 rfl rfl rfl rfl rfl rfl rfl ⟨rfl, rfl, rfl, rfl, rfl⟩ rfl rfl rfl rfl rfl isComplement_named Try.func9 isComplement_closed
    (of_decide_eq_true (by kernel_rfl)) (by unfold Func.isWrapper; first | (rw [if_pos (by decide +kernel)]; kernel_rfl) | (rw [if_neg (by decide +kernel)]; exact ⟨rfl, rfl⟩))
    (fun os started H enc _ => leaving_of_handed (isComplement_lifted os started H enc))

end Go.Proofs.Ytfafccldngekgaa
