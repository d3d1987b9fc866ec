/-
  At every value of each parameter that can be read (a group value, a module value, a list of numbers, a number): FnExactConjugateComplement answers true and its arguments read as before: ConjugateComplement answers as its model does. No condition.
-/
import Derived.Test.YtfafccldngekgaaFra
import Derived.Test.YtfafccldngekgaaJp
import Derived.Test.YtfafccldngekgaaLwConjugateComplement
import Derived.Test.YtfafccldngekgaaKk
import Derived.Test.YtfafccldngekgaaLv
namespace Go.Proofs.Ytfafccldngekgaa
open Go.ChangeShapes Go.WideShapes Go.ChangeAt Go.RowKit

set_option maxRecDepth 100000 in
theorem conjugateComplement_lifted (os : Os) (started : os.Started) (H : Type) (enc : TypeId × Value → H) :
    ReturnsInHanded {} Try.checked os 10 .any (Rows.fnExactConjugateComplementSpec.pre6 enc Try.prog Try.f10 Rows.fnExactConjugateComplementRow.domain false) (Rows.fnExactConjugateComplementSpec.post enc Try.prog Try.f10 false true false false) := by
  refine returnsInHanded_of_change (C := Try.checked) own_ started (by kernel_rfl) Try.func10
    (ChangeSpec.witness6 (enc := enc) (C := Try.checked) false ⟨#[], #[.agg #[.slice none 0 0], .agg #[.int .i64 0, .slice none 0 0], .slice none 0 0, .int .i64 0], []⟩ 8 (by kernel_rfl) (by kernel_rfl) (by kernel_rfl) (by kernel_rfl)) ?_
  intro W base args ds gs before hval0 hW hcnd _
  have hval : ∀ (j : Nat) t v, Try.f10.params[j]? = some t → args[j]? = some v → Value.okWide Try.prog W .any base t v := hval0
  have hW' := hW
  obtain ⟨p, q, hA0, hV, rfl, hfz, hnd⟩ := hW
  have hA : DataW.TrodAll enc Try.prog W 0 (fun _ => true) true Try.f10.params.toList args.toList ds p := hA0
  rw [Try.params10] at hA hval
  obtain ⟨v0, v1, v2, v3, d0, d1, d2, d3, p0, p1, p2, p3, rfl, rfl, rfl, h0, h1, h2, h3⟩ := trodAll_four hA
  obtain ⟨rfl, rfl⟩ := trodVars_none hV
  obtain ⟨A0, t0, c0, rfl, hR0, hn0, hl0, _⟩ := open_group (hval 0 24 v0 rfl rfl) h0
  obtain ⟨m1, A1, t1, c1, rfl, hR1, hn1⟩ := open_module (hval 1 27 v1 rfl rfl) h1
  obtain ⟨A2, t2, c2, rfl, hR2, hn2⟩ := open_list (hval 2 25 v2 rfl rfl) h2
  obtain ⟨m3, rfl, rfl, rfl, w3⟩ := open_int Try.underlying2 (hval 3 2 v3 rfl rfl) h3
  clear hA0 hval0
  simp only [List.append_nil] at hW'
  have hlt0 : ∀ x ∈ p0, x.block < W.heap.size := fun x hx => hW'.lt x (by simp [hx])
  have hlt1 : ∀ x ∈ p1, x.block < W.heap.size := fun x hx => hW'.lt x (by simp [hx])
  have hlt2 : ∀ x ∈ p2, x.block < W.heap.size := fun x hx => hW'.lt x (by simp [hx])
  refine (lawConjugateComplement_any A0 t0 c0 m1 A1 t1 c1 A2 t2 c2 m3 (yConjugateComplement0 t0 m1 t1 t2 m3) (qConjugateComplement1 t0 m1 t1 t2 m3) W hR0 hn0 hl0 hR1 hn1 hR2 hn2 (conjugateComplement_small0 t0 m1 t1 t2 m3) (specConjugateComplement_ex t0 m1 t1 t2 m3) (implConjugateComplement_ex t0 m1 t1 t2 m3)).mono fun e W' ⟨he, hb⟩ => ?_
  subst he
  exact ⟨_, rfl, law_post (pa := p0 ++ (p1 ++ (p2 ++ ([])))) hW' hb rfl rfl rfl (trodAll_mk4 (Below.trod laidOut_ (by kernel_rfl) (of_decide_eq_true (by kernel_rfl)) h0 hb hlt0) (Below.trod laidOut_ (by kernel_rfl) (of_decide_eq_true (by kernel_rfl)) h1 hb hlt1) (Below.trod laidOut_ (by kernel_rfl) (of_decide_eq_true (by kernel_rfl)) h2 hb hlt2) (shut_int Try.underlying2 w3)) (by simp)⟩

theorem conjugateComplement_j10 : (Rows.fnExactConjugateComplementRow.inPlace == Try.prog.inPlace 10) = true := by kernel_rfl
theorem conjugateComplement_j11 : (Rows.fnExactConjugateComplementRow.unfollowed == Try.prog.unfollowed 10) = true := by kernel_rfl
theorem conjugateComplement_j12 : (Rows.fnExactConjugateComplementRow.recurses == Try.prog.recurses 10) = true := by kernel_rfl
theorem conjugateComplement_j13 : (Rows.fnExactConjugateComplementRow.named == Try.prog.varsNamed 10) = true := by kernel_rfl
theorem conjugateComplement_j5 : namedTie Try.prog Rows.fnExactConjugateComplementRow.named Rows.fnExactConjugateComplementSpec.vars = true := by kernel_rfl
theorem conjugateComplement_j23 : (Rows.fnExactConjugateComplementRow.plainKeys == Try.prog.plainKeys) = true := by kernel_rfl
theorem conjugateComplement_j27 : (Rows.fnExactConjugateComplementRow.lifted == Try.prog.liftsFinal) = true := by rw [jp_final]; rfl
theorem conjugateComplement_j28 : (Try.prog.make == some Rows.fnExactConjugateComplementRow.make) = true := by rw [jp_make]; rfl

theorem conjugateComplement_closed : joinedFacts Try.prog 10 Try.f10 Rows.fnExactConjugateComplementSpec Rows.fnExactConjugateComplementRow = true :=
  joined_parts (by kernel_rfl) jp_laid jp_maps (by kernel_rfl) conjugateComplement_j5 (by kernel_rfl) jp_stops (by kernel_rfl) jp_knobs conjugateComplement_j10 conjugateComplement_j11 conjugateComplement_j12 conjugateComplement_j13 (by kernel_rfl) (by kernel_rfl) (by kernel_rfl) (by kernel_rfl) (by kernel_rfl) (by kernel_rfl) (by kernel_rfl) (by kernel_rfl) (by kernel_rfl)
    conjugateComplement_j23 (by kernel_rfl) jp_heard jp_enter conjugateComplement_j27 conjugateComplement_j28 (by kernel_rfl) (by kernel_rfl) (by kernel_rfl) (by kernel_rfl)

theorem conjugateComplement_named : Try.pinned.checked.prog.funcNamed Rows.fnExactConjugateComplementRow.func = some 10 := by kernel_rfl

theorem conjugateComplement_holds : Rows.FnExactConjugateComplementSaid :=
  OpenClaim.holds_of_wide_leaving 10 Try.f10 rfl rfl rfl rfl rfl rfl rfl ⟨rfl, rfl, rfl, rfl, rfl⟩ rfl rfl rfl rfl rfl conjugateComplement_named Try.func10 conjugateComplement_closed
    (of_decide_eq_true (by kernel_rfl)) (by unfold Func.isWrapper; first | (rw [if_pos (by decide +kernel)]; kernel_rfl) | (rw [if_neg (by decide +kernel)]; exact ⟨rfl, rfl⟩))
    (fun os started H enc _ => leaving_of_handed (conjugateComplement_lifted os started H enc))

end Go.Proofs.Ytfafccldngekgaa
