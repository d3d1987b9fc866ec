/-
  At every value of each parameter that can be read (a group value, a module value, a number, a number): FnExactPairProduct answers true and its arguments read as before: PairProduct answers as its model does. No condition.
-/
import Derived.Test.YtfafccldngekgaaFra
import Derived.Test.YtfafccldngekgaaJp
import Derived.Test.YtfafccldngekgaaLwPairProduct
import Derived.Test.YtfafccldngekgaaQc
import Derived.Test.YtfafccldngekgaaLv
namespace Go.Proofs.Ytfafccldngekgaa
open Go.ChangeShapes Go.WideShapes Go.ChangeAt Go.RowKit

set_option maxRecDepth 100000 in
theorem pairProduct_lifted (os : Os) (started : os.Started) (H : Type) (enc : TypeId × Value → H) :
    ReturnsInHanded {} Try.checked os 5 .any (Rows.fnExactPairProductSpec.pre6 enc Try.prog Try.f5 Rows.fnExactPairProductRow.domain false) (Rows.fnExactPairProductSpec.post enc Try.prog Try.f5 false true false false) := by
  refine returnsInHanded_of_change (C := Try.checked) own_ started (by kernel_rfl) Try.func5
    (ChangeSpec.witness6 (enc := enc) (C := Try.checked) false ⟨#[], #[.agg #[.slice none 0 0], .agg #[.int .i64 0, .slice none 0 0], .int .i64 0, .int .i64 0], []⟩ 8 (by kernel_rfl) (by kernel_rfl) (by kernel_rfl) (by kernel_rfl)) ?_
  intro W base args ds gs before hval0 hW hcnd _
  have hval : ∀ (j : Nat) t v, Try.f5.params[j]? = some t → args[j]? = some v → Value.okWide Try.prog W .any base t v := hval0
  have hW' := hW
  obtain ⟨p, q, hA0, hV, rfl, hfz, hnd⟩ := hW
  have hA : DataW.TrodAll enc Try.prog W 0 (fun _ => true) true Try.f5.params.toList args.toList ds p := hA0
  rw [Try.params5] at hA hval
  obtain ⟨v0, v1, v2, v3, d0, d1, d2, d3, p0, p1, p2, p3, rfl, rfl, rfl, h0, h1, h2, h3⟩ := trodAll_four hA
  obtain ⟨rfl, rfl⟩ := trodVars_none hV
  obtain ⟨A0, t0, c0, rfl, hR0, hn0, hl0, _⟩ := open_group (hval 0 24 v0 rfl rfl) h0
  obtain ⟨m1, A1, t1, c1, rfl, hR1, hn1⟩ := open_module (hval 1 27 v1 rfl rfl) h1
  obtain ⟨m2, rfl, rfl, rfl, w2⟩ := open_int Try.underlying2 (hval 2 2 v2 rfl rfl) h2
  obtain ⟨m3, rfl, rfl, rfl, w3⟩ := open_int Try.underlying2 (hval 3 2 v3 rfl rfl) h3
  clear hA0 hval0
  simp only [List.append_nil] at hW'
  have hlt0 : ∀ x ∈ p0, x.block < W.heap.size := fun x hx => hW'.lt x (by simp [hx])
  have hlt1 : ∀ x ∈ p1, x.block < W.heap.size := fun x hx => hW'.lt x (by simp [hx])
  refine (lawPairProduct_any A0 t0 c0 m1 A1 t1 c1 m2 m3 (qPairProduct0 t0 m1 t1 m2 m3) (qPairProduct1 t0 m1 t1 m2 m3) W hR0 hn0 hl0 hR1 hn1 (specPairProduct_ex t0 m1 t1 m2 m3) (implPairProduct_ex t0 m1 t1 m2 m3)).mono fun e W' ⟨he, hb⟩ => ?_
  subst he
  exact ⟨_, rfl, law_post (pa := p0 ++ (p1 ++ ([] ++ ([])))) hW' hb rfl rfl rfl (trodAll_mk4 (Below.trod laidOut_ (by kernel_rfl) (of_decide_eq_true (by kernel_rfl)) h0 hb hlt0) (Below.trod laidOut_ (by kernel_rfl) (of_decide_eq_true (by kernel_rfl)) h1 hb hlt1) (shut_int Try.underlying2 w2) (shut_int Try.underlying2 w3)) (by simp)⟩

theorem pairProduct_j10 : (Rows.fnExactPairProductRow.inPlace == Try.prog.inPlace 5) = true := by kernel_rfl
theorem pairProduct_j11 : (Rows.fnExactPairProductRow.unfollowed == Try.prog.unfollowed 5) = true := by kernel_rfl
theorem pairProduct_j12 : (Rows.fnExactPairProductRow.recurses == Try.prog.recurses 5) = true := by kernel_rfl
theorem pairProduct_j13 : (Rows.fnExactPairProductRow.named == Try.prog.varsNamed 5) = true := by kernel_rfl
theorem pairProduct_j5 : namedTie Try.prog Rows.fnExactPairProductRow.named Rows.fnExactPairProductSpec.vars = true := by kernel_rfl
theorem pairProduct_j23 : (Rows.fnExactPairProductRow.plainKeys == Try.prog.plainKeys) = true := by kernel_rfl
theorem pairProduct_j27 : (Rows.fnExactPairProductRow.lifted == Try.prog.liftsFinal) = true := by rw [jp_final]; rfl
theorem pairProduct_j28 : (Try.prog.make == some Rows.fnExactPairProductRow.make) = true := by rw [jp_make]; rfl

theorem pairProduct_closed : joinedFacts Try.prog 5 Try.f5 Rows.fnExactPairProductSpec Rows.fnExactPairProductRow = true :=
  joined_parts (by kernel_rfl) jp_laid jp_maps (by kernel_rfl) pairProduct_j5 (by kernel_rfl) jp_stops (by kernel_rfl) jp_knobs pairProduct_j10 pairProduct_j11 pairProduct_j12 pairProduct_j13 (by kernel_rfl) (by kernel_rfl) (by kernel_rfl) (by kernel_rfl) (by kernel_rfl) (by kernel_rfl) (by kernel_rfl) (by kernel_rfl) (by kernel_rfl)
    pairProduct_j23 (by kernel_rfl) jp_heard jp_enter pairProduct_j27 pairProduct_j28 (by kernel_rfl) (by kernel_rfl) (by kernel_rfl) (by kernel_rfl)

theorem pairProduct_named : Try.pinned.checked.prog.funcNamed Rows.fnExactPairProductRow.func = some 5 := by kernel_rfl

theorem pairProduct_holds : Rows.FnExactPairProductSaid :=
  OpenClaim.holds_of_wide_leaving 5 Try.f5 rfl rfl rfl rfl rfl rfl rfl ⟨rfl, rfl, rfl, rfl, rfl⟩ rfl rfl rfl rfl rfl pairProduct_named Try.func5 pairProduct_closed
    (of_decide_eq_true (by kernel_rfl)) (by unfold Func.isWrapper; first | (rw [if_pos (by decide +kernel)]; kernel_rfl) | (rw [if_neg (by decide +kernel)]; exact ⟨rfl, rfl⟩))
    (fun os started H enc _ => leaving_of_handed (pairProduct_lifted os started H enc))

end Go.Proofs.Ytfafccldngekgaa
