/-
  At every value of each parameter that can be read (a group value, a module value, a list of numbers): FnExactClassOfCrossed answers true and its arguments read as before: ClassOfCrossed answers as its model does. No condition.
-/
import Derived.Test.YtfafccldngekgaaFra
import Derived.Test.YtfafccldngekgaaJp
import Derived.Test.YtfafccldngekgaaLwClassOfCrossed
import Derived.Test.YtfafccldngekgaaKs
import Derived.Test.YtfafccldngekgaaLv
namespace Go.Proofs.Ytfafccldngekgaa
open Go.ChangeShapes Go.WideShapes Go.ChangeAt Go.RowKit

set_option maxRecDepth 100000 in
theorem classOfCrossed_lifted (os : Os) (started : os.Started) (H : Type) (enc : TypeId × Value → H) :
    ReturnsInHanded {} Try.checked os 14 .any (Rows.fnExactClassOfCrossedSpec.pre6 enc Try.prog Try.f14 Rows.fnExactClassOfCrossedRow.domain false) (Rows.fnExactClassOfCrossedSpec.post enc Try.prog Try.f14 false true false false) := by
  refine returnsInHanded_of_change (C := Try.checked) own_ started (by kernel_rfl) Try.func14
    (ChangeSpec.witness6 (enc := enc) (C := Try.checked) false ⟨#[], #[.agg #[.slice none 0 0], .agg #[.int .i64 0, .slice none 0 0], .slice none 0 0], []⟩ 8 (by kernel_rfl) (by kernel_rfl) (by kernel_rfl) (by kernel_rfl)) ?_
  intro W base args ds gs before hval0 hW hcnd _
  have hval : ∀ (j : Nat) t v, Try.f14.params[j]? = some t → args[j]? = some v → Value.okWide Try.prog W .any base t v := hval0
  have hW' := hW
  obtain ⟨p, q, hA0, hV, rfl, hfz, hnd⟩ := hW
  have hA : DataW.TrodAll enc Try.prog W 0 (fun _ => true) true Try.f14.params.toList args.toList ds p := hA0
  rw [Try.params14] at hA hval
  obtain ⟨v0, v1, v2, d0, d1, d2, p0, p1, p2, rfl, rfl, rfl, h0, h1, h2⟩ := trodAll_three hA
  obtain ⟨rfl, rfl⟩ := trodVars_none hV
  obtain ⟨A0, t0, c0, rfl, hR0, hn0, hl0, _⟩ := open_group (hval 0 24 v0 rfl rfl) h0
  obtain ⟨m1, A1, t1, c1, rfl, hR1, hn1⟩ := open_module (hval 1 27 v1 rfl rfl) h1
  obtain ⟨A2, t2, c2, rfl, hR2, hn2⟩ := open_list (hval 2 25 v2 rfl rfl) h2
  clear hA0 hval0
  simp only [List.append_nil] at hW'
  have hlt0 : ∀ x ∈ p0, x.block < W.heap.size := fun x hx => hW'.lt x (by simp [hx])
  have hlt1 : ∀ x ∈ p1, x.block < W.heap.size := fun x hx => hW'.lt x (by simp [hx])
  have hlt2 : ∀ x ∈ p2, x.block < W.heap.size := fun x hx => hW'.lt x (by simp [hx])
  refine (lawClassOfCrossed_any A0 t0 c0 m1 A1 t1 c1 A2 t2 c2 (yClassOfCrossed0 t0 m1 t1 t2) (qClassOfCrossed1 t0 m1 t1 t2) W hR0 hn0 hl0 hR1 hn1 hR2 hn2 (classOfCrossed_small0 t0 m1 t1 t2) (specClassOfCrossed_ex t0 m1 t1 t2) (implClassOfCrossed_ex t0 m1 t1 t2)).mono fun e W' ⟨he, hb⟩ => ?_
  subst he
  exact ⟨_, rfl, law_post (pa := p0 ++ (p1 ++ (p2))) hW' hb rfl rfl rfl (trodAll_mk3 (Below.trod laidOut_ (by kernel_rfl) (of_decide_eq_true (by kernel_rfl)) h0 hb hlt0) (Below.trod laidOut_ (by kernel_rfl) (of_decide_eq_true (by kernel_rfl)) h1 hb hlt1) (Below.trod laidOut_ (by kernel_rfl) (of_decide_eq_true (by kernel_rfl)) h2 hb hlt2)) (by simp)⟩

theorem classOfCrossed_j10 : (Rows.fnExactClassOfCrossedRow.inPlace == Try.prog.inPlace 14) = true := by kernel_rfl
theorem classOfCrossed_j11 : (Rows.fnExactClassOfCrossedRow.unfollowed == Try.prog.unfollowed 14) = true := by kernel_rfl
theorem classOfCrossed_j12 : (Rows.fnExactClassOfCrossedRow.recurses == Try.prog.recurses 14) = true := by kernel_rfl
theorem classOfCrossed_j13 : (Rows.fnExactClassOfCrossedRow.named == Try.prog.varsNamed 14) = true := by kernel_rfl
theorem classOfCrossed_j5 : namedTie Try.prog Rows.fnExactClassOfCrossedRow.named Rows.fnExactClassOfCrossedSpec.vars = true := by kernel_rfl
theorem classOfCrossed_j23 : (Rows.fnExactClassOfCrossedRow.plainKeys == Try.prog.plainKeys) = true := by kernel_rfl
theorem classOfCrossed_j27 : (Rows.fnExactClassOfCrossedRow.lifted == Try.prog.liftsFinal) = true := by rw [jp_final]; rfl
theorem classOfCrossed_j28 : (Try.prog.make == some Rows.fnExactClassOfCrossedRow.make) = true := by rw [jp_make]; rfl

theorem classOfCrossed_closed : joinedFacts Try.prog 14 Try.f14 Rows.fnExactClassOfCrossedSpec Rows.fnExactClassOfCrossedRow = true :=
  joined_parts (by kernel_rfl) jp_laid jp_maps (by kernel_rfl) classOfCrossed_j5 (by kernel_rfl) jp_stops (by kernel_rfl) jp_knobs classOfCrossed_j10 classOfCrossed_j11 classOfCrossed_j12 classOfCrossed_j13 (by kernel_rfl) (by kernel_rfl) (by kernel_rfl) (by kernel_rfl) (by kernel_rfl) (by kernel_rfl) (by kernel_rfl) (by kernel_rfl) (by kernel_rfl)
    classOfCrossed_j23 (by kernel_rfl) jp_heard jp_enter classOfCrossed_j27 classOfCrossed_j28 (by kernel_rfl) (by kernel_rfl) (by kernel_rfl) (by kernel_rfl)

theorem classOfCrossed_named : Try.pinned.checked.prog.funcNamed Rows.fnExactClassOfCrossedRow.func = some 14 := by kernel_rfl

theorem classOfCrossed_holds : Rows.FnExactClassOfCrossedSaid :=
  OpenClaim.holds_of_wide_leaving 14 Try.f14 rfl rfl rfl rfl rfl rfl rfl ⟨rfl, rfl, rfl, rfl, rfl⟩ rfl rfl rfl rfl rfl classOfCrossed_named Try.func14 classOfCrossed_closed
    (of_decide_eq_true (by kernel_rfl)) (by unfold Func.isWrapper; first | (rw [if_pos (by decide +kernel)]; kernel_rfl) | (rw [if_neg (by decide +kernel)]; exact ⟨rfl, rfl⟩))
    (fun os started H enc _ => leaving_of_handed (classOfCrossed_lifted os started H enc))

end Go.Proofs.Ytfafccldngekgaa
