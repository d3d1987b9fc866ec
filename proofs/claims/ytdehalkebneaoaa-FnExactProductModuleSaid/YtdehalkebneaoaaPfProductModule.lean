/-
  At every value of each parameter that can be read (a group value, a module value, a module value): FnExactProductModule answers true and its arguments read as before: ProductModule answers as its model does. No condition.
-/
import Derived.Test.YtdehalkebneaoaaFrm3
import Derived.Test.YtdehalkebneaoaaJp
import Derived.Test.YtdehalkebneaoaaLwProductModule
import Derived.Test.YtdehalkebneaoaaPu
namespace Go.Proofs.Ytdehalkebneaoaa
open Go.ChangeShapes Go.WideShapes Go.ChangeAt Go.RowKit

set_option maxRecDepth 100000 in
theorem productModule_lifted (os : Os) (started : os.Started) (H : Type) (enc : TypeId × Value → H) :
    ReturnsInHanded {} Try.checked os 7 .any (Rows.fnExactProductModuleSpec.pre6 enc Try.prog Try.f7 Rows.fnExactProductModuleRow.domain false) (Rows.fnExactProductModuleSpec.post enc Try.prog Try.f7 false true false false) := by
  refine returnsInHanded_of_change (C := Try.checked) own_ started (by kernel_rfl) Try.func7
    (ChangeSpec.witness6 (enc := enc) (C := Try.checked) false ⟨#[], #[.agg #[.slice none 0 0], .agg #[.int .i64 0, .slice none 0 0], .agg #[.int .i64 0, .slice none 0 0]], []⟩ 8 (by kernel_rfl) (by kernel_rfl) (by kernel_rfl) (by kernel_rfl)) ?_
  intro W base args ds gs before hval0 hW hcnd _
  have hval : ∀ (j : Nat) t v, Try.f7.params[j]? = some t → args[j]? = some v → Value.okWide Try.prog W .any base t v := hval0
  have hW' := hW
  obtain ⟨p, q, hA0, hV, rfl, hfz, hnd⟩ := hW
  have hA : DataW.TrodAll enc Try.prog W 0 (fun _ => true) true Try.f7.params.toList args.toList ds p := hA0
  rw [Try.params7] at hA hval
  obtain ⟨v0, v1, v2, d0, d1, d2, p0, p1, p2, rfl, rfl, rfl, h0, h1, h2⟩ := trodAll_three hA
  obtain ⟨rfl, rfl⟩ := trodVars_none hV
  obtain ⟨A0, t0, c0, rfl, hR0, hn0, hl0, _⟩ := open_group (hval 0 24 v0 rfl rfl) h0
  obtain ⟨m1, A1, t1, c1, rfl, hR1, hn1⟩ := open_module (hval 1 48 v1 rfl rfl) h1
  obtain ⟨m2, A2, t2, c2, rfl, hR2, hn2⟩ := open_module (hval 2 48 v2 rfl rfl) h2
  clear hA0 hval0
  simp only [List.append_nil] at hW'
  have hlt0 : ∀ x ∈ p0, x.block < W.heap.size := fun x hx => hW'.lt x (by simp [hx])
  have hlt1 : ∀ x ∈ p1, x.block < W.heap.size := fun x hx => hW'.lt x (by simp [hx])
  have hlt2 : ∀ x ∈ p2, x.block < W.heap.size := fun x hx => hW'.lt x (by simp [hx])
  refine (lawProductModule_any A0 t0 c0 m1 A1 t1 c1 m2 A2 t2 c2 (qProductModule0 t0 m1 t1 m2 t2) (yProductModule0 t0 m1 t1 m2 t2) (qProductModule1 t0 m1 t1 m2 t2) W hR0 hn0 hl0 hR1 hn1 hR2 hn2 (productModule_small0 t0 m1 t1 m2 t2) (specProductModule_ex t0 m1 t1 m2 t2) (implProductModule_ex t0 m1 t1 m2 t2)).mono fun e W' ⟨he, hb⟩ => ?_
  subst he
  exact ⟨_, rfl, law_post (pa := p0 ++ (p1 ++ (p2))) hW' hb rfl rfl rfl (trodAll_mk3 (Below.trod laidOut_ (by kernel_rfl) (of_decide_eq_true (by kernel_rfl)) h0 hb hlt0) (Below.trod laidOut_ (by kernel_rfl) (of_decide_eq_true (by kernel_rfl)) h1 hb hlt1) (Below.trod laidOut_ (by kernel_rfl) (of_decide_eq_true (by kernel_rfl)) h2 hb hlt2)) (by simp)⟩

theorem productModule_j10 : (Rows.fnExactProductModuleRow.inPlace == Try.prog.inPlace 7) = true := by kernel_rfl
theorem productModule_j11 : (Rows.fnExactProductModuleRow.unfollowed == Try.prog.unfollowed 7) = true := by kernel_rfl
theorem productModule_j12 : (Rows.fnExactProductModuleRow.recurses == Try.prog.recurses 7) = true := by kernel_rfl
theorem productModule_j13 : (Rows.fnExactProductModuleRow.named == Try.prog.varsNamed 7) = true := by kernel_rfl
theorem productModule_j5 : namedTie Try.prog Rows.fnExactProductModuleRow.named Rows.fnExactProductModuleSpec.vars = true := by kernel_rfl
theorem productModule_j23 : (Rows.fnExactProductModuleRow.plainKeys == Try.prog.plainKeys) = true := by kernel_rfl
theorem productModule_j27 : (Rows.fnExactProductModuleRow.lifted == Try.prog.liftsFinal) = true := by rw [jp_final]; rfl
theorem productModule_j28 : (Try.prog.make == some Rows.fnExactProductModuleRow.make) = true := by rw [jp_make]; rfl

theorem productModule_closed : joinedFacts Try.prog 7 Try.f7 Rows.fnExactProductModuleSpec Rows.fnExactProductModuleRow = true :=
  joined_parts (by kernel_rfl) jp_laid jp_maps (by kernel_rfl) productModule_j5 (by kernel_rfl) jp_stops (by kernel_rfl) jp_knobs productModule_j10 productModule_j11 productModule_j12 productModule_j13 (by kernel_rfl) (by kernel_rfl) (by kernel_rfl) (by kernel_rfl) (by kernel_rfl) (by kernel_rfl) (by kernel_rfl) (by kernel_rfl) (by kernel_rfl)
    productModule_j23 (by kernel_rfl) jp_heard jp_enter productModule_j27 productModule_j28 (by kernel_rfl) (by kernel_rfl) (by kernel_rfl) (by kernel_rfl)

theorem productModule_named : Try.pinned.checked.prog.funcNamed Rows.fnExactProductModuleRow.func = some 7 := by kernel_rfl

theorem productModule_holds : Rows.FnExactProductModuleSaid :=
  OpenClaim.holds_of_wide 7 Try.f7 rfl rfl rfl rfl rfl rfl rfl ⟨rfl, rfl, rfl, rfl, rfl⟩ rfl rfl rfl rfl rfl productModule_named Try.func7 productModule_closed
    (of_decide_eq_true (by kernel_rfl)) (by unfold Func.isWrapper; first | (rw [if_pos (by decide +kernel)]; kernel_rfl) | (rw [if_neg (by decide +kernel)]; exact ⟨rfl, rfl⟩))
    (fun os started H enc _ => productModule_lifted os started H enc)

end Go.Proofs.Ytdehalkebneaoaa
