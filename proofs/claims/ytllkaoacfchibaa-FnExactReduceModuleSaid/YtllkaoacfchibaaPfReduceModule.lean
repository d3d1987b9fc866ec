/-
  At every value of each parameter that can be read (a group value, a module value, a number): FnExactReduceModule answers true and its arguments read as before: ReduceModule answers as its model does. No condition.
-/
import Derived.Test.YtllkaoacfchibaaFra
import Derived.Test.YtllkaoacfchibaaJp
import Derived.Test.YtllkaoacfchibaaLwReduceModule
import Derived.Test.YtllkaoacfchibaaRm
namespace Go.Proofs.Ytllkaoacfchibaa
open Go.ChangeShapes Go.WideShapes Go.ChangeAt Go.RowKit

set_option maxRecDepth 100000 in
theorem reduceModule_lifted (os : Os) (started : os.Started) (H : Type) (enc : TypeId × Value → H) :
    ReturnsInHanded {} Try.checked os 3 .any (Rows.fnExactReduceModuleSpec.pre6 enc Try.prog Try.f3 Rows.fnExactReduceModuleRow.domain false) (Rows.fnExactReduceModuleSpec.post enc Try.prog Try.f3 false true false false) := by
  refine returnsInHanded_of_change (C := Try.checked) own_ started (by kernel_rfl) Try.func3
    (ChangeSpec.witness6 (enc := enc) (C := Try.checked) false ⟨#[], #[.agg #[.slice none 0 0], .agg #[.int .i64 0, .slice none 0 0], .int .i64 0], []⟩ 8 (by kernel_rfl) (by kernel_rfl) (by kernel_rfl) (by kernel_rfl)) ?_
  intro W base args ds gs before hval0 hW hcnd _
  have hval : ∀ (j : Nat) t v, Try.f3.params[j]? = some t → args[j]? = some v → Value.okWide Try.prog W .any base t v := hval0
  have hW' := hW
  obtain ⟨p, q, hA0, hV, rfl, hfz, hnd⟩ := hW
  have hA : DataW.TrodAll enc Try.prog W 0 (fun _ => true) true Try.f3.params.toList args.toList ds p := hA0
  rw [Try.params3] at hA hval
  obtain ⟨v0, v1, v2, d0, d1, d2, p0, p1, p2, rfl, rfl, rfl, h0, h1, h2⟩ := trodAll_three hA
  obtain ⟨rfl, rfl⟩ := trodVars_none hV
  obtain ⟨A0, t0, c0, rfl, hR0, hn0, hl0, _⟩ := open_group (hval 0 24 v0 rfl rfl) h0
  obtain ⟨m1, A1, t1, c1, rfl, hR1, hn1⟩ := open_module (hval 1 27 v1 rfl rfl) h1
  obtain ⟨m2, rfl, rfl, rfl, w2⟩ := open_int Try.underlying2 (hval 2 2 v2 rfl rfl) h2
  clear hA0 hval0
  simp only [List.append_nil] at hW'
  have hlt0 : ∀ x ∈ p0, x.block < W.heap.size := fun x hx => hW'.lt x (by simp [hx])
  have hlt1 : ∀ x ∈ p1, x.block < W.heap.size := fun x hx => hW'.lt x (by simp [hx])
  refine (lawReduceModule_any A0 t0 c0 m1 A1 t1 c1 m2 (qReduceModule0 t0 m1 t1 m2) (yReduceModule0 t0 m1 t1 m2) (qReduceModule1 t0 m1 t1 m2) W hR0 hn0 hl0 hR1 hn1 (reduceModule_small0 t0 m1 t1 m2) (specReduceModule_ex t0 m1 t1 m2) (implReduceModule_ex t0 m1 t1 m2)).mono fun e W' ⟨he, hb⟩ => ?_
  subst he
  exact ⟨_, rfl, law_post (pa := p0 ++ (p1 ++ ([]))) hW' hb rfl rfl rfl (trodAll_mk3 (Below.trod laidOut_ (by kernel_rfl) (of_decide_eq_true (by kernel_rfl)) h0 hb hlt0) (Below.trod laidOut_ (by kernel_rfl) (of_decide_eq_true (by kernel_rfl)) h1 hb hlt1) (shut_int Try.underlying2 w2)) (by simp)⟩

theorem reduceModule_j10 : (Rows.fnExactReduceModuleRow.inPlace == Try.prog.inPlace 3) = true := by kernel_rfl
theorem reduceModule_j11 : (Rows.fnExactReduceModuleRow.unfollowed == Try.prog.unfollowed 3) = true := by kernel_rfl
theorem reduceModule_j12 : (Rows.fnExactReduceModuleRow.recurses == Try.prog.recurses 3) = true := by kernel_rfl
theorem reduceModule_j13 : (Rows.fnExactReduceModuleRow.named == Try.prog.varsNamed 3) = true := by kernel_rfl
theorem reduceModule_j5 : namedTie Try.prog Rows.fnExactReduceModuleRow.named Rows.fnExactReduceModuleSpec.vars = true := by kernel_rfl
theorem reduceModule_j23 : (Rows.fnExactReduceModuleRow.plainKeys == Try.prog.plainKeys) = true := by kernel_rfl
theorem reduceModule_j27 : (Rows.fnExactReduceModuleRow.lifted == Try.prog.liftsFinal) = true := by rw [jp_final]; rfl
theorem reduceModule_j28 : (Try.prog.make == some Rows.fnExactReduceModuleRow.make) = true := by rw [jp_make]; rfl

theorem reduceModule_closed : joinedFacts Try.prog 3 Try.f3 Rows.fnExactReduceModuleSpec Rows.fnExactReduceModuleRow = true :=
  joined_parts (by kernel_rfl) jp_laid jp_maps (by kernel_rfl) reduceModule_j5 (by kernel_rfl) jp_stops (by kernel_rfl) jp_knobs reduceModule_j10 reduceModule_j11 reduceModule_j12 reduceModule_j13 (by kernel_rfl) (by kernel_rfl) (by kernel_rfl) (by kernel_rfl) (by kernel_rfl) (by kernel_rfl) (by kernel_rfl) (by kernel_rfl) (by kernel_rfl)
    reduceModule_j23 (by kernel_rfl) jp_heard jp_enter reduceModule_j27 reduceModule_j28 (by kernel_rfl) (by kernel_rfl) (by kernel_rfl) (by kernel_rfl)

theorem reduceModule_named : Try.pinned.checked.prog.funcNamed Rows.fnExactReduceModuleRow.func = some 3 := by kernel_rfl

theorem reduceModule_holds : Rows.FnExactReduceModuleSaid :=
  OpenClaim.holds_of_wide 3 Try.f3 rfl rfl rfl rfl rfl rfl rfl ⟨rfl, rfl, rfl, rfl, rfl⟩ rfl rfl rfl rfl rfl reduceModule_named Try.func3 reduceModule_closed
    (of_decide_eq_true (by kernel_rfl)) (by unfold Func.isWrapper; first | (rw [if_pos (by decide +kernel)]; kernel_rfl) | (rw [if_neg (by decide +kernel)]; exact ⟨rfl, rfl⟩))
    (fun os started H enc _ => reduceModule_lifted os started H enc)

end Go.Proofs.Ytllkaoacfchibaa
