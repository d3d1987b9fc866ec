/-
  At every value of each parameter that can be read (a group value, a group value, a list of numbers, a module value): FnExactRestrictModule answers true and its arguments read as before: RestrictModule answers as its model does. No condition.
-/
import Derived.Test.YtdehalkebneaoaaFrm3
import Derived.Test.YtdehalkebneaoaaJp
import Derived.Test.YtdehalkebneaoaaLwRestrictModule
import Derived.Test.YtdehalkebneaoaaRu
namespace Go.Proofs.Ytdehalkebneaoaa
open Go.ChangeShapes Go.WideShapes Go.ChangeAt Go.RowKit

set_option maxRecDepth 100000 in
theorem restrictModule_lifted (os : Os) (started : os.Started) (H : Type) (enc : TypeId × Value → H) :
    ReturnsInHanded {} Try.checked os 9 .any (Rows.fnExactRestrictModuleSpec.pre6 enc Try.prog Try.f9 Rows.fnExactRestrictModuleRow.domain false) (Rows.fnExactRestrictModuleSpec.post enc Try.prog Try.f9 false true false false) := by
  refine returnsInHanded_of_change (C := Try.checked) own_ started (by kernel_rfl) Try.func9
    (ChangeSpec.witness6 (enc := enc) (C := Try.checked) false ⟨#[], #[.agg #[.slice none 0 0], .agg #[.slice none 0 0], .slice none 0 0, .agg #[.int .i64 0, .slice none 0 0]], []⟩ 8 (by kernel_rfl) (by kernel_rfl) (by kernel_rfl) (by kernel_rfl)) ?_
  intro W base args ds gs before hval0 hW hcnd _
  have hval : ∀ (j : Nat) t v, Try.f9.params[j]? = some t → args[j]? = some v → Value.okWide Try.prog W .any base t v := hval0
  have hW' := hW
  obtain ⟨p, q, hA0, hV, rfl, hfz, hnd⟩ := hW
  have hA : DataW.TrodAll enc Try.prog W 0 (fun _ => true) true Try.f9.params.toList args.toList ds p := hA0
  rw [Try.params9] at hA hval
  obtain ⟨v0, v1, v2, v3, d0, d1, d2, d3, p0, p1, p2, p3, rfl, rfl, rfl, h0, h1, h2, h3⟩ := trodAll_four hA
  obtain ⟨rfl, rfl⟩ := trodVars_none hV
  obtain ⟨A0, t0, c0, rfl, hR0, hn0, hl0, _⟩ := open_group (hval 0 24 v0 rfl rfl) h0
  obtain ⟨A1, t1, c1, rfl, hR1, hn1, hl1, _⟩ := open_group (hval 1 24 v1 rfl rfl) h1
  obtain ⟨A2, t2, c2, rfl, hR2, hn2⟩ := open_list (hval 2 25 v2 rfl rfl) h2
  obtain ⟨m3, A3, t3, c3, rfl, hR3, hn3⟩ := open_module (hval 3 48 v3 rfl rfl) h3
  clear hA0 hval0
  simp only [List.append_nil] at hW'
  have hlt0 : ∀ x ∈ p0, x.block < W.heap.size := fun x hx => hW'.lt x (by simp [hx])
  have hlt1 : ∀ x ∈ p1, x.block < W.heap.size := fun x hx => hW'.lt x (by simp [hx])
  have hlt2 : ∀ x ∈ p2, x.block < W.heap.size := fun x hx => hW'.lt x (by simp [hx])
  have hlt3 : ∀ x ∈ p3, x.block < W.heap.size := fun x hx => hW'.lt x (by simp [hx])
  refine (lawRestrictModule_any A0 t0 c0 A1 t1 c1 A2 t2 c2 m3 A3 t3 c3 (qRestrictModule0 t0 t1 t2 m3 t3) (yRestrictModule0 t0 t1 t2 m3 t3) (qRestrictModule1 t0 t1 t2 m3 t3) W hR0 hn0 hl0 hR1 hn1 hl1 hR2 hn2 hR3 hn3 (restrictModule_small0 t0 t1 t2 m3 t3) (specRestrictModule_ex t0 t1 t2 m3 t3) (implRestrictModule_ex t0 t1 t2 m3 t3)).mono fun e W' ⟨he, hb⟩ => ?_
  subst he
  exact ⟨_, rfl, law_post (pa := p0 ++ (p1 ++ (p2 ++ (p3)))) hW' hb rfl rfl rfl (trodAll_mk4 (Below.trod laidOut_ (by kernel_rfl) (of_decide_eq_true (by kernel_rfl)) h0 hb hlt0) (Below.trod laidOut_ (by kernel_rfl) (of_decide_eq_true (by kernel_rfl)) h1 hb hlt1) (Below.trod laidOut_ (by kernel_rfl) (of_decide_eq_true (by kernel_rfl)) h2 hb hlt2) (Below.trod laidOut_ (by kernel_rfl) (of_decide_eq_true (by kernel_rfl)) h3 hb hlt3)) (by simp)⟩

theorem restrictModule_j10 : (Rows.fnExactRestrictModuleRow.inPlace == Try.prog.inPlace 9) = true := by kernel_rfl
theorem restrictModule_j11 : (Rows.fnExactRestrictModuleRow.unfollowed == Try.prog.unfollowed 9) = true := by kernel_rfl
theorem restrictModule_j12 : (Rows.fnExactRestrictModuleRow.recurses == Try.prog.recurses 9) = true := by kernel_rfl
theorem restrictModule_j13 : (Rows.fnExactRestrictModuleRow.named == Try.prog.varsNamed 9) = true := by kernel_rfl
theorem restrictModule_j5 : namedTie Try.prog Rows.fnExactRestrictModuleRow.named Rows.fnExactRestrictModuleSpec.vars = true := by kernel_rfl
theorem restrictModule_j23 : (Rows.fnExactRestrictModuleRow.plainKeys == Try.prog.plainKeys) = true := by kernel_rfl
theorem restrictModule_j27 : (Rows.fnExactRestrictModuleRow.lifted == Try.prog.liftsFinal) = true := by rw [jp_final]; rfl
theorem restrictModule_j28 : (Try.prog.make == some Rows.fnExactRestrictModuleRow.make) = true := by rw [jp_make]; rfl

theorem restrictModule_closed : joinedFacts Try.prog 9 Try.f9 Rows.fnExactRestrictModuleSpec Rows.fnExactRestrictModuleRow = true :=
  joined_parts (by kernel_rfl) jp_laid jp_maps (by kernel_rfl) restrictModule_j5 (by kernel_rfl) jp_stops (by kernel_rfl) jp_knobs restrictModule_j10 restrictModule_j11 restrictModule_j12 restrictModule_j13 (by kernel_rfl) (by kernel_rfl) (by kernel_rfl) (by kernel_rfl) (by kernel_rfl) (by kernel_rfl) (by kernel_rfl) (by kernel_rfl) (by kernel_rfl)
    restrictModule_j23 (by kernel_rfl) jp_heard jp_enter restrictModule_j27 restrictModule_j28 (by kernel_rfl) (by kernel_rfl) (by kernel_rfl) (by kernel_rfl)

theorem restrictModule_named : Try.pinned.checked.prog.funcNamed Rows.fnExactRestrictModuleRow.func = some 9 := by kernel_rfl

theorem restrictModule_holds : Rows.FnExactRestrictModuleSaid :=
  OpenClaim.holds_of_wide 9 Try.f9 rfl rfl rfl rfl rfl rfl rfl ⟨rfl, rfl, rfl, rfl, rfl⟩ rfl rfl rfl rfl rfl restrictModule_named Try.func9 restrictModule_closed
    (of_decide_eq_true (by kernel_rfl)) (by unfold Func.isWrapper; first | (rw [if_pos (by decide +kernel)]; kernel_rfl) | (rw [if_neg (by decide +kernel)]; exact ⟨rfl, rfl⟩))
    (fun os started H enc _ => restrictModule_lifted os started H enc)

end Go.Proofs.Ytdehalkebneaoaa
