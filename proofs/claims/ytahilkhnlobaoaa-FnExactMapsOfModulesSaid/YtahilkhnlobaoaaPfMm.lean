/-
  At every group value and every two module values that can be read: FnExactMapsOfModules answers true and its arguments read as before: MapsOfModules answers as its model does. No condition.
-/
import Derived.Test.YtahilkhnlobaoaaFrm2
import Derived.Test.YtahilkhnlobaoaaJp
import Derived.Test.YtahilkhnlobaoaaLwMm
namespace Go.Proofs.Ytahilkhnlobaoaa
open Go.ChangeShapes Go.WideShapes Go.ChangeAt Go.RowKit

set_option maxRecDepth 100000 in
theorem mapsOfModules_lifted (os : Os) (started : os.Started) (H : Type) (enc : TypeId × Value → H) :
    ReturnsInHanded {} Try.checked os 18 .any (Rows.fnExactMapsOfModulesSpec.pre6 enc Try.prog Try.f18 Rows.fnExactMapsOfModulesRow.domain false) (Rows.fnExactMapsOfModulesSpec.post enc Try.prog Try.f18 false true false false) := by
  refine returnsInHanded_of_change (C := Try.checked) own_ started (by kernel_rfl) Try.func18
    (ChangeSpec.witness6 (enc := enc) (C := Try.checked) false ⟨#[], #[.agg #[.slice none 0 0], .agg #[.int .i64 0, .slice none 0 0], .agg #[.int .i64 0, .slice none 0 0]], []⟩ 8 (by kernel_rfl) (by kernel_rfl) (by kernel_rfl) (by kernel_rfl)) ?_
  intro W base args ds gs before hval0 hW hcnd _
  have hval : ∀ (j : Nat) t v, Try.f18.params[j]? = some t → args[j]? = some v → Value.okWide Try.prog W .any base t v := hval0
  have hW' := hW
  obtain ⟨p, q, hA0, hV, rfl, hfz, hnd⟩ := hW
  have hA : DataW.TrodAll enc Try.prog W 0 (fun _ => true) true Try.f18.params.toList args.toList ds p := hA0
  rw [Try.params18] at hA hval
  obtain ⟨v0, v1, v2, d0, d1, d2, p0, p1, p2, rfl, rfl, rfl, h0, h1, h2⟩ := trodAll_three hA
  obtain ⟨rfl, rfl⟩ := trodVars_none hV
  obtain ⟨A, t, c, rfl, hR, hn, hl, _⟩ := open_group (hval 0 43 v0 rfl rfl) h0
  obtain ⟨m, L, us, d, rfl, hX, hm⟩ := open_module (hval 1 59 v1 rfl rfl) h1
  obtain ⟨m', L', vs, d', rfl, hY, hm'⟩ := open_module (hval 2 59 v2 rfl rfl) h2
  clear hA0 hval0
  simp only [List.append_nil] at hW'
  have hlt0 : ∀ x ∈ p0, x.block < W.heap.size := fun x hx => hW'.lt x (by simp [hx])
  have hlt1 : ∀ x ∈ p1, x.block < W.heap.size := fun x hx => hW'.lt x (by simp [hx])
  have hlt2 : ∀ x ∈ p2, x.block < W.heap.size := fun x hx => hW'.lt x (by simp [hx])
  refine (lawMapsOfModules_any A L L' t m us m' vs c d d' W hR hX hY hn hl hm hm').mono fun e W' ⟨he, hb⟩ => ?_
  subst he
  exact ⟨_, rfl, law_post (pa := p0 ++ (p1 ++ p2)) hW' hb rfl rfl rfl (trodAll_mk3 (Below.trod laidOut_ (by kernel_rfl) (of_decide_eq_true (by kernel_rfl)) h0 hb hlt0) (Below.trod laidOut_ (by kernel_rfl) (of_decide_eq_true (by kernel_rfl)) h1 hb hlt1) (Below.trod laidOut_ (by kernel_rfl) (of_decide_eq_true (by kernel_rfl)) h2 hb hlt2)) (by simp)⟩

theorem mapsOfModules_j10 : (Rows.fnExactMapsOfModulesRow.inPlace == Try.prog.inPlace 18) = true := by kernel_rfl
theorem mapsOfModules_j11 : (Rows.fnExactMapsOfModulesRow.unfollowed == Try.prog.unfollowed 18) = true := by kernel_rfl
theorem mapsOfModules_j12 : (Rows.fnExactMapsOfModulesRow.recurses == Try.prog.recurses 18) = true := by kernel_rfl
theorem mapsOfModules_j13 : (Rows.fnExactMapsOfModulesRow.named == Try.prog.varsNamed 18) = true := by kernel_rfl
theorem mapsOfModules_j5 : namedTie Try.prog Rows.fnExactMapsOfModulesRow.named Rows.fnExactMapsOfModulesSpec.vars = true := by kernel_rfl
theorem mapsOfModules_j23 : (Rows.fnExactMapsOfModulesRow.plainKeys == Try.prog.plainKeys) = true := by kernel_rfl
theorem mapsOfModules_j27 : (Rows.fnExactMapsOfModulesRow.lifted == Try.prog.liftsFinal) = true := by rw [jp_final]; rfl
theorem mapsOfModules_j28 : (Try.prog.make == some Rows.fnExactMapsOfModulesRow.make) = true := by rw [jp_make]; rfl

theorem mapsOfModules_closed : joinedFacts Try.prog 18 Try.f18 Rows.fnExactMapsOfModulesSpec Rows.fnExactMapsOfModulesRow = true :=
  joined_parts (by kernel_rfl) jp_laid jp_maps (by kernel_rfl) mapsOfModules_j5 (by kernel_rfl) jp_stops (by kernel_rfl) jp_knobs mapsOfModules_j10 mapsOfModules_j11 mapsOfModules_j12 mapsOfModules_j13 (by kernel_rfl) (by kernel_rfl) (by kernel_rfl) (by kernel_rfl) (by kernel_rfl) (by kernel_rfl) (by kernel_rfl) (by kernel_rfl) (by kernel_rfl)
    mapsOfModules_j23 (by kernel_rfl) jp_heard jp_enter mapsOfModules_j27 mapsOfModules_j28 (by kernel_rfl) (by kernel_rfl) (by kernel_rfl) (by kernel_rfl)

theorem mapsOfModules_named : Try.pinned.checked.prog.funcNamed Rows.fnExactMapsOfModulesRow.func = some 18 := by kernel_rfl

theorem mapsOfModules_holds : Rows.FnExactMapsOfModulesSaid :=
  OpenClaim.holds_of_wide 18 Try.f18 rfl rfl rfl rfl rfl rfl rfl ⟨rfl, rfl, rfl, rfl, rfl⟩ rfl rfl rfl rfl rfl mapsOfModules_named Try.func18 mapsOfModules_closed
    (of_decide_eq_true (by kernel_rfl)) (by unfold Func.isWrapper; first | (rw [if_pos (by decide +kernel)]; kernel_rfl) | (rw [if_neg (by decide +kernel)]; exact ⟨rfl, rfl⟩))
    (fun os started H enc _ => mapsOfModules_lifted os started H enc)

end Go.Proofs.Ytahilkhnlobaoaa
