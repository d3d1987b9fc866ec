/-
  At every group value, every module value and every two numbers that can be read: FnExactLeadNumber answers true and its arguments read as before: LeadNumber answers as its model does. No condition.
-/
import Derived.Carry
import Derived.Test.YtahilkhnlobaoaaFrm2
import Derived.Test.YtahilkhnlobaoaaJp
import Derived.Test.YtahilkhnlobaoaaLwLd
namespace Go.Proofs.Ytahilkhnlobaoaa
open Go.ChangeShapes Go.WideShapes Go.ChangeAt Go.RowKit

set_option maxRecDepth 100000 in
theorem leadNumber_lifted (os : Os) (started : os.Started) (H : Type) (enc : TypeId × Value → H) :
    ReturnsInHanded {} Try.checked os 10 .any (Rows.fnExactLeadNumberSpec.pre6 enc Try.prog Try.f10 Rows.fnExactLeadNumberRow.domain false) (Rows.fnExactLeadNumberSpec.post enc Try.prog Try.f10 false true false false) := by
  refine returnsInHanded_of_change (C := Try.checked) own_ started (by kernel_rfl) Try.func10
    (ChangeSpec.witness6 (enc := enc) (C := Try.checked) false ⟨#[], #[.agg #[.slice none 0 0], .agg #[.int .i64 0, .slice none 0 0], .int .i64 0, .int .i64 0], []⟩ 8 (by kernel_rfl) (by kernel_rfl) (by kernel_rfl) (by kernel_rfl)) ?_
  intro W base args ds gs before hval0 hW hcnd _
  have hval : ∀ (j : Nat) t v, Try.f10.params[j]? = some t → args[j]? = some v → Value.okWide Try.prog W .any base t v := hval0
  have hW' := hW
  obtain ⟨p, q, hA0, hV, rfl, hfz, hnd⟩ := hW
  have hA : DataW.TrodAll enc Try.prog W 0 (fun _ => true) true Try.f10.params.toList args.toList ds p := hA0
  rw [Try.params10] at hA hval
  obtain ⟨v0, v1, v2, v3, d0, d1, d2, d3, p0, p1, p2, p3, rfl, rfl, rfl, h0, h1, h2, h3⟩ := trodAll_four hA
  obtain ⟨rfl, rfl⟩ := trodVars_none hV
  obtain ⟨A, t, c, rfl, hR, hn, hl, _⟩ := open_group (hval 0 43 v0 rfl rfl) h0
  obtain ⟨m, L, us, d, rfl, hX, hm⟩ := open_module (hval 1 59 v1 rfl rfl) h1
  obtain ⟨el, rfl, rfl, rfl, wl⟩ := open_int Try.underlying2 (hval 2 2 v2 rfl rfl) h2
  obtain ⟨x, rfl, rfl, rfl, wx⟩ := open_int Try.underlying2 (hval 3 2 v3 rfl rfl) h3
  clear hA0 hval0
  simp only [List.append_nil] at hW'
  have hlt0 : ∀ x ∈ p0, x.block < W.heap.size := fun x hx => hW'.lt x (by simp [hx])
  have hlt1 : ∀ x ∈ p1, x.block < W.heap.size := fun x hx => hW'.lt x (by simp [hx])
  refine (lawLeadNumber_any A L t m us c d el x W hR hX hn hl hm).mono fun e W' ⟨he, hb⟩ => ?_
  subst he
  exact ⟨_, rfl, law_post (pa := p0 ++ (p1 ++ ([] ++ []))) hW' hb rfl rfl rfl (trodAll_mk4 (Below.trod laidOut_ (by kernel_rfl) (of_decide_eq_true (by kernel_rfl)) h0 hb hlt0) (Below.trod laidOut_ (by kernel_rfl) (of_decide_eq_true (by kernel_rfl)) h1 hb hlt1) (shut_int Try.underlying2 wl) (shut_int Try.underlying2 wx)) (by simp)⟩

theorem leadNumber_j10 : (Rows.fnExactLeadNumberRow.inPlace == Try.prog.inPlace 10) = true := by kernel_rfl
theorem leadNumber_j11 : (Rows.fnExactLeadNumberRow.unfollowed == Try.prog.unfollowed 10) = true := by kernel_rfl
theorem leadNumber_j12 : (Rows.fnExactLeadNumberRow.recurses == Try.prog.recurses 10) = true := by kernel_rfl
theorem leadNumber_j13 : (Rows.fnExactLeadNumberRow.named == Try.prog.varsNamed 10) = true := by kernel_rfl
theorem leadNumber_j5 : namedTie Try.prog Rows.fnExactLeadNumberRow.named Rows.fnExactLeadNumberSpec.vars = true := by kernel_rfl
theorem leadNumber_j23 : (Rows.fnExactLeadNumberRow.plainKeys == Try.prog.plainKeys) = true := by kernel_rfl
theorem leadNumber_j27 : (Rows.fnExactLeadNumberRow.lifted == Try.prog.liftsFinal) = true := by rw [jp_final]; rfl
theorem leadNumber_j28 : (Try.prog.make == some Rows.fnExactLeadNumberRow.make) = true := by rw [jp_make]; rfl

theorem leadNumber_closed : joinedFacts Try.prog 10 Try.f10 Rows.fnExactLeadNumberSpec Rows.fnExactLeadNumberRow = true :=
  joined_parts (by kernel_rfl) jp_laid jp_maps (by kernel_rfl) leadNumber_j5 (by kernel_rfl) jp_stops (by kernel_rfl) jp_knobs leadNumber_j10 leadNumber_j11 leadNumber_j12 leadNumber_j13 (by kernel_rfl) (by kernel_rfl) (by kernel_rfl) (by kernel_rfl) (by kernel_rfl) (by kernel_rfl) (by kernel_rfl) (by kernel_rfl) (by kernel_rfl)
    leadNumber_j23 (by kernel_rfl) jp_heard jp_enter leadNumber_j27 leadNumber_j28 (by kernel_rfl) (by kernel_rfl) (by kernel_rfl) (by kernel_rfl)

theorem leadNumber_named : Try.pinned.checked.prog.funcNamed Rows.fnExactLeadNumberRow.func = some 10 := by kernel_rfl

theorem leadNumber_holds : Rows.FnExactLeadNumberSaid :=
  OpenClaim.holds_of_wide 10 Try.f10 rfl rfl rfl rfl rfl rfl rfl ⟨rfl, rfl, rfl, rfl, rfl⟩ rfl rfl rfl rfl rfl leadNumber_named Try.func10 leadNumber_closed
    (of_decide_eq_true (by kernel_rfl)) (by unfold Func.isWrapper; first | (rw [if_pos (by decide +kernel)]; kernel_rfl) | (rw [if_neg (by decide +kernel)]; exact ⟨rfl, rfl⟩))
    (fun os started H enc _ => leadNumber_lifted os started H enc)

end Go.Proofs.Ytahilkhnlobaoaa
