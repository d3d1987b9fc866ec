/-
  At every group value and every module value that can be read: FnExactFixedNumbers answers true and its arguments read as before: FixedNumbers answers as its model does. No condition.
-/
import Derived.Test.YtahilkhnlobaoaaFrm2
import Derived.Test.YtahilkhnlobaoaaJp
import Derived.Test.YtahilkhnlobaoaaLwFn
namespace Go.Proofs.Ytahilkhnlobaoaa
open Go.ChangeShapes Go.WideShapes Go.ChangeAt Go.RowKit

set_option maxRecDepth 100000 in
theorem fixedNumbers_lifted (os : Os) (started : os.Started) (H : Type) (enc : TypeId × Value → H) :
    ReturnsInHanded {} Try.checked os 11 .any (Rows.fnExactFixedNumbersSpec.pre6 enc Try.prog Try.f11 Rows.fnExactFixedNumbersRow.domain false) (Rows.fnExactFixedNumbersSpec.post enc Try.prog Try.f11 false true false false) := by
  refine returnsInHanded_of_change (C := Try.checked) own_ started (by kernel_rfl) Try.func11
    (ChangeSpec.witness6 (enc := enc) (C := Try.checked) false ⟨#[], #[.agg #[.slice none 0 0], .agg #[.int .i64 0, .slice none 0 0]], []⟩ 8 (by kernel_rfl) (by kernel_rfl) (by kernel_rfl) (by kernel_rfl)) ?_
  intro W base args ds gs before hval0 hW hcnd _
  have hval : ∀ (j : Nat) t v, Try.f11.params[j]? = some t → args[j]? = some v → Value.okWide Try.prog W .any base t v := hval0
  have hW' := hW
  obtain ⟨p, q, hA0, hV, rfl, hfz, hnd⟩ := hW
  have hA : DataW.TrodAll enc Try.prog W 0 (fun _ => true) true Try.f11.params.toList args.toList ds p := hA0
  rw [Try.params11] at hA hval
  obtain ⟨v0, v1, d0, d1, p0, p1, rfl, rfl, rfl, h0, h1⟩ := trodAll_two hA
  obtain ⟨rfl, rfl⟩ := trodVars_none hV
  obtain ⟨A, t, c, rfl, hR, hn, hl, _⟩ := open_group (hval 0 43 v0 rfl rfl) h0
  obtain ⟨m, L, us, d, rfl, hX, hm⟩ := open_module (hval 1 59 v1 rfl rfl) h1
  clear hA0 hval0
  simp only [List.append_nil] at hW'
  have hlt0 : ∀ x ∈ p0, x.block < W.heap.size := fun x hx => hW'.lt x (by simp [hx])
  have hlt1 : ∀ x ∈ p1, x.block < W.heap.size := fun x hx => hW'.lt x (by simp [hx])
  refine (lawFixedNumbers_any A L t m us c d W hR hX hn hl hm).mono fun e W' ⟨he, hb⟩ => ?_
  subst he
  exact ⟨_, rfl, law_post (pa := p0 ++ p1) hW' hb rfl rfl rfl (trodAll_mk2 (Below.trod laidOut_ (by kernel_rfl) (of_decide_eq_true (by kernel_rfl)) h0 hb hlt0) (Below.trod laidOut_ (by kernel_rfl) (of_decide_eq_true (by kernel_rfl)) h1 hb hlt1)) (by simp)⟩

theorem fixedNumbers_j10 : (Rows.fnExactFixedNumbersRow.inPlace == Try.prog.inPlace 11) = true := by kernel_rfl
theorem fixedNumbers_j11 : (Rows.fnExactFixedNumbersRow.unfollowed == Try.prog.unfollowed 11) = true := by kernel_rfl
theorem fixedNumbers_j12 : (Rows.fnExactFixedNumbersRow.recurses == Try.prog.recurses 11) = true := by kernel_rfl
theorem fixedNumbers_j13 : (Rows.fnExactFixedNumbersRow.named == Try.prog.varsNamed 11) = true := by kernel_rfl
theorem fixedNumbers_j5 : namedTie Try.prog Rows.fnExactFixedNumbersRow.named Rows.fnExactFixedNumbersSpec.vars = true := by kernel_rfl
theorem fixedNumbers_j23 : (Rows.fnExactFixedNumbersRow.plainKeys == Try.prog.plainKeys) = true := by kernel_rfl
theorem fixedNumbers_j27 : (Rows.fnExactFixedNumbersRow.lifted == Try.prog.liftsFinal) = true := by rw [jp_final]; rfl
theorem fixedNumbers_j28 : (Try.prog.make == some Rows.fnExactFixedNumbersRow.make) = true := by rw [jp_make]; rfl

theorem fixedNumbers_closed : joinedFacts Try.prog 11 Try.f11 Rows.fnExactFixedNumbersSpec Rows.fnExactFixedNumbersRow = true :=
  joined_parts (by kernel_rfl) jp_laid jp_maps (by kernel_rfl) fixedNumbers_j5 (by kernel_rfl) jp_stops (by kernel_rfl) jp_knobs fixedNumbers_j10 fixedNumbers_j11 fixedNumbers_j12 fixedNumbers_j13 (by kernel_rfl) (by kernel_rfl) (by kernel_rfl) (by kernel_rfl) (by kernel_rfl) (by kernel_rfl) (by kernel_rfl) (by kernel_rfl) (by kernel_rfl)
    fixedNumbers_j23 (by kernel_rfl) jp_heard jp_enter fixedNumbers_j27 fixedNumbers_j28 (by kernel_rfl) (by kernel_rfl) (by kernel_rfl) (by kernel_rfl)

theorem fixedNumbers_named : Try.pinned.checked.prog.funcNamed Rows.fnExactFixedNumbersRow.func = some 11 := by kernel_rfl

theorem fixedNumbers_holds : Rows.FnExactFixedNumbersSaid :=
  OpenClaim.holds_of_wide 11 Try.f11 rfl rfl rfl rfl rfl rfl rfl ⟨rfl, rfl, rfl, rfl, rfl⟩ rfl rfl rfl rfl rfl fixedNumbers_named Try.func11 fixedNumbers_closed
    (of_decide_eq_true (by kernel_rfl)) (by unfold Func.isWrapper; first | (rw [if_pos (by decide +kernel)]; kernel_rfl) | (rw [if_neg (by decide +kernel)]; exact ⟨rfl, rfl⟩))
    (fun os started H enc _ => fixedNumbers_lifted os started H enc)

end Go.Proofs.Ytahilkhnlobaoaa
