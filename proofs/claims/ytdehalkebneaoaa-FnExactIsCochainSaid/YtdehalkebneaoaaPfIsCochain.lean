/-
  At every value of each parameter that can be read (a group value, a module value, a cochain value): FnExactIsCochain answers true and its arguments read as before: IsCochain answers as its model does. No condition.
-/
import Derived.Test.YtdehalkebneaoaaFrm3
import Derived.Test.YtdehalkebneaoaaJp
import Derived.Test.YtdehalkebneaoaaLwIsCochain
import Derived.Test.YtdehalkebneaoaaIc
namespace Go.Proofs.Ytdehalkebneaoaa
open Go.ChangeShapes Go.WideShapes Go.ChangeAt Go.RowKit

set_option maxRecDepth 100000 in
theorem isCochain_lifted (os : Os) (started : os.Started) (H : Type) (enc : TypeId × Value → H) :
    ReturnsInHanded {} Try.checked os 11 .any (Rows.fnExactIsCochainSpec.pre6 enc Try.prog Try.f11 Rows.fnExactIsCochainRow.domain false) (Rows.fnExactIsCochainSpec.post enc Try.prog Try.f11 false true false false) := by
  refine returnsInHanded_of_change (C := Try.checked) own_ started (by kernel_rfl) Try.func11
    (ChangeSpec.witness6 (enc := enc) (C := Try.checked) false ⟨#[], #[.agg #[.slice none 0 0], .agg #[.int .i64 0, .slice none 0 0], .agg #[.int .i64 0, .slice none 0 0]], []⟩ 8 (by kernel_rfl) (by kernel_rfl) (by kernel_rfl) (by kernel_rfl)) ?_
  intro W base args ds gs before hval0 hW hcnd _
  have hval : ∀ (j : Nat) t v, Try.f11.params[j]? = some t → args[j]? = some v → Value.okWide Try.prog W .any base t v := hval0
  have hW' := hW
  obtain ⟨p, q, hA0, hV, rfl, hfz, hnd⟩ := hW
  have hA : DataW.TrodAll enc Try.prog W 0 (fun _ => true) true Try.f11.params.toList args.toList ds p := hA0
  rw [Try.params11] at hA hval
  obtain ⟨v0, v1, v2, d0, d1, d2, p0, p1, p2, rfl, rfl, rfl, h0, h1, h2⟩ := trodAll_three hA
  obtain ⟨rfl, rfl⟩ := trodVars_none hV
  obtain ⟨A0, t0, c0, rfl, hR0, hn0, hl0, _⟩ := open_group (hval 0 24 v0 rfl rfl) h0
  obtain ⟨m1, A1, t1, c1, rfl, hR1, hn1⟩ := open_module (hval 1 48 v1 rfl rfl) h1
  obtain ⟨m2, A2, t2, c2, rfl, hR2, hn2⟩ := open_cochain (hval 2 63 v2 rfl rfl) h2
  clear hA0 hval0
  simp only [List.append_nil] at hW'
  have hlt0 : ∀ x ∈ p0, x.block < W.heap.size := fun x hx => hW'.lt x (by simp [hx])
  have hlt1 : ∀ x ∈ p1, x.block < W.heap.size := fun x hx => hW'.lt x (by simp [hx])
  have hlt2 : ∀ x ∈ p2, x.block < W.heap.size := fun x hx => hW'.lt x (by simp [hx])
  refine (lawIsCochain_any A0 t0 c0 m1 A1 t1 c1 m2 A2 t2 c2 (qIsCochain0 t0 m1 t1 m2 t2) (qIsCochain1 t0 m1 t1 m2 t2) W hR0 hn0 hl0 hR1 hn1 hR2 hn2 (specIsCochain_ex t0 m1 t1 m2 t2) (implIsCochain_ex t0 m1 t1 m2 t2)).mono fun e W' ⟨he, hb⟩ => ?_
  subst he
  exact ⟨_, rfl, law_post (pa := p0 ++ (p1 ++ (p2))) hW' hb rfl rfl rfl (trodAll_mk3 (Below.trod laidOut_ (by kernel_rfl) (of_decide_eq_true (by kernel_rfl)) h0 hb hlt0) (Below.trod laidOut_ (by kernel_rfl) (of_decide_eq_true (by kernel_rfl)) h1 hb hlt1) (Below.trod laidOut_ (by kernel_rfl) (of_decide_eq_true (by kernel_rfl)) h2 hb hlt2)) (by simp)⟩

theorem isCochain_j10 : (Rows.fnExactIsCochainRow.inPlace == Try.prog.inPlace 11) = true := by kernel_rfl
theorem isCochain_j11 : (Rows.fnExactIsCochainRow.unfollowed == Try.prog.unfollowed 11) = true := by kernel_rfl
theorem isCochain_j12 : (Rows.fnExactIsCochainRow.recurses == Try.prog.recurses 11) = true := by kernel_rfl
theorem isCochain_j13 : (Rows.fnExactIsCochainRow.named == Try.prog.varsNamed 11) = true := by kernel_rfl
theorem isCochain_j5 : namedTie Try.prog Rows.fnExactIsCochainRow.named Rows.fnExactIsCochainSpec.vars = true := by kernel_rfl
theorem isCochain_j23 : (Rows.fnExactIsCochainRow.plainKeys == Try.prog.plainKeys) = true := by kernel_rfl
theorem isCochain_j27 : (Rows.fnExactIsCochainRow.lifted == Try.prog.liftsFinal) = true := by rw [jp_final]; rfl
theorem isCochain_j28 : (Try.prog.make == some Rows.fnExactIsCochainRow.make) = true := by rw [jp_make]; rfl

theorem isCochain_closed : joinedFacts Try.prog 11 Try.f11 Rows.fnExactIsCochainSpec Rows.fnExactIsCochainRow = true :=
  joined_parts (by kernel_rfl) jp_laid jp_maps (by kernel_rfl) isCochain_j5 (by kernel_rfl) jp_stops (by kernel_rfl) jp_knobs isCochain_j10 isCochain_j11 isCochain_j12 isCochain_j13 (by kernel_rfl) (by kernel_rfl) (by kernel_rfl) (by kernel_rfl) (by kernel_rfl) (by kernel_rfl) (by kernel_rfl) (by kernel_rfl) (by kernel_rfl)
    isCochain_j23 (by kernel_rfl) jp_heard jp_enter isCochain_j27 isCochain_j28 (by kernel_rfl) (by kernel_rfl) (by kernel_rfl) (by kernel_rfl)

theorem isCochain_named : Try.pinned.checked.prog.funcNamed Rows.fnExactIsCochainRow.func = some 11 := by kernel_rfl

theorem isCochain_holds : Rows.FnExactIsCochainSaid :=
  OpenClaim.holds_of_wide 11 Try.f11 rfl rfl rfl rfl rfl rfl rfl ⟨rfl, rfl, rfl, rfl, rfl⟩ rfl rfl rfl rfl rfl isCochain_named Try.func11 isCochain_closed
    (of_decide_eq_true (by kernel_rfl)) (by unfold Func.isWrapper; first | (rw [if_pos (by decide +kernel)]; kernel_rfl) | (rw [if_neg (by decide +kernel)]; exact ⟨rfl, rfl⟩))
    (fun os started H enc _ => isCochain_lifted os started H enc)

end Go.Proofs.Ytdehalkebneaoaa
