/-
  At every value of each parameter that can be read (a group value, a number): FnExactCountCells answers true and its arguments read as before: CountCells answers as its model does. No condition.
-/
import Derived.Test.YtdehalkebneaoaaFrm3
import Derived.Test.YtdehalkebneaoaaJp
import Derived.Test.YtdehalkebneaoaaLwCountCells
import Derived.Test.YtdehalkebneaoaaCc
namespace Go.Proofs.Ytdehalkebneaoaa
open Go.ChangeShapes Go.WideShapes Go.ChangeAt Go.RowKit

set_option maxRecDepth 100000 in
theorem countCells_lifted (os : Os) (started : os.Started) (H : Type) (enc : TypeId × Value → H) :
    ReturnsInHanded {} Try.checked os 10 .any (Rows.fnExactCountCellsSpec.pre6 enc Try.prog Try.f10 Rows.fnExactCountCellsRow.domain false) (Rows.fnExactCountCellsSpec.post enc Try.prog Try.f10 false true false false) := by
  refine returnsInHanded_of_change (C := Try.checked) own_ started (by kernel_rfl) Try.func10
    (ChangeSpec.witness6 (enc := enc) (C := Try.checked) false ⟨#[], #[.agg #[.slice none 0 0], .int .i64 0], []⟩ 8 (by kernel_rfl) (by kernel_rfl) (by kernel_rfl) (by kernel_rfl)) ?_
  intro W base args ds gs before hval0 hW hcnd _
  have hval : ∀ (j : Nat) t v, Try.f10.params[j]? = some t → args[j]? = some v → Value.okWide Try.prog W .any base t v := hval0
  have hW' := hW
  obtain ⟨p, q, hA0, hV, rfl, hfz, hnd⟩ := hW
  have hA : DataW.TrodAll enc Try.prog W 0 (fun _ => true) true Try.f10.params.toList args.toList ds p := hA0
  rw [Try.params10] at hA hval
  obtain ⟨v0, v1, d0, d1, p0, p1, rfl, rfl, rfl, h0, h1⟩ := trodAll_two hA
  obtain ⟨rfl, rfl⟩ := trodVars_none hV
  obtain ⟨A0, t0, c0, rfl, hR0, hn0, hl0, _⟩ := open_group (hval 0 24 v0 rfl rfl) h0
  obtain ⟨m1, rfl, rfl, rfl, w1⟩ := open_int Try.underlying2 (hval 1 2 v1 rfl rfl) h1
  clear hA0 hval0
  simp only [List.append_nil] at hW'
  have hlt0 : ∀ x ∈ p0, x.block < W.heap.size := fun x hx => hW'.lt x (by simp [hx])
  refine (lawCountCells_any A0 t0 c0 m1 (qCountCells0 t0 m1) (qCountCells1 t0 m1) W hR0 hn0 hl0 (specCountCells_ex t0 m1) (implCountCells_ex t0 m1)).mono fun e W' ⟨he, hb⟩ => ?_
  subst he
  exact ⟨_, rfl, law_post (pa := p0 ++ ([])) hW' hb rfl rfl rfl (trodAll_mk2 (Below.trod laidOut_ (by kernel_rfl) (of_decide_eq_true (by kernel_rfl)) h0 hb hlt0) (shut_int Try.underlying2 w1)) (by simp)⟩

theorem countCells_j10 : (Rows.fnExactCountCellsRow.inPlace == Try.prog.inPlace 10) = true := by kernel_rfl
theorem countCells_j11 : (Rows.fnExactCountCellsRow.unfollowed == Try.prog.unfollowed 10) = true := by kernel_rfl
theorem countCells_j12 : (Rows.fnExactCountCellsRow.recurses == Try.prog.recurses 10) = true := by kernel_rfl
theorem countCells_j13 : (Rows.fnExactCountCellsRow.named == Try.prog.varsNamed 10) = true := by kernel_rfl
theorem countCells_j5 : namedTie Try.prog Rows.fnExactCountCellsRow.named Rows.fnExactCountCellsSpec.vars = true := by kernel_rfl
theorem countCells_j23 : (Rows.fnExactCountCellsRow.plainKeys == Try.prog.plainKeys) = true := by kernel_rfl
theorem countCells_j27 : (Rows.fnExactCountCellsRow.lifted == Try.prog.liftsFinal) = true := by rw [jp_final]; rfl
theorem countCells_j28 : (Try.prog.make == some Rows.fnExactCountCellsRow.make) = true := by rw [jp_make]; rfl

theorem countCells_closed : joinedFacts Try.prog 10 Try.f10 Rows.fnExactCountCellsSpec Rows.fnExactCountCellsRow = true :=
  joined_parts (by kernel_rfl) jp_laid jp_maps (by kernel_rfl) countCells_j5 (by kernel_rfl) jp_stops (by kernel_rfl) jp_knobs countCells_j10 countCells_j11 countCells_j12 countCells_j13 (by kernel_rfl) (by kernel_rfl) (by kernel_rfl) (by kernel_rfl) (by kernel_rfl) (by kernel_rfl) (by kernel_rfl) (by kernel_rfl) (by kernel_rfl)
    countCells_j23 (by kernel_rfl) jp_heard jp_enter countCells_j27 countCells_j28 (by kernel_rfl) (by kernel_rfl) (by kernel_rfl) (by kernel_rfl)

theorem countCells_named : Try.pinned.checked.prog.funcNamed Rows.fnExactCountCellsRow.func = some 10 := by kernel_rfl

theorem countCells_holds : Rows.FnExactCountCellsSaid :=
  OpenClaim.holds_of_wide 10 Try.f10 rfl rfl rfl rfl rfl rfl rfl ⟨rfl, rfl, rfl, rfl, rfl⟩ rfl rfl rfl rfl rfl countCells_named Try.func10 countCells_closed
    (of_decide_eq_true (by kernel_rfl)) (by unfold Func.isWrapper; first | (rw [if_pos (by decide +kernel)]; kernel_rfl) | (rw [if_neg (by decide +kernel)]; exact ⟨rfl, rfl⟩))
    (fun os started H enc _ => countCells_lifted os started H enc)

end Go.Proofs.Ytdehalkebneaoaa
