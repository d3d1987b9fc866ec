/-
  At every value of each parameter that can be read (a group value, a number, a number): FnExactListOf answers true and its arguments read as before: ListOf answers as its model does. Condition: the package variables that the row lists lie as the program's text lays them (the card ties them).
-/
import Derived.Test.YtdehalkebneaoaaDoorFrm3
import Derived.Test.YtdehalkebneaoaaDoorJp
import Derived.Test.YtdehalkebneaoaaDoorLwListOf
import Derived.Test.YtdehalkebneaoaaDoorLq
import Derived.Test.YtdehalkebneaoaaDoorFrs
import Derived.Test.YtdehalkebneaoaaDoorCards
import Derived.Test.YtdehalkebneaoaaDoorTie
namespace Go.Proofs.YtdehalkebneaoaaDoor
open Go.ChangeShapes Go.WideShapes Go.ChangeAt Go.RowKit

set_option maxRecDepth 100000 in
theorem listOf_lifted (os : Os) (started : os.Started) (H : Type) (enc : TypeId × Value → H) :
    ReturnsInHanded {} Tryd.checked os 3 .any (fun w args => (Rows.fnExactListOfSpec.pre enc Tryd.prog Tryd.f3 [] false w args ∧ laidMetH Tryd.prog laidErr w) ∧ sizedMet enc Tryd.prog Tryd.f3 (OpenSpec.ofChange Rows.fnExactListOfSpec) false w args)
      (Rows.fnExactListOfSpec.post enc Tryd.prog Tryd.f3 false true false false) := by
  refine returnsInHanded_of_change_and (C := Tryd.checked) (X := fun w _ => laidMetH Tryd.prog laidErr w) (fun _ _ _ hh h => h.of_heap hh) own_ started (by kernel_rfl) Tryd.func3
    (ChangeSpec.witness_shaped (enc := enc) (C := Tryd.checked) (os := os) (X := fun w _ => laidMetH Tryd.prog laidErr w) false (World.doorLaid Tryd.prog 400 os) #[.agg #[.slice none 0 0], .int .i64 0, .int .i64 0] 8 rfl (World.shaped_of_RefB (by kernel_rfl) (by kernel_rfl)) (by kernel_rfl) (by kernel_rfl) (by kernel_rfl) (laidErr_met os _)) ?_
  intro W base args ds gs before hval0 hW hcnd _ hL _
  have hval : ∀ (j : Nat) t v, Tryd.f3.params[j]? = some t → args[j]? = some v → Value.okWide Tryd.prog W .any base t v := hval0
  have hW' := hW
  obtain ⟨p, q, hA0, hV, rfl, hfz, hnd⟩ := hW
  have hA : DataW.TrodAll enc Tryd.prog W 0 (fun _ => true) true Tryd.f3.params.toList args.toList ds p := hA0
  rw [Tryd.params3] at hA hval
  obtain ⟨v0, v1, v2, d0, d1, d2, p0, p1, p2, rfl, rfl, rfl, h0, h1, h2⟩ := trodAll_three hA
  obtain ⟨aE, hvE⟩ := errVar_of hL
  have hV' : DataW.TrodVars enc Tryd.prog W (fun _ => true) [errName] gs q := hV
  obtain ⟨rfl, rfl⟩ := hV'.unique (vars_read1 enc gErr tErr Tryd.underlying133 hvE trivial _)
  obtain ⟨A0, t0, c0, rfl, hR0, hn0, hl0, _⟩ := open_group (hval 0 24 v0 rfl rfl) h0
  obtain ⟨m1, rfl, rfl, rfl, w1⟩ := open_int Tryd.underlying2 (hval 1 2 v1 rfl rfl) h1
  obtain ⟨m2, rfl, rfl, rfl, w2⟩ := open_int Tryd.underlying2 (hval 2 2 v2 rfl rfl) h2
  clear hA0 hval0 hV hV'
  simp only [List.append_nil] at hW'
  have hlt0 : ∀ x ∈ p0, x.block < W.heap.size := fun x hx => hW'.lt x (by simp [hx])
  refine (lawListOf_any A0 t0 c0 m1 m2 (yListOf0 t0 m1 m2) (qListOf1 t0 m1 m2) W hR0 hn0 hl0 (listOf_small0 t0 m1 m2) (errL_of hL) (specListOf_ex t0 m1 m2) (implListOf_ex t0 m1 m2)).mono fun e W' ⟨he, hb⟩ => ?_
  subst he
  exact ⟨_, rfl, law_postV (pa := p0 ++ ([] ++ ([]))) (pv := [.cell 0 0]) hW' hb rfl rfl (trodAll_mk3 (Below.trod laidOut_ (by kernel_rfl) (of_decide_eq_true (by kernel_rfl)) h0 hb hlt0) (shut_int Tryd.underlying2 w1) (shut_int Tryd.underlying2 w2)) (vars_read1 enc gErr tErr Tryd.underlying133 (var_keep hb hvE) trivial _) (by simp)⟩

theorem listOf_j10 : (Rows.fnExactListOfRow.inPlace == Tryd.prog.inPlace 3) = true := by kernel_rfl
theorem listOf_j11 : (Rows.fnExactListOfRow.unfollowed == Tryd.prog.unfollowed 3) = true := by kernel_rfl
theorem listOf_j12 : (Rows.fnExactListOfRow.recurses == Tryd.prog.recurses 3) = true := by kernel_rfl
theorem listOf_j13 : (Rows.fnExactListOfRow.named == Tryd.prog.varsNamed 3) = true := by kernel_rfl
theorem listOf_j5 : namedTie Tryd.prog Rows.fnExactListOfRow.named Rows.fnExactListOfSpec.vars = true := by kernel_rfl
theorem listOf_j23 : (Rows.fnExactListOfRow.plainKeys == Tryd.prog.plainKeys) = true := by kernel_rfl
theorem listOf_j27 : (Rows.fnExactListOfRow.lifted == Tryd.prog.liftsFinal) = true := by rw [jp_final]; rfl
theorem listOf_j28 : (Tryd.prog.make == some Rows.fnExactListOfRow.make) = true := by rw [jp_make]; rfl

theorem listOf_closed : joinedFacts Tryd.prog 3 Tryd.f3 Rows.fnExactListOfSpec Rows.fnExactListOfRow = true :=
  joined_parts (by kernel_rfl) jp_laid jp_maps (by kernel_rfl) listOf_j5 (by kernel_rfl) jp_stops (by kernel_rfl) jp_knobs listOf_j10 listOf_j11 listOf_j12 listOf_j13 (by kernel_rfl) (by kernel_rfl) (by kernel_rfl) (by kernel_rfl) (by kernel_rfl) (by kernel_rfl) (by kernel_rfl) (by kernel_rfl) (by kernel_rfl)
    listOf_j23 (by kernel_rfl) jp_heard jp_enter listOf_j27 listOf_j28 (by kernel_rfl) (by kernel_rfl) (by kernel_rfl) (by kernel_rfl)

theorem listOf_named : Tryd.pinned.checked.prog.funcNamed Rows.fnExactListOfRow.func = some 3 := by kernel_rfl

theorem listOf_holds : Rows.FnExactListOfSaid :=
  OpenClaim.holds_of_wide 3 Tryd.f3 rfl rfl rfl rfl rfl rfl rfl ⟨rfl, rfl, rfl, rfl, rfl⟩ rfl rfl rfl rfl rfl listOf_named Tryd.func3 listOf_closed
    (of_decide_eq_true (by kernel_rfl)) (by unfold Func.isWrapper; first | (rw [if_pos (by decide +kernel)]; kernel_rfl) | (rw [if_neg (by decide +kernel)]; exact ⟨rfl, rfl⟩))
    (fun os started H enc _ => listOf_lifted os started H enc)

theorem listOf_card : Rows.FnExactListOfCardSaid :=
  Claim7.holds_tied_plain_at .later [] [.sentinel] true Rows.fnExactListOfCard.stood.harness true
    listOf_holds (fun _ h => by cases h) (by kernel_rfl) (fun _ h => by cases h) fnExactListOf_row_tie rfl ⟨rfl, rfl⟩ (by kernel_rfl) rfl
    (fun f fn hf hfn => by
      obtain rfl : f = 3 := Option.some.inj (listOf_named.symm.trans hf) |>.symm
      obtain rfl : fn = Tryd.f3 := (Option.some.inj (Tryd.func3.symm.trans hfn)).symm
      exact ⟨by kernel_rfl, fun j t ht => by
        rw [Tryd.params3] at ht
        have hm : t ∈ [24, 2, 2] := by simpa using Array.mem_of_getElem? ht
        have hall : ([24, 2, 2].all fun u => !Tryd.prog.wantsStandIn u) = true := by kernel_rfl
        exact (show Tryd.prog.wantsStandIn t = false by simpa using List.all_eq_true.1 hall t hm)⟩)
    (by kernel_rfl)

end Go.Proofs.YtdehalkebneaoaaDoor
