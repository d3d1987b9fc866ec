/-
  At every value of each parameter that can be read (a number, a number, a number, a number): FnExactLadderOf answers true and its arguments read as before: LadderOf answers as its model does. Condition: the package variables that the row lists lie as the program's text lays them (the card ties them).
-/
import Derived.Test.YtfnjpbjlikajbaaDoorFra
import Derived.Test.YtfnjpbjlikajbaaDoorJp
import Derived.Test.YtfnjpbjlikajbaaDoorLwLadderOf
import Derived.Test.YtfnjpbjlikajbaaDoorJt
import Derived.Test.YtfnjpbjlikajbaaDoorFrs
import Derived.Test.YtfnjpbjlikajbaaDoorCards
import Derived.Test.YtfnjpbjlikajbaaDoorTie
namespace Go.Proofs.YtfnjpbjlikajbaaDoor
open Go.ChangeShapes Go.WideShapes Go.ChangeAt Go.RowKit

set_option maxRecDepth 100000 in
theorem ladderOf_lifted (os : Os) (started : os.Started) (H : Type) (enc : TypeId × Value → H) :
    ReturnsInHanded {} Tryd.checked os 4 .any (fun w args => (Rows.fnExactLadderOfSpec.pre enc Tryd.prog Tryd.f4 [] false w args ∧ laidMetH Tryd.prog laidErr w) ∧ sizedMet enc Tryd.prog Tryd.f4 (OpenSpec.ofChange Rows.fnExactLadderOfSpec) false w args)
      (Rows.fnExactLadderOfSpec.post enc Tryd.prog Tryd.f4 false true false false) := by
  refine returnsInHanded_of_change_and (C := Tryd.checked) (X := fun w _ => laidMetH Tryd.prog laidErr w) (fun _ _ _ hh h => h.of_heap hh) own_ started (by kernel_rfl) Tryd.func4
    (ChangeSpec.witness_shaped (enc := enc) (C := Tryd.checked) (os := os) (X := fun w _ => laidMetH Tryd.prog laidErr w) false (World.doorLaid Tryd.prog 400 os) #[.int .i64 0, .int .i64 0, .int .i64 0, .int .i64 0] 8 rfl (World.shaped_of_RefB (by kernel_rfl) (by kernel_rfl)) (by kernel_rfl) (by kernel_rfl) (by kernel_rfl) (laidErr_met os _)) ?_
  intro W base args ds gs before hval0 hW hcnd _ hL _
  have hval : ∀ (j : Nat) t v, Tryd.f4.params[j]? = some t → args[j]? = some v → Value.okWide Tryd.prog W .any base t v := hval0
  have hW' := hW
  obtain ⟨p, q, hA0, hV, rfl, hfz, hnd⟩ := hW
  have hA : DataW.TrodAll enc Tryd.prog W 0 (fun _ => true) true Tryd.f4.params.toList args.toList ds p := hA0
  rw [Tryd.params4] at hA hval
  obtain ⟨v0, v1, v2, v3, d0, d1, d2, d3, p0, p1, p2, p3, rfl, rfl, rfl, h0, h1, h2, h3⟩ := trodAll_four hA
  obtain ⟨aE, hvE⟩ := errVar_of hL
  have hV' : DataW.TrodVars enc Tryd.prog W (fun _ => true) [errName] gs q := hV
  obtain ⟨rfl, rfl⟩ := hV'.unique (vars_read1 enc gErr tErr Tryd.underlying117 hvE trivial _)
  obtain ⟨m0, rfl, rfl, rfl, w0⟩ := open_int Tryd.underlying2 (hval 0 2 v0 rfl rfl) h0
  obtain ⟨m1, rfl, rfl, rfl, w1⟩ := open_int Tryd.underlying2 (hval 1 2 v1 rfl rfl) h1
  obtain ⟨m2, rfl, rfl, rfl, w2⟩ := open_int Tryd.underlying2 (hval 2 2 v2 rfl rfl) h2
  obtain ⟨m3, rfl, rfl, rfl, w3⟩ := open_int Tryd.underlying2 (hval 3 2 v3 rfl rfl) h3
  clear hA0 hval0 hV hV'
  simp only [List.append_nil] at hW'
  refine (lawLadderOf_any m0 m1 m2 m3 (qLadderOf0 m0 m1 m2 m3) (yLadderOf0 m0 m1 m2 m3) (qLadderOf1 m0 m1 m2 m3) W (ladderOf_small0 m0 m1 m2 m3) (specLadderOf_ex m0 m1 m2 m3) (implLadderOf_ex m0 m1 m2 m3)).mono fun e W' ⟨he, hb⟩ => ?_
  subst he
  exact ⟨_, rfl, law_postV (pa := [] ++ ([] ++ ([] ++ ([])))) (pv := [.cell 0 0]) hW' hb rfl rfl (trodAll_mk4 (shut_int Tryd.underlying2 w0) (shut_int Tryd.underlying2 w1) (shut_int Tryd.underlying2 w2) (shut_int Tryd.underlying2 w3)) (vars_read1 enc gErr tErr Tryd.underlying117 (var_keep hb hvE) trivial _) (by simp)⟩

theorem ladderOf_j10 : (Rows.fnExactLadderOfRow.inPlace == Tryd.prog.inPlace 4) = true := by kernel_rfl
theorem ladderOf_j11 : (Rows.fnExactLadderOfRow.unfollowed == Tryd.prog.unfollowed 4) = true := by kernel_rfl
theorem ladderOf_j12 : (Rows.fnExactLadderOfRow.recurses == Tryd.prog.recurses 4) = true := by kernel_rfl
theorem ladderOf_j13 : (Rows.fnExactLadderOfRow.named == Tryd.prog.varsNamed 4) = true := by kernel_rfl
theorem ladderOf_j5 : namedTie Tryd.prog Rows.fnExactLadderOfRow.named Rows.fnExactLadderOfSpec.vars = true := by kernel_rfl
theorem ladderOf_j23 : (Rows.fnExactLadderOfRow.plainKeys == Tryd.prog.plainKeys) = true := by kernel_rfl
theorem ladderOf_j27 : (Rows.fnExactLadderOfRow.lifted == Tryd.prog.liftsFinal) = true := by rw [jp_final]; rfl
theorem ladderOf_j28 : (Tryd.prog.make == some Rows.fnExactLadderOfRow.make) = true := by rw [jp_make]; rfl

theorem ladderOf_closed : joinedFacts Tryd.prog 4 Tryd.f4 Rows.fnExactLadderOfSpec Rows.fnExactLadderOfRow = true :=
  joined_parts (by kernel_rfl) jp_laid jp_maps (by kernel_rfl) ladderOf_j5 (by kernel_rfl) jp_stops (by kernel_rfl) jp_knobs ladderOf_j10 ladderOf_j11 ladderOf_j12 ladderOf_j13 (by kernel_rfl) (by kernel_rfl) (by kernel_rfl) (by kernel_rfl) (by kernel_rfl) (by kernel_rfl) (by kernel_rfl) (by kernel_rfl) (by kernel_rfl)
    ladderOf_j23 (by kernel_rfl) jp_heard jp_enter ladderOf_j27 ladderOf_j28 (by kernel_rfl) (by kernel_rfl) (by kernel_rfl) (by kernel_rfl)

theorem ladderOf_named : Tryd.pinned.checked.prog.funcNamed Rows.fnExactLadderOfRow.func = some 4 := by kernel_rfl

theorem ladderOf_holds : Rows.FnExactLadderOfSaid :=
  OpenClaim.holds_of_wide 4 Tryd.f4 rfl rfl rfl rfl rfl rfl rfl ⟨rfl, rfl, rfl, rfl, rfl⟩ rfl rfl rfl rfl rfl ladderOf_named Tryd.func4 ladderOf_closed
    (of_decide_eq_true (by kernel_rfl)) (by unfold Func.isWrapper; first | (rw [if_pos (by decide +kernel)]; kernel_rfl) | (rw [if_neg (by decide +kernel)]; exact ⟨rfl, rfl⟩))
    (fun os started H enc _ => ladderOf_lifted os started H enc)

theorem ladderOf_cmain : Tryd.pinned.checked.prog.mainIs = some (Rows.fnExactLadderOfCard.stood.harness.1, Rows.fnExactLadderOfCard.stood.harness.2.toList) := by kernel_rfl
theorem ladderOf_cwf : Rows.fnExactLadderOfRow.wfByText (OpenSpec.ofChange Rows.fnExactLadderOfSpec) = true := by kernel_rfl
theorem ladderOf_clooks : false = Tryd.pinned.checked.prog.looks [] := by kernel_rfl
theorem ladderOf_cgoes : false = Rows.fnExactLadderOfRow.goesBy Tryd.pinned.checked.prog := by kernel_rfl

theorem ladderOf_card : Rows.FnExactLadderOfCardSaid :=
  Claim7.holds_tied_plain_at .later [] [.sentinel] true Rows.fnExactLadderOfCard.stood.harness false
    ladderOf_holds (fun _ h => by cases h) ladderOf_cwf (fun _ h => by cases h) fnExactLadderOf_row_tie rfl ⟨rfl, rfl⟩ ladderOf_cmain rfl
    (fun f fn hf hfn => by
      obtain rfl : f = 4 := Option.some.inj (ladderOf_named.symm.trans hf) |>.symm
      obtain rfl : fn = Tryd.f4 := (Option.some.inj (Tryd.func4.symm.trans hfn)).symm
      exact ⟨ladderOf_clooks, fun j t ht => by
        rw [Tryd.params4] at ht
        have hm : t ∈ [2, 2, 2, 2] := by simpa using Array.mem_of_getElem? ht
        have hall : ([2, 2, 2, 2].all fun u => !Tryd.prog.wantsStandIn u) = true := by kernel_rfl
        exact (show Tryd.prog.wantsStandIn t = false by simpa using List.all_eq_true.1 hall t hm)⟩)
    ladderOf_cgoes

end Go.Proofs.YtfnjpbjlikajbaaDoor
