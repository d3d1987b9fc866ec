/-
  At every value of each parameter that can be read (a group value, a module value, a cochain value): FnExactBoundaryOf answers true and its arguments read as before: BoundaryOf answers as its model does. Condition: the package variables that the row lists lie as the program's text lays them (the card ties them).
-/
import Derived.Test.YtllkaoacfchibaaDoorFra
import Derived.Test.YtllkaoacfchibaaDoorJp
import Derived.Test.YtllkaoacfchibaaDoorLwBoundaryOf
import Derived.Test.YtllkaoacfchibaaDoorSg
import Derived.Test.YtllkaoacfchibaaDoorFrs
import Derived.Test.YtllkaoacfchibaaDoorCards
import Derived.Test.YtllkaoacfchibaaDoorTie
namespace Go.Proofs.YtllkaoacfchibaaDoor
open Go.ChangeShapes Go.WideShapes Go.ChangeAt Go.RowKit

set_option maxRecDepth 100000 in
theorem boundaryOf_lifted (os : Os) (started : os.Started) (H : Type) (enc : TypeId × Value → H) :
    ReturnsInHanded {} Tryd.checked os 8 .any (fun w args => (Rows.fnExactBoundaryOfSpec.pre enc Tryd.prog Tryd.f8 [] false w args ∧ laidMetH Tryd.prog laidErr w) ∧ sizedMet enc Tryd.prog Tryd.f8 (OpenSpec.ofChange Rows.fnExactBoundaryOfSpec) false w args)
      (Rows.fnExactBoundaryOfSpec.post enc Tryd.prog Tryd.f8 false true false false) := by
  refine returnsInHanded_of_change_and (C := Tryd.checked) (X := fun w _ => laidMetH Tryd.prog laidErr w) (fun _ _ _ hh h => h.of_heap hh) own_ started (by kernel_rfl) Tryd.func8
    (ChangeSpec.witness_shaped (enc := enc) (C := Tryd.checked) (os := os) (X := fun w _ => laidMetH Tryd.prog laidErr w) false (World.doorLaid Tryd.prog 400 os) #[.agg #[.slice none 0 0], .agg #[.int .i64 0, .slice none 0 0], .agg #[.int .i64 0, .slice none 0 0]] 8 rfl (World.shaped_of_RefB (by kernel_rfl) (by kernel_rfl)) (by kernel_rfl) (by kernel_rfl) (by kernel_rfl) (laidErr_met os _)) ?_
  intro W base args ds gs before hval0 hW hcnd _ hL _
  have hval : ∀ (j : Nat) t v, Tryd.f8.params[j]? = some t → args[j]? = some v → Value.okWide Tryd.prog W .any base t v := hval0
  have hW' := hW
  obtain ⟨p, q, hA0, hV, rfl, hfz, hnd⟩ := hW
  have hA : DataW.TrodAll enc Tryd.prog W 0 (fun _ => true) true Tryd.f8.params.toList args.toList ds p := hA0
  rw [Tryd.params8] at hA hval
  obtain ⟨v0, v1, v2, d0, d1, d2, p0, p1, p2, rfl, rfl, rfl, h0, h1, h2⟩ := trodAll_three hA
  obtain ⟨aE, hvE⟩ := errVar_of hL
  have hV' : DataW.TrodVars enc Tryd.prog W (fun _ => true) [errName] gs q := hV
  obtain ⟨rfl, rfl⟩ := hV'.unique (vars_read1 enc gErr tErr Tryd.underlying184 hvE trivial _)
  obtain ⟨A0, t0, c0, rfl, hR0, hn0, hl0, _⟩ := open_group (hval 0 24 v0 rfl rfl) h0
  obtain ⟨m1, A1, t1, c1, rfl, hR1, hn1⟩ := open_module (hval 1 27 v1 rfl rfl) h1
  obtain ⟨m2, A2, t2, c2, rfl, hR2, hn2⟩ := open_cochain (hval 2 42 v2 rfl rfl) h2
  clear hA0 hval0 hV hV'
  simp only at hW'
  have hlt0 : ∀ x ∈ p0, x.block < W.heap.size := fun x hx => hW'.lt x (by simp [hx])
  have hlt1 : ∀ x ∈ p1, x.block < W.heap.size := fun x hx => hW'.lt x (by simp [hx])
  have hlt2 : ∀ x ∈ p2, x.block < W.heap.size := fun x hx => hW'.lt x (by simp [hx])
  refine (lawBoundaryOf_any A0 t0 c0 m1 A1 t1 c1 m2 A2 t2 c2 (qBoundaryOf0 t0 m1 t1 m2 t2) (yBoundaryOf0 t0 m1 t1 m2 t2) (qBoundaryOf1 t0 m1 t1 m2 t2) W hR0 hn0 hl0 hR1 hn1 hR2 hn2 (boundaryOf_small0 t0 m1 t1 m2 t2) (specBoundaryOf_ex t0 m1 t1 m2 t2) (implBoundaryOf_ex t0 m1 t1 m2 t2)).mono fun e W' ⟨he, hb⟩ => ?_
  subst he
  exact ⟨_, rfl, law_postV (pa := p0 ++ (p1 ++ (p2))) (pv := [.cell 1 0]) hW' hb rfl rfl (trodAll_mk3 (Below.trod laidOut_ (by kernel_rfl) (of_decide_eq_true (by kernel_rfl)) h0 hb hlt0) (Below.trod laidOut_ (by kernel_rfl) (of_decide_eq_true (by kernel_rfl)) h1 hb hlt1) (Below.trod laidOut_ (by kernel_rfl) (of_decide_eq_true (by kernel_rfl)) h2 hb hlt2)) (vars_read1 enc gErr tErr Tryd.underlying184 (var_keep hb hvE) trivial _) (by simp)⟩

theorem boundaryOf_j10 : (Rows.fnExactBoundaryOfRow.inPlace == Tryd.prog.inPlace 8) = true := by kernel_rfl
theorem boundaryOf_j11 : (Rows.fnExactBoundaryOfRow.unfollowed == Tryd.prog.unfollowed 8) = true := by kernel_rfl
theorem boundaryOf_j12 : (Rows.fnExactBoundaryOfRow.recurses == Tryd.prog.recurses 8) = true := by kernel_rfl
theorem boundaryOf_j13 : (Rows.fnExactBoundaryOfRow.named == Tryd.prog.varsNamed 8) = true := by kernel_rfl
theorem boundaryOf_j5 : namedTie Tryd.prog Rows.fnExactBoundaryOfRow.named Rows.fnExactBoundaryOfSpec.vars = true := by kernel_rfl
theorem boundaryOf_j23 : (Rows.fnExactBoundaryOfRow.plainKeys == Tryd.prog.plainKeys) = true := by kernel_rfl
theorem boundaryOf_j27 : (Rows.fnExactBoundaryOfRow.lifted == Tryd.prog.liftsFinal) = true := by rw [jp_final]; rfl
theorem boundaryOf_j28 : (Tryd.prog.make == some Rows.fnExactBoundaryOfRow.make) = true := by rw [jp_make]; rfl

theorem boundaryOf_closed : joinedFacts Tryd.prog 8 Tryd.f8 Rows.fnExactBoundaryOfSpec Rows.fnExactBoundaryOfRow = true :=
  joined_parts (by kernel_rfl) jp_laid jp_maps (by kernel_rfl) boundaryOf_j5 (by kernel_rfl) jp_stops (by kernel_rfl) jp_knobs boundaryOf_j10 boundaryOf_j11 boundaryOf_j12 boundaryOf_j13 (by kernel_rfl) (by kernel_rfl) (by kernel_rfl) (by kernel_rfl) (by kernel_rfl) (by kernel_rfl) (by kernel_rfl) (by kernel_rfl) (by kernel_rfl)
    boundaryOf_j23 (by kernel_rfl) jp_heard jp_enter boundaryOf_j27 boundaryOf_j28 (by kernel_rfl) (by kernel_rfl) (by kernel_rfl) (by kernel_rfl)

theorem boundaryOf_named : Tryd.pinned.checked.prog.funcNamed Rows.fnExactBoundaryOfRow.func = some 8 := by kernel_rfl

theorem boundaryOf_holds : Rows.FnExactBoundaryOfSaid :=
  OpenClaim.holds_of_wide 8 Tryd.f8 rfl rfl rfl rfl rfl rfl rfl ⟨rfl, rfl, rfl, rfl, rfl⟩ rfl rfl rfl rfl rfl boundaryOf_named Tryd.func8 boundaryOf_closed
    (of_decide_eq_true (by kernel_rfl)) (by unfold Func.isWrapper; first | (rw [if_pos (by decide +kernel)]; kernel_rfl) | (rw [if_neg (by decide +kernel)]; exact ⟨rfl, rfl⟩))
    (fun os started H enc _ => boundaryOf_lifted os started H enc)

theorem boundaryOf_cmain : Tryd.pinned.checked.prog.mainIs = some (Rows.fnExactBoundaryOfCard.stood.harness.1, Rows.fnExactBoundaryOfCard.stood.harness.2.toList) := by kernel_rfl
theorem boundaryOf_cwf : Rows.fnExactBoundaryOfRow.wfByText (OpenSpec.ofChange Rows.fnExactBoundaryOfSpec) = true := by kernel_rfl
theorem boundaryOf_clooks : true = Tryd.pinned.checked.prog.looks [] := by kernel_rfl
theorem boundaryOf_cgoes : false = Rows.fnExactBoundaryOfRow.goesBy Tryd.pinned.checked.prog := by kernel_rfl

theorem boundaryOf_card : Rows.FnExactBoundaryOfCardSaid :=
  Claim7.holds_tied_plain_at .later [] [.sentinel] true Rows.fnExactBoundaryOfCard.stood.harness true
    boundaryOf_holds (fun _ h => by cases h) boundaryOf_cwf (fun _ h => by cases h) fnExactBoundaryOf_row_tie rfl ⟨rfl, rfl⟩ boundaryOf_cmain rfl
    (fun f fn hf hfn => by
      obtain rfl : f = 8 := Option.some.inj (boundaryOf_named.symm.trans hf) |>.symm
      obtain rfl : fn = Tryd.f8 := (Option.some.inj (Tryd.func8.symm.trans hfn)).symm
      exact ⟨boundaryOf_clooks, fun j t ht => by
        rw [Tryd.params8] at ht
        have hm : t ∈ [24, 27, 42] := by simpa using Array.mem_of_getElem? ht
        have hall : ([24, 27, 42].all fun u => !Tryd.prog.wantsStandIn u) = true := by kernel_rfl
        exact (show Tryd.prog.wantsStandIn t = false by simpa using List.all_eq_true.1 hall t hm)⟩)
    boundaryOf_cgoes

end Go.Proofs.YtllkaoacfchibaaDoor
