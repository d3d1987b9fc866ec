/-
  At every value of each parameter that can be read (a group value, a list of numbers): FnExactRepresentativesOf answers true and its arguments read as before: RepresentativesOf answers as its model does. Condition: the package variables that the row lists lie as the program's text lays them (the card ties them).
-/
import Derived.Test.YtalejhbdbclfaaaDoorFra
import Derived.Test.YtalejhbdbclfaaaDoorJp
import Derived.Test.YtalejhbdbclfaaaDoorLwRepresentativesOf
import Derived.Test.YtalejhbdbclfaaaDoorUc
import Derived.Test.YtalejhbdbclfaaaDoorFrd
import Derived.Test.YtalejhbdbclfaaaDoorCards
import Derived.Test.YtalejhbdbclfaaaDoorTie
namespace Go.Proofs.YtalejhbdbclfaaaDoor
open Go.ChangeShapes Go.WideShapes Go.ChangeAt Go.RowKit

set_option maxRecDepth 100000 in
theorem representativesOf_lifted (os : Os) (started : os.Started) (H : Type) (enc : TypeId × Value → H) :
    ReturnsInHanded {} Tryd.checked os 5 .any (fun w args => (Rows.fnExactRepresentativesOfSpec.pre enc Tryd.prog Tryd.f5 [] false w args ∧ laidMetH Tryd.prog laidTab w) ∧ sizedMet enc Tryd.prog Tryd.f5 (OpenSpec.ofChange Rows.fnExactRepresentativesOfSpec) false w args)
      (Rows.fnExactRepresentativesOfSpec.post enc Tryd.prog Tryd.f5 false true false false) := by
  refine returnsInHanded_of_change_and (C := Tryd.checked) (X := fun w _ => laidMetH Tryd.prog laidTab w) (fun _ _ _ hh h => h.of_heap hh) own_ started (by kernel_rfl) Tryd.func5
    (ChangeSpec.witness_shaped (enc := enc) (C := Tryd.checked) (os := os) (X := fun w _ => laidMetH Tryd.prog laidTab w) false (World.doorLaid Tryd.prog 400 os) #[.agg #[.slice none 0 0], .slice none 0 0] 8 rfl (World.shaped_of_RefB (by kernel_rfl) (by kernel_rfl)) (by kernel_rfl) (by kernel_rfl) (by kernel_rfl) (laidTab_met os _)) ?_
  intro W base args ds gs before hval0 hW hcnd _ hL _
  have hval : ∀ (j : Nat) t v, Tryd.f5.params[j]? = some t → args[j]? = some v → Value.okWide Tryd.prog W .any base t v := hval0
  have hW' := hW
  obtain ⟨p, q, hA0, hV, rfl, hfz, hnd⟩ := hW
  have hA : DataW.TrodAll enc Tryd.prog W 0 (fun _ => true) true Tryd.f5.params.toList args.toList ds p := hA0
  rw [Tryd.params5] at hA hval
  obtain ⟨v0, v1, d0, d1, p0, p1, rfl, rfl, rfl, h0, h1⟩ := trodAll_two hA
  obtain ⟨rfl, rfl⟩ := trodVars_none hV
  obtain ⟨A0, t0, c0, rfl, hR0, hn0, hl0, _⟩ := open_group (hval 0 24 v0 rfl rfl) h0
  obtain ⟨A1, t1, c1, rfl, hR1, hn1⟩ := open_list (hval 1 25 v1 rfl rfl) h1
  clear hA0 hval0
  simp only [List.append_nil] at hW'
  have hlt0 : ∀ x ∈ p0, x.block < W.heap.size := fun x hx => hW'.lt x (by simp [hx])
  have hlt1 : ∀ x ∈ p1, x.block < W.heap.size := fun x hx => hW'.lt x (by simp [hx])
  refine (lawRepresentativesOf_any A0 t0 c0 A1 t1 c1 (yRepresentativesOf0 t0 t1) (qRepresentativesOf1 t0 t1) W hR0 hn0 hl0 hR1 hn1 (representativesOf_small0 t0 t1) (tabL_of hL) (specRepresentativesOf_ex t0 t1) (implRepresentativesOf_ex t0 t1)).mono fun e W' ⟨he, hb⟩ => ?_
  subst he
  exact ⟨_, rfl, law_post (pa := p0 ++ (p1)) hW' hb rfl rfl rfl (trodAll_mk2 (Below.trod laidOut_ (by kernel_rfl) (of_decide_eq_true (by kernel_rfl)) h0 hb hlt0) (Below.trod laidOut_ (by kernel_rfl) (of_decide_eq_true (by kernel_rfl)) h1 hb hlt1)) (by simp)⟩

theorem representativesOf_j10 : (Rows.fnExactRepresentativesOfRow.inPlace == Tryd.prog.inPlace 5) = true := by kernel_rfl
theorem representativesOf_j11 : (Rows.fnExactRepresentativesOfRow.unfollowed == Tryd.prog.unfollowed 5) = true := by kernel_rfl
theorem representativesOf_j12 : (Rows.fnExactRepresentativesOfRow.recurses == Tryd.prog.recurses 5) = true := by kernel_rfl
theorem representativesOf_j13 : (Rows.fnExactRepresentativesOfRow.named == Tryd.prog.varsNamed 5) = true := by kernel_rfl
theorem representativesOf_j5 : namedTie Tryd.prog Rows.fnExactRepresentativesOfRow.named Rows.fnExactRepresentativesOfSpec.vars = true := by kernel_rfl
theorem representativesOf_j23 : (Rows.fnExactRepresentativesOfRow.plainKeys == Tryd.prog.plainKeys) = true := by kernel_rfl
theorem representativesOf_j27 : (Rows.fnExactRepresentativesOfRow.lifted == Tryd.prog.liftsFinal) = true := by rw [jp_final]; rfl
theorem representativesOf_j28 : (Tryd.prog.make == some Rows.fnExactRepresentativesOfRow.make) = true := by rw [jp_make]; rfl

theorem representativesOf_closed : joinedFacts Tryd.prog 5 Tryd.f5 Rows.fnExactRepresentativesOfSpec Rows.fnExactRepresentativesOfRow = true :=
  joined_parts (by kernel_rfl) jp_laid jp_maps (by kernel_rfl) representativesOf_j5 (by kernel_rfl) jp_stops (by kernel_rfl) jp_knobs representativesOf_j10 representativesOf_j11 representativesOf_j12 representativesOf_j13 (by kernel_rfl) (by kernel_rfl) (by kernel_rfl) (by kernel_rfl) (by kernel_rfl) (by kernel_rfl) (by kernel_rfl) (by kernel_rfl) (by kernel_rfl)
    representativesOf_j23 (by kernel_rfl) jp_heard jp_enter representativesOf_j27 representativesOf_j28 (by kernel_rfl) (by kernel_rfl) (by kernel_rfl) (by kernel_rfl)

theorem representativesOf_named : Tryd.pinned.checked.prog.funcNamed Rows.fnExactRepresentativesOfRow.func = some 5 := by kernel_rfl

theorem representativesOf_holds : Rows.FnExactRepresentativesOfSaid :=
  OpenClaim.holds_of_wide 5 Tryd.f5 rfl rfl rfl rfl rfl rfl rfl ⟨rfl, rfl, rfl, rfl, rfl⟩ rfl rfl rfl rfl rfl representativesOf_named Tryd.func5 representativesOf_closed
    (of_decide_eq_true (by kernel_rfl)) (by unfold Func.isWrapper; first | (rw [if_pos (by decide +kernel)]; kernel_rfl) | (rw [if_neg (by decide +kernel)]; exact ⟨rfl, rfl⟩))
    (fun os started H enc _ => representativesOf_lifted os started H enc)

theorem representativesOf_cmain : Tryd.pinned.checked.prog.mainIs = some (Rows.fnExactRepresentativesOfCard.stood.harness.1, Rows.fnExactRepresentativesOfCard.stood.harness.2.toList) := by kernel_rfl
theorem representativesOf_cwf : Rows.fnExactRepresentativesOfRow.wfByText (OpenSpec.ofChange Rows.fnExactRepresentativesOfSpec) = true := by kernel_rfl
theorem representativesOf_clooks : false = Tryd.pinned.checked.prog.looks [] := by kernel_rfl
theorem representativesOf_cgoes : false = Rows.fnExactRepresentativesOfRow.goesBy Tryd.pinned.checked.prog := by kernel_rfl

theorem representativesOf_card : Rows.FnExactRepresentativesOfCardSaid :=
  Claim7.holds_tied_plain_at .later [] [.data] true Rows.fnExactRepresentativesOfCard.stood.harness false
    representativesOf_holds (fun _ h => by cases h) representativesOf_cwf (fun _ h => by cases h) fnExactRepresentativesOf_row_tie rfl ⟨rfl, rfl⟩ representativesOf_cmain rfl
    (fun f fn hf hfn => by
      obtain rfl : f = 5 := Option.some.inj (representativesOf_named.symm.trans hf) |>.symm
      obtain rfl : fn = Tryd.f5 := (Option.some.inj (Tryd.func5.symm.trans hfn)).symm
      exact ⟨representativesOf_clooks, fun j t ht => by
        rw [Tryd.params5] at ht
        have hm : t ∈ [24, 25] := by simpa using Array.mem_of_getElem? ht
        have hall : ([24, 25].all fun u => !Tryd.prog.wantsStandIn u) = true := by kernel_rfl
        exact (show Tryd.prog.wantsStandIn t = false by simpa using List.all_eq_true.1 hall t hm)⟩)
    representativesOf_cgoes

end Go.Proofs.YtalejhbdbclfaaaDoor
