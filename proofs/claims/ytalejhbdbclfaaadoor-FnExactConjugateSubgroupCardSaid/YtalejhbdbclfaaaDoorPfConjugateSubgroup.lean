/-
  At every value of each parameter that can be read (a group value, a list of numbers, a number): FnExactConjugateSubgroup answers true and its arguments read as before: ConjugateSubgroup answers as its model does. Condition: the package variables that the row lists lie as the program's text lays them (the card ties them).
-/
import Derived.Test.YtalejhbdbclfaaaDoorFra
import Derived.Test.YtalejhbdbclfaaaDoorJp
import Derived.Test.YtalejhbdbclfaaaDoorLwConjugateSubgroup
import Derived.Test.YtalejhbdbclfaaaDoorUd
import Derived.Test.YtalejhbdbclfaaaDoorFrd
import Derived.Test.YtalejhbdbclfaaaDoorCards
import Derived.Test.YtalejhbdbclfaaaDoorTie
namespace Go.Proofs.YtalejhbdbclfaaaDoor
open Go.ChangeShapes Go.WideShapes Go.ChangeAt Go.RowKit

set_option maxRecDepth 100000 in
theorem conjugateSubgroup_lifted (os : Os) (started : os.Started) (H : Type) (enc : TypeId × Value → H) :
    ReturnsInHanded {} Tryd.checked os 6 .any (fun w args => (Rows.fnExactConjugateSubgroupSpec.pre enc Tryd.prog Tryd.f6 [] false w args ∧ laidMetH Tryd.prog laidTab w) ∧ sizedMet enc Tryd.prog Tryd.f6 (OpenSpec.ofChange Rows.fnExactConjugateSubgroupSpec) false w args)
      (Rows.fnExactConjugateSubgroupSpec.post enc Tryd.prog Tryd.f6 false true false false) := by
  refine returnsInHanded_of_change_and (C := Tryd.checked) (X := fun w _ => laidMetH Tryd.prog laidTab w) (fun _ _ _ hh h => h.of_heap hh) own_ started (by kernel_rfl) Tryd.func6
    (ChangeSpec.witness_shaped (enc := enc) (C := Tryd.checked) (os := os) (X := fun w _ => laidMetH Tryd.prog laidTab w) false (World.doorLaid Tryd.prog 400 os) #[.agg #[.slice none 0 0], .slice none 0 0, .int .i64 0] 8 rfl (World.shaped_of_RefB (by kernel_rfl) (by kernel_rfl)) (by kernel_rfl) (by kernel_rfl) (by kernel_rfl) (laidTab_met os _)) ?_
  intro W base args ds gs before hval0 hW hcnd _ hL _
  have hval : ∀ (j : Nat) t v, Tryd.f6.params[j]? = some t → args[j]? = some v → Value.okWide Tryd.prog W .any base t v := hval0
  have hW' := hW
  obtain ⟨p, q, hA0, hV, rfl, hfz, hnd⟩ := hW
  have hA : DataW.TrodAll enc Tryd.prog W 0 (fun _ => true) true Tryd.f6.params.toList args.toList ds p := hA0
  rw [Tryd.params6] at hA hval
  obtain ⟨v0, v1, v2, d0, d1, d2, p0, p1, p2, rfl, rfl, rfl, h0, h1, h2⟩ := trodAll_three hA
  obtain ⟨rfl, rfl⟩ := trodVars_none hV
  obtain ⟨A0, t0, c0, rfl, hR0, hn0, hl0, _⟩ := open_group (hval 0 24 v0 rfl rfl) h0
  obtain ⟨A1, t1, c1, rfl, hR1, hn1⟩ := open_list (hval 1 25 v1 rfl rfl) h1
  obtain ⟨m2, rfl, rfl, rfl, w2⟩ := open_int Tryd.underlying2 (hval 2 2 v2 rfl rfl) h2
  clear hA0 hval0
  simp only [List.append_nil] at hW'
  have hlt0 : ∀ x ∈ p0, x.block < W.heap.size := fun x hx => hW'.lt x (by simp [hx])
  have hlt1 : ∀ x ∈ p1, x.block < W.heap.size := fun x hx => hW'.lt x (by simp [hx])
  refine (lawConjugateSubgroup_any A0 t0 c0 A1 t1 c1 m2 (yConjugateSubgroup0 t0 t1 m2) (qConjugateSubgroup1 t0 t1 m2) W hR0 hn0 hl0 hR1 hn1 (conjugateSubgroup_small0 t0 t1 m2) (tabL_of hL) (specConjugateSubgroup_ex t0 t1 m2) (implConjugateSubgroup_ex t0 t1 m2)).mono fun e W' ⟨he, hb⟩ => ?_
  subst he
  exact ⟨_, rfl, law_post (pa := p0 ++ (p1 ++ ([]))) hW' hb rfl rfl rfl (trodAll_mk3 (Below.trod laidOut_ (by kernel_rfl) (of_decide_eq_true (by kernel_rfl)) h0 hb hlt0) (Below.trod laidOut_ (by kernel_rfl) (of_decide_eq_true (by kernel_rfl)) h1 hb hlt1) (shut_int Tryd.underlying2 w2)) (by simp)⟩

theorem conjugateSubgroup_j10 : (Rows.fnExactConjugateSubgroupRow.inPlace == Tryd.prog.inPlace 6) = true := by kernel_rfl
theorem conjugateSubgroup_j11 : (Rows.fnExactConjugateSubgroupRow.unfollowed == Tryd.prog.unfollowed 6) = true := by kernel_rfl
theorem conjugateSubgroup_j12 : (Rows.fnExactConjugateSubgroupRow.recurses == Tryd.prog.recurses 6) = true := by kernel_rfl
theorem conjugateSubgroup_j13 : (Rows.fnExactConjugateSubgroupRow.named == Tryd.prog.varsNamed 6) = true := by kernel_rfl
theorem conjugateSubgroup_j5 : namedTie Tryd.prog Rows.fnExactConjugateSubgroupRow.named Rows.fnExactConjugateSubgroupSpec.vars = true := by kernel_rfl
theorem conjugateSubgroup_j23 : (Rows.fnExactConjugateSubgroupRow.plainKeys == Tryd.prog.plainKeys) = true := by kernel_rfl
theorem conjugateSubgroup_j27 : (Rows.fnExactConjugateSubgroupRow.lifted == Tryd.prog.liftsFinal) = true := by rw [jp_final]; rfl
theorem conjugateSubgroup_j28 : (Tryd.prog.make == some Rows.fnExactConjugateSubgroupRow.make) = true := by rw [jp_make]; rfl

theorem conjugateSubgroup_closed : joinedFacts Tryd.prog 6 Tryd.f6 Rows.fnExactConjugateSubgroupSpec Rows.fnExactConjugateSubgroupRow = true :=
  joined_parts (by kernel_rfl) jp_laid jp_maps (by kernel_rfl) conjugateSubgroup_j5 (by kernel_rfl) jp_stops (by kernel_rfl) jp_knobs conjugateSubgroup_j10 conjugateSubgroup_j11 conjugateSubgroup_j12 conjugateSubgroup_j13 (by kernel_rfl) (by kernel_rfl) (by kernel_rfl) (by kernel_rfl) (by kernel_rfl) (by kernel_rfl) (by kernel_rfl) (by kernel_rfl) (by kernel_rfl)
    conjugateSubgroup_j23 (by kernel_rfl) jp_heard jp_enter conjugateSubgroup_j27 conjugateSubgroup_j28 (by kernel_rfl) (by kernel_rfl) (by kernel_rfl) (by kernel_rfl)

theorem conjugateSubgroup_named : Tryd.pinned.checked.prog.funcNamed Rows.fnExactConjugateSubgroupRow.func = some 6 := by kernel_rfl

theorem conjugateSubgroup_holds : Rows.FnExactConjugateSubgroupSaid :=
  OpenClaim.holds_of_wide 6 Tryd.f6 rfl rfl rfl rfl rfl rfl rfl ⟨rfl, rfl, rfl, rfl, rfl⟩ rfl rfl rfl rfl rfl conjugateSubgroup_named Tryd.func6 conjugateSubgroup_closed
    (of_decide_eq_true (by kernel_rfl)) (by unfold Func.isWrapper; first | (rw [if_pos (by decide +kernel)]; kernel_rfl) | (rw [if_neg (by decide +kernel)]; exact ⟨rfl, rfl⟩))
    (fun os started H enc _ => conjugateSubgroup_lifted os started H enc)

theorem conjugateSubgroup_cmain : Tryd.pinned.checked.prog.mainIs = some (Rows.fnExactConjugateSubgroupCard.stood.harness.1, Rows.fnExactConjugateSubgroupCard.stood.harness.2.toList) := by kernel_rfl
theorem conjugateSubgroup_cwf : Rows.fnExactConjugateSubgroupRow.wfByText (OpenSpec.ofChange Rows.fnExactConjugateSubgroupSpec) = true := by kernel_rfl
theorem conjugateSubgroup_clooks : false = Tryd.pinned.checked.prog.looks [] := by kernel_rfl
theorem conjugateSubgroup_cgoes : false = Rows.fnExactConjugateSubgroupRow.goesBy Tryd.pinned.checked.prog := by kernel_rfl

theorem conjugateSubgroup_card : Rows.FnExactConjugateSubgroupCardSaid :=
  Claim7.holds_tied_plain_at .later [] [.data] true Rows.fnExactConjugateSubgroupCard.stood.harness false
    conjugateSubgroup_holds (fun _ h => by cases h) conjugateSubgroup_cwf (fun _ h => by cases h) fnExactConjugateSubgroup_row_tie rfl ⟨rfl, rfl⟩ conjugateSubgroup_cmain rfl
    (fun f fn hf hfn => by
      obtain rfl : f = 6 := Option.some.inj (conjugateSubgroup_named.symm.trans hf) |>.symm
      obtain rfl : fn = Tryd.f6 := (Option.some.inj (Tryd.func6.symm.trans hfn)).symm
      exact ⟨conjugateSubgroup_clooks, fun j t ht => by
        rw [Tryd.params6] at ht
        have hm : t ∈ [24, 25, 2] := by simpa using Array.mem_of_getElem? ht
        have hall : ([24, 25, 2].all fun u => !Tryd.prog.wantsStandIn u) = true := by kernel_rfl
        exact (show Tryd.prog.wantsStandIn t = false by simpa using List.all_eq_true.1 hall t hm)⟩)
    conjugateSubgroup_cgoes

end Go.Proofs.YtalejhbdbclfaaaDoor
