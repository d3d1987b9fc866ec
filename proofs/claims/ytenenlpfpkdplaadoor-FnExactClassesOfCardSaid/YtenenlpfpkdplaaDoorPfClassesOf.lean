/-
  At every value of each parameter that can be read (a group value): FnExactClassesOf answers true and its arguments read as before: ClassesOf answers as its model does. Condition: the package variables that the row lists lie as the program's text lays them (the card ties them).
-/
import Derived.Test.YtenenlpfpkdplaaDoorFra
import Derived.Test.YtenenlpfpkdplaaDoorJp
import Derived.Test.YtenenlpfpkdplaaDoorLwClassesOf
import Derived.Test.YtenenlpfpkdplaaDoorYd
import Derived.Test.YtenenlpfpkdplaaDoorFrd
import Derived.Test.YtenenlpfpkdplaaDoorCards
import Derived.Test.YtenenlpfpkdplaaDoorTie
namespace Go.Proofs.YtenenlpfpkdplaaDoor
open Go.ChangeShapes Go.WideShapes Go.ChangeAt Go.RowKit

set_option maxRecDepth 100000 in
theorem classesOf_lifted (os : Os) (started : os.Started) (H : Type) (enc : TypeId × Value → H) :
    ReturnsInHanded {} Tryd.checked os 12 .any (fun w args => (Rows.fnExactClassesOfSpec.pre enc Tryd.prog Tryd.f12 [] false w args ∧ laidMetH Tryd.prog laidTab w) ∧ sizedMet enc Tryd.prog Tryd.f12 (OpenSpec.ofChange Rows.fnExactClassesOfSpec) false w args)
      (Rows.fnExactClassesOfSpec.post enc Tryd.prog Tryd.f12 false true false false) := by
  refine returnsInHanded_of_change_and (C := Tryd.checked) (X := fun w _ => laidMetH Tryd.prog laidTab w) (fun _ _ _ hh h => h.of_heap hh) own_ started (by kernel_rfl) Tryd.func12
    (ChangeSpec.witness_shaped (enc := enc) (C := Tryd.checked) (os := os) (X := fun w _ => laidMetH Tryd.prog laidTab w) false (World.doorLaid Tryd.prog 400 os) #[.agg #[.slice none 0 0]] 8 rfl (World.shaped_of_RefB (by kernel_rfl) (by kernel_rfl)) (by kernel_rfl) (by kernel_rfl) (by kernel_rfl) (laidTab_met os _)) ?_
  intro W base args ds gs before hval0 hW hcnd _ hL _
  have hval : ∀ (j : Nat) t v, Tryd.f12.params[j]? = some t → args[j]? = some v → Value.okWide Tryd.prog W .any base t v := hval0
  have hW' := hW
  obtain ⟨p, q, hA0, hV, rfl, hfz, hnd⟩ := hW
  have hA : DataW.TrodAll enc Tryd.prog W 0 (fun _ => true) true Tryd.f12.params.toList args.toList ds p := hA0
  rw [Tryd.params12] at hA hval
  obtain ⟨v0, d0, rfl, rfl, h0⟩ := trodAll_one hA
  obtain ⟨rfl, rfl⟩ := trodVars_none hV
  obtain ⟨A0, t0, c0, rfl, hR0, hn0, hl0, _⟩ := open_group (hval 0 24 v0 rfl rfl) h0
  clear hA0 hval0
  simp only [List.append_nil] at hW'
  have hlt0 : ∀ x ∈ p, x.block < W.heap.size := fun x hx => hW'.lt x (by simp [hx])
  refine (lawClassesOf_any A0 t0 c0 (yClassesOf0 t0) (qClassesOf1 t0) W hR0 hn0 hl0 (classesOf_small0 t0) (tabL_of hL) (specClassesOf_ex t0) (implClassesOf_ex t0)).mono fun e W' ⟨he, hb⟩ => ?_
  subst he
  exact ⟨_, rfl, law_post (pa := p) hW' hb rfl rfl rfl (trodAll_mk1 (Below.trod laidOut_ (by kernel_rfl) (of_decide_eq_true (by kernel_rfl)) h0 hb hlt0)) (by simp)⟩

theorem classesOf_j10 : (Rows.fnExactClassesOfRow.inPlace == Tryd.prog.inPlace 12) = true := by kernel_rfl
theorem classesOf_j11 : (Rows.fnExactClassesOfRow.unfollowed == Tryd.prog.unfollowed 12) = true := by kernel_rfl
theorem classesOf_j12 : (Rows.fnExactClassesOfRow.recurses == Tryd.prog.recurses 12) = true := by kernel_rfl
theorem classesOf_j13 : (Rows.fnExactClassesOfRow.named == Tryd.prog.varsNamed 12) = true := by kernel_rfl
theorem classesOf_j5 : namedTie Tryd.prog Rows.fnExactClassesOfRow.named Rows.fnExactClassesOfSpec.vars = true := by kernel_rfl
theorem classesOf_j23 : (Rows.fnExactClassesOfRow.plainKeys == Tryd.prog.plainKeys) = true := by kernel_rfl
theorem classesOf_j27 : (Rows.fnExactClassesOfRow.lifted == Tryd.prog.liftsFinal) = true := by rw [jp_final]; rfl
theorem classesOf_j28 : (Tryd.prog.make == some Rows.fnExactClassesOfRow.make) = true := by rw [jp_make]; rfl

theorem classesOf_closed : joinedFacts Tryd.prog 12 Tryd.f12 Rows.fnExactClassesOfSpec Rows.fnExactClassesOfRow = true :=
  joined_parts (by kernel_rfl) jp_laid jp_maps (by kernel_rfl) classesOf_j5 (by kernel_rfl) jp_stops (by kernel_rfl) jp_knobs classesOf_j10 classesOf_j11 classesOf_j12 classesOf_j13 (by kernel_rfl) (by kernel_rfl) (by kernel_rfl) (by kernel_rfl) (by kernel_rfl) (by kernel_rfl) (by kernel_rfl) (by kernel_rfl) (by kernel_rfl)
    classesOf_j23 (by kernel_rfl) jp_heard jp_enter classesOf_j27 classesOf_j28 (by kernel_rfl) (by kernel_rfl) (by kernel_rfl) (by kernel_rfl)

theorem classesOf_named : Tryd.pinned.checked.prog.funcNamed Rows.fnExactClassesOfRow.func = some 12 := by kernel_rfl

theorem classesOf_holds : Rows.FnExactClassesOfSaid :=
  OpenClaim.holds_of_wide 12 Tryd.f12 rfl rfl rfl rfl rfl rfl rfl ⟨rfl, rfl, rfl, rfl, rfl⟩ rfl rfl rfl rfl rfl classesOf_named Tryd.func12 classesOf_closed
    (of_decide_eq_true (by kernel_rfl)) (by unfold Func.isWrapper; first | (rw [if_pos (by decide +kernel)]; kernel_rfl) | (rw [if_neg (by decide +kernel)]; exact ⟨rfl, rfl⟩))
    (fun os started H enc _ => classesOf_lifted os started H enc)

theorem classesOf_cmain : Tryd.pinned.checked.prog.mainIs = some (Rows.fnExactClassesOfCard.stood.harness.1, Rows.fnExactClassesOfCard.stood.harness.2.toList) := by kernel_rfl
theorem classesOf_cwf : Rows.fnExactClassesOfRow.wfByText (OpenSpec.ofChange Rows.fnExactClassesOfSpec) = true := by kernel_rfl
theorem classesOf_clooks : false = Tryd.pinned.checked.prog.looks [] := by kernel_rfl
theorem classesOf_cgoes : false = Rows.fnExactClassesOfRow.goesBy Tryd.pinned.checked.prog := by kernel_rfl

theorem classesOf_card : Rows.FnExactClassesOfCardSaid :=
  Claim7.holds_tied_plain_at .later [] [.data] true Rows.fnExactClassesOfCard.stood.harness false
    classesOf_holds (fun _ h => by cases h) classesOf_cwf (fun _ h => by cases h) fnExactClassesOf_row_tie rfl ⟨rfl, rfl⟩ classesOf_cmain rfl
    (fun f fn hf hfn => by
      obtain rfl : f = 12 := Option.some.inj (classesOf_named.symm.trans hf) |>.symm
      obtain rfl : fn = Tryd.f12 := (Option.some.inj (Tryd.func12.symm.trans hfn)).symm
      exact ⟨classesOf_clooks, fun j t ht => by
        rw [Tryd.params12] at ht
        have hm : t ∈ [24] := by simpa using Array.mem_of_getElem? ht
        have hall : ([24].all fun u => !Tryd.prog.wantsStandIn u) = true := by kernel_rfl
        exact (show Tryd.prog.wantsStandIn t = false by simpa using List.all_eq_true.1 hall t hm)⟩)
    classesOf_cgoes

end Go.Proofs.YtenenlpfpkdplaaDoor
