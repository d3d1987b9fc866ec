/-
  At every value of each parameter that can be read (a group value): FnExactCentreOf answers true and its arguments read as before: CentreOf answers as its model does. Condition: the package variables that the row lists lie as the program's text lays them (the card ties them).
-/
import Derived.Test.YtmmgmbgnlcfabaaDoorFrm3
import Derived.Test.YtmmgmbgnlcfabaaDoorJp
import Derived.Test.YtmmgmbgnlcfabaaDoorLwCentreOf
import Derived.Test.YtmmgmbgnlcfabaaDoorCn
import Derived.Test.YtmmgmbgnlcfabaaDoorFrd
import Derived.Test.YtmmgmbgnlcfabaaDoorCards
import Derived.Test.YtmmgmbgnlcfabaaDoorTie
namespace Go.Proofs.YtmmgmbgnlcfabaaDoor
open Go.ChangeShapes Go.WideShapes Go.ChangeAt Go.RowKit

set_option maxRecDepth 100000 in
theorem centreOf_lifted (os : Os) (started : os.Started) (H : Type) (enc : TypeId × Value → H) :
    ReturnsInHanded {} Tryd.checked os 3 .any (fun w args => (Rows.fnExactCentreOfSpec.pre enc Tryd.prog Tryd.f3 [] false w args ∧ laidMetH Tryd.prog laidTab w) ∧ sizedMet enc Tryd.prog Tryd.f3 (OpenSpec.ofChange Rows.fnExactCentreOfSpec) false w args)
      (Rows.fnExactCentreOfSpec.post enc Tryd.prog Tryd.f3 false true false false) := by
  refine returnsInHanded_of_change_and (C := Tryd.checked) (X := fun w _ => laidMetH Tryd.prog laidTab w) (fun _ _ _ hh h => h.of_heap hh) own_ started (by kernel_rfl) Tryd.func3
    (ChangeSpec.witness_shaped (enc := enc) (C := Tryd.checked) (os := os) (X := fun w _ => laidMetH Tryd.prog laidTab w) false (World.doorLaid Tryd.prog 400 os) #[.agg #[.slice none 0 0]] 8 rfl (World.shaped_of_RefB (by kernel_rfl) (by kernel_rfl)) (by kernel_rfl) (by kernel_rfl) (by kernel_rfl) (laidTab_met os _)) ?_
  intro W base args ds gs before hval0 hW hcnd _ hL _
  have hval : ∀ (j : Nat) t v, Tryd.f3.params[j]? = some t → args[j]? = some v → Value.okWide Tryd.prog W .any base t v := hval0
  have hW' := hW
  obtain ⟨p, q, hA0, hV, rfl, hfz, hnd⟩ := hW
  have hA : DataW.TrodAll enc Tryd.prog W 0 (fun _ => true) true Tryd.f3.params.toList args.toList ds p := hA0
  rw [Tryd.params3] at hA hval
  obtain ⟨v0, d0, rfl, rfl, h0⟩ := trodAll_one hA
  obtain ⟨rfl, rfl⟩ := trodVars_none hV
  obtain ⟨A0, t0, c0, rfl, hR0, hn0, hl0, _⟩ := open_group (hval 0 24 v0 rfl rfl) h0
  clear hA0 hval0
  simp only [List.append_nil] at hW'
  have hlt0 : ∀ x ∈ p, x.block < W.heap.size := fun x hx => hW'.lt x (by simp [hx])
  refine (lawCentreOf_any A0 t0 c0 (yCentreOf0 t0) (qCentreOf1 t0) W hR0 hn0 hl0 (centreOf_small0 t0) (tabL_of hL) (specCentreOf_ex t0) (implCentreOf_ex t0)).mono fun e W' ⟨he, hb⟩ => ?_
  subst he
  exact ⟨_, rfl, law_post (pa := p) hW' hb rfl rfl rfl (trodAll_mk1 (Below.trod laidOut_ (by kernel_rfl) (of_decide_eq_true (by kernel_rfl)) h0 hb hlt0)) (by simp)⟩

theorem centreOf_j10 : (Rows.fnExactCentreOfRow.inPlace == Tryd.prog.inPlace 3) = true := by kernel_rfl
theorem centreOf_j11 : (Rows.fnExactCentreOfRow.unfollowed == Tryd.prog.unfollowed 3) = true := by kernel_rfl
theorem centreOf_j12 : (Rows.fnExactCentreOfRow.recurses == Tryd.prog.recurses 3) = true := by kernel_rfl
theorem centreOf_j13 : (Rows.fnExactCentreOfRow.named == Tryd.prog.varsNamed 3) = true := by kernel_rfl
theorem centreOf_j5 : namedTie Tryd.prog Rows.fnExactCentreOfRow.named Rows.fnExactCentreOfSpec.vars = true := by kernel_rfl
theorem centreOf_j23 : (Rows.fnExactCentreOfRow.plainKeys == Tryd.prog.plainKeys) = true := by kernel_rfl
theorem centreOf_j27 : (Rows.fnExactCentreOfRow.lifted == Tryd.prog.liftsFinal) = true := by rw [jp_final]; rfl
theorem centreOf_j28 : (Tryd.prog.make == some Rows.fnExactCentreOfRow.make) = true := by rw [jp_make]; rfl

theorem centreOf_closed : joinedFacts Tryd.prog 3 Tryd.f3 Rows.fnExactCentreOfSpec Rows.fnExactCentreOfRow = true :=
  joined_parts (by kernel_rfl) jp_laid jp_maps (by kernel_rfl) centreOf_j5 (by kernel_rfl) jp_stops (by kernel_rfl) jp_knobs centreOf_j10 centreOf_j11 centreOf_j12 centreOf_j13 (by kernel_rfl) (by kernel_rfl) (by kernel_rfl) (by kernel_rfl) (by kernel_rfl) (by kernel_rfl) (by kernel_rfl) (by kernel_rfl) (by kernel_rfl)
    centreOf_j23 (by kernel_rfl) jp_heard jp_enter centreOf_j27 centreOf_j28 (by kernel_rfl) (by kernel_rfl) (by kernel_rfl) (by kernel_rfl)

theorem centreOf_named : Tryd.pinned.checked.prog.funcNamed Rows.fnExactCentreOfRow.func = some 3 := by kernel_rfl

theorem centreOf_holds : Rows.FnExactCentreOfSaid :=
  OpenClaim.holds_of_wide 3 Tryd.f3 rfl rfl rfl rfl rfl rfl rfl ⟨rfl, rfl, rfl, rfl, rfl⟩ rfl rfl rfl rfl rfl centreOf_named Tryd.func3 centreOf_closed
    (of_decide_eq_true (by kernel_rfl)) (by unfold Func.isWrapper; first | (rw [if_pos (by decide +kernel)]; kernel_rfl) | (rw [if_neg (by decide +kernel)]; exact ⟨rfl, rfl⟩))
    (fun os started H enc _ => centreOf_lifted os started H enc)

theorem centreOf_card : Rows.FnExactCentreOfCardSaid :=
  Claim7.holds_tied_plain_at .later [] [.data] true Rows.fnExactCentreOfCard.stood.harness false
    centreOf_holds (fun _ h => by cases h) (by kernel_rfl) (fun _ h => by cases h) fnExactCentreOf_row_tie rfl ⟨rfl, rfl⟩ (by kernel_rfl) rfl
    (fun f fn hf hfn => by
      obtain rfl : f = 3 := Option.some.inj (centreOf_named.symm.trans hf) |>.symm
      obtain rfl : fn = Tryd.f3 := (Option.some.inj (Tryd.func3.symm.trans hfn)).symm
      exact ⟨by kernel_rfl, fun j t ht => by
        rw [Tryd.params3] at ht
        have hm : t ∈ [24] := by simpa using Array.mem_of_getElem? ht
        have hall : ([24].all fun u => !Tryd.prog.wantsStandIn u) = true := by kernel_rfl
        exact (show Tryd.prog.wantsStandIn t = false by simpa using List.all_eq_true.1 hall t hm)⟩)
    (by kernel_rfl)

end Go.Proofs.YtmmgmbgnlcfabaaDoor
