/-
  At every value of each parameter that can be read (a group value): FnExactDerivedOf answers true and its arguments read as before: DerivedOf answers as its model does. Condition: the package variables that the row lists lie as the program's text lays them (the card ties them).
-/
import Derived.Test.YtmmgmbgnlcfabaaDoorFrm3
import Derived.Test.YtmmgmbgnlcfabaaDoorJp
import Derived.Test.YtmmgmbgnlcfabaaDoorLwDerivedOf
import Derived.Test.YtmmgmbgnlcfabaaDoorDw
import Derived.Test.YtmmgmbgnlcfabaaDoorFrd
import Derived.Test.YtmmgmbgnlcfabaaDoorCards
import Derived.Test.YtmmgmbgnlcfabaaDoorTie
namespace Go.Proofs.YtmmgmbgnlcfabaaDoor
open Go.ChangeShapes Go.WideShapes Go.ChangeAt Go.RowKit

set_option maxRecDepth 100000 in
theorem derivedOf_lifted (os : Os) (started : os.Started) (H : Type) (enc : TypeId × Value → H) :
    ReturnsInHanded {} Tryd.checked os 9 .any (fun w args => (Rows.fnExactDerivedOfSpec.pre enc Tryd.prog Tryd.f9 [] false w args ∧ laidMetH Tryd.prog laidTab w) ∧ sizedMet enc Tryd.prog Tryd.f9 (OpenSpec.ofChange Rows.fnExactDerivedOfSpec) false w args)
      (Rows.fnExactDerivedOfSpec.post enc Tryd.prog Tryd.f9 false true false false) := by
  refine returnsInHanded_of_change_and (C := Tryd.checked) (X := fun w _ => laidMetH Tryd.prog laidTab w) (fun _ _ _ hh h => h.of_heap hh) own_ started (by kernel_rfl) Tryd.func9
    (ChangeSpec.witness_shaped (enc := enc) (C := Tryd.checked) (os := os) (X := fun w _ => laidMetH Tryd.prog laidTab w) false (World.doorLaid Tryd.prog 400 os) #[.agg #[.slice none 0 0]] 8 rfl (World.shaped_of_RefB (by kernel_rfl) (by kernel_rfl)) (by kernel_rfl) (by kernel_rfl) (by kernel_rfl) (laidTab_met os _)) ?_
  intro W base args ds gs before hval0 hW hcnd _ hL _
  have hval : ∀ (j : Nat) t v, Tryd.f9.params[j]? = some t → args[j]? = some v → Value.okWide Tryd.prog W .any base t v := hval0
  have hW' := hW
  obtain ⟨p, q, hA0, hV, rfl, hfz, hnd⟩ := hW
  have hA : DataW.TrodAll enc Tryd.prog W 0 (fun _ => true) true Tryd.f9.params.toList args.toList ds p := hA0
  rw [Tryd.params9] at hA hval
  obtain ⟨v0, d0, rfl, rfl, h0⟩ := trodAll_one hA
  obtain ⟨rfl, rfl⟩ := trodVars_none hV
  obtain ⟨A0, t0, c0, rfl, hR0, hn0, hl0, _⟩ := open_group (hval 0 24 v0 rfl rfl) h0
  clear hA0 hval0
  simp only [List.append_nil] at hW'
  have hlt0 : ∀ x ∈ p, x.block < W.heap.size := fun x hx => hW'.lt x (by simp [hx])
  refine (lawDerivedOf_any A0 t0 c0 (yDerivedOf0 t0) (qDerivedOf1 t0) W hR0 hn0 hl0 (derivedOf_small0 t0) (tabL_of hL) (specDerivedOf_ex t0) (implDerivedOf_ex t0)).mono fun e W' ⟨he, hb⟩ => ?_
  subst he
  exact ⟨_, rfl, law_post (pa := p) hW' hb rfl rfl rfl (trodAll_mk1 (Below.trod laidOut_ (by kernel_rfl) (of_decide_eq_true (by kernel_rfl)) h0 hb hlt0)) (by simp)⟩

theorem derivedOf_j10 : (Rows.fnExactDerivedOfRow.inPlace == Tryd.prog.inPlace 9) = true := by kernel_rfl
theorem derivedOf_j11 : (Rows.fnExactDerivedOfRow.unfollowed == Tryd.prog.unfollowed 9) = true := by kernel_rfl
theorem derivedOf_j12 : (Rows.fnExactDerivedOfRow.recurses == Tryd.prog.recurses 9) = true := by kernel_rfl
theorem derivedOf_j13 : (Rows.fnExactDerivedOfRow.named == Tryd.prog.varsNamed 9) = true := by kernel_rfl
theorem derivedOf_j5 : namedTie Tryd.prog Rows.fnExactDerivedOfRow.named Rows.fnExactDerivedOfSpec.vars = true := by kernel_rfl
theorem derivedOf_j23 : (Rows.fnExactDerivedOfRow.plainKeys == Tryd.prog.plainKeys) = true := by kernel_rfl
theorem derivedOf_j27 : (Rows.fnExactDerivedOfRow.lifted == Tryd.prog.liftsFinal) = true := by rw [jp_final]; rfl
theorem derivedOf_j28 : (Tryd.prog.make == some Rows.fnExactDerivedOfRow.make) = true := by rw [jp_make]; rfl

theorem derivedOf_closed : joinedFacts Tryd.prog 9 Tryd.f9 Rows.fnExactDerivedOfSpec Rows.fnExactDerivedOfRow = true :=
  joined_parts (by kernel_rfl) jp_laid jp_maps (by kernel_rfl) derivedOf_j5 (by kernel_rfl) jp_stops (by kernel_rfl) jp_knobs derivedOf_j10 derivedOf_j11 derivedOf_j12 derivedOf_j13 (by kernel_rfl) (by kernel_rfl) (by kernel_rfl) (by kernel_rfl) (by kernel_rfl) (by kernel_rfl) (by kernel_rfl) (by kernel_rfl) (by kernel_rfl)
    derivedOf_j23 (by kernel_rfl) jp_heard jp_enter derivedOf_j27 derivedOf_j28 (by kernel_rfl) (by kernel_rfl) (by kernel_rfl) (by kernel_rfl)

theorem derivedOf_named : Tryd.pinned.checked.prog.funcNamed Rows.fnExactDerivedOfRow.func = some 9 := by kernel_rfl

theorem derivedOf_holds : Rows.FnExactDerivedOfSaid :=
  OpenClaim.holds_of_wide 9 Tryd.f9 rfl rfl rfl rfl rfl rfl rfl ⟨rfl, rfl, rfl, rfl, rfl⟩ rfl rfl rfl rfl rfl derivedOf_named Tryd.func9 derivedOf_closed
    (of_decide_eq_true (by kernel_rfl)) (by unfold Func.isWrapper; first | (rw [if_pos (by decide +kernel)]; kernel_rfl) | (rw [if_neg (by decide +kernel)]; exact ⟨rfl, rfl⟩))
    (fun os started H enc _ => derivedOf_lifted os started H enc)

theorem derivedOf_card : Rows.FnExactDerivedOfCardSaid :=
  Claim7.holds_tied_plain_at .later [] [.data] true Rows.fnExactDerivedOfCard.stood.harness false
    derivedOf_holds (fun _ h => by cases h) (by kernel_rfl) (fun _ h => by cases h) fnExactDerivedOf_row_tie rfl ⟨rfl, rfl⟩ (by kernel_rfl) rfl
    (fun f fn hf hfn => by
      obtain rfl : f = 9 := Option.some.inj (derivedOf_named.symm.trans hf) |>.symm
      obtain rfl : fn = Tryd.f9 := (Option.some.inj (Tryd.func9.symm.trans hfn)).symm
      exact ⟨by kernel_rfl, fun j t ht => by
        rw [Tryd.params9] at ht
        have hm : t ∈ [24] := by simpa using Array.mem_of_getElem? ht
        have hall : ([24].all fun u => !Tryd.prog.wantsStandIn u) = true := by kernel_rfl
        exact (show Tryd.prog.wantsStandIn t = false by simpa using List.all_eq_true.1 hall t hm)⟩)
    (by kernel_rfl)

end Go.Proofs.YtmmgmbgnlcfabaaDoor
