/-
  At every value of each parameter that can be read (a group value, a list of numbers): FnExactQuotientOf answers true and its arguments read as before: QuotientOf answers as its model does. Condition: the package variables that the row lists lie as the program's text lays them (the card ties them).
-/
import Derived.Test.YtenenlpfpkdplaaDoorFra
import Derived.Test.YtenenlpfpkdplaaDoorJp
import Derived.Test.YtenenlpfpkdplaaDoorLwQuotientOf
import Derived.Test.YtenenlpfpkdplaaDoorQv
import Derived.Test.YtenenlpfpkdplaaDoorFrd
import Derived.Test.YtenenlpfpkdplaaDoorCards
import Derived.Test.YtenenlpfpkdplaaDoorTie
namespace Go.Proofs.YtenenlpfpkdplaaDoor
open Go.ChangeShapes Go.WideShapes Go.ChangeAt Go.RowKit

set_option maxRecDepth 100000 in
theorem quotientOf_lifted (os : Os) (started : os.Started) (H : Type) (enc : TypeId × Value → H) :
    ReturnsInHanded {} Tryd.checked os 11 .any (fun w args => (Rows.fnExactQuotientOfSpec.pre enc Tryd.prog Tryd.f11 [] false w args ∧ laidMetH Tryd.prog laidTab w) ∧ sizedMet enc Tryd.prog Tryd.f11 (OpenSpec.ofChange Rows.fnExactQuotientOfSpec) false w args)
      (Rows.fnExactQuotientOfSpec.post enc Tryd.prog Tryd.f11 false true false false) := by
  refine returnsInHanded_of_change_and (C := Tryd.checked) (X := fun w _ => laidMetH Tryd.prog laidTab w) (fun _ _ _ hh h => h.of_heap hh) own_ started (by kernel_rfl) Tryd.func11
    (ChangeSpec.witness_shaped (enc := enc) (C := Tryd.checked) (os := os) (X := fun w _ => laidMetH Tryd.prog laidTab w) false (World.doorLaid Tryd.prog 400 os) #[.agg #[.slice none 0 0], .slice none 0 0] 8 rfl (World.shaped_of_RefB (by kernel_rfl) (by kernel_rfl)) (by kernel_rfl) (by kernel_rfl) (by kernel_rfl) (laidTab_met os _)) ?_
  intro W base args ds gs before hval0 hW hcnd _ hL _
  have hval : ∀ (j : Nat) t v, Tryd.f11.params[j]? = some t → args[j]? = some v → Value.okWide Tryd.prog W .any base t v := hval0
  have hW' := hW
  obtain ⟨p, q, hA0, hV, rfl, hfz, hnd⟩ := hW
  have hA : DataW.TrodAll enc Tryd.prog W 0 (fun _ => true) true Tryd.f11.params.toList args.toList ds p := hA0
  rw [Tryd.params11] at hA hval
  obtain ⟨v0, v1, d0, d1, p0, p1, rfl, rfl, rfl, h0, h1⟩ := trodAll_two hA
  obtain ⟨rfl, rfl⟩ := trodVars_none hV
  obtain ⟨A0, t0, c0, rfl, hR0, hn0, hl0, _⟩ := open_group (hval 0 24 v0 rfl rfl) h0
  obtain ⟨A1, t1, c1, rfl, hR1, hn1⟩ := open_list (hval 1 25 v1 rfl rfl) h1
  clear hA0 hval0
  simp only [List.append_nil] at hW'
  have hlt0 : ∀ x ∈ p0, x.block < W.heap.size := fun x hx => hW'.lt x (by simp [hx])
  have hlt1 : ∀ x ∈ p1, x.block < W.heap.size := fun x hx => hW'.lt x (by simp [hx])
  refine (lawQuotientOf_any A0 t0 c0 A1 t1 c1 (yQuotientOf0 t0 t1) (yQuotientOf1 t0 t1) (qQuotientOf2 t0 t1) W hR0 hn0 hl0 hR1 hn1 (quotientOf_small0 t0 t1) (quotientOf_small1 t0 t1) (tabL_of hL) (specQuotientOf_ex t0 t1) (implQuotientOf_ex t0 t1)).mono fun e W' ⟨he, hb⟩ => ?_
  subst he
  exact ⟨_, rfl, law_post (pa := p0 ++ (p1)) hW' hb rfl rfl rfl (trodAll_mk2 (Below.trod laidOut_ (by kernel_rfl) (of_decide_eq_true (by kernel_rfl)) h0 hb hlt0) (Below.trod laidOut_ (by kernel_rfl) (of_decide_eq_true (by kernel_rfl)) h1 hb hlt1)) (by simp)⟩

theorem quotientOf_j10 : (Rows.fnExactQuotientOfRow.inPlace == Tryd.prog.inPlace 11) = true := by kernel_rfl
theorem quotientOf_j11 : (Rows.fnExactQuotientOfRow.unfollowed == Tryd.prog.unfollowed 11) = true := by kernel_rfl
theorem quotientOf_j12 : (Rows.fnExactQuotientOfRow.recurses == Tryd.prog.recurses 11) = true := by kernel_rfl
theorem quotientOf_j13 : (Rows.fnExactQuotientOfRow.named == Tryd.prog.varsNamed 11) = true := by kernel_rfl
theorem quotientOf_j5 : namedTie Tryd.prog Rows.fnExactQuotientOfRow.named Rows.fnExactQuotientOfSpec.vars = true := by kernel_rfl
theorem quotientOf_j23 : (Rows.fnExactQuotientOfRow.plainKeys == Tryd.prog.plainKeys) = true := by kernel_rfl
theorem quotientOf_j27 : (Rows.fnExactQuotientOfRow.lifted == Tryd.prog.liftsFinal) = true := by rw [jp_final]; rfl
theorem quotientOf_j28 : (Tryd.prog.make == some Rows.fnExactQuotientOfRow.make) = true := by rw [jp_make]; rfl

theorem quotientOf_closed : joinedFacts Tryd.prog 11 Tryd.f11 Rows.fnExactQuotientOfSpec Rows.fnExactQuotientOfRow = true :=
  joined_parts (by kernel_rfl) jp_laid jp_maps (by kernel_rfl) quotientOf_j5 (by kernel_rfl) jp_stops (by kernel_rfl) jp_knobs quotientOf_j10 quotientOf_j11 quotientOf_j12 quotientOf_j13 (by kernel_rfl) (by kernel_rfl) (by kernel_rfl) (by kernel_rfl) (by kernel_rfl) (by kernel_rfl) (by kernel_rfl) (by kernel_rfl) (by kernel_rfl)
    quotientOf_j23 (by kernel_rfl) jp_heard jp_enter quotientOf_j27 quotientOf_j28 (by kernel_rfl) (by kernel_rfl) (by kernel_rfl) (by kernel_rfl)

theorem quotientOf_named : Tryd.pinned.checked.prog.funcNamed Rows.fnExactQuotientOfRow.func = some 11 := by kernel_rfl

theorem quotientOf_holds : Rows.FnExactQuotientOfSaid :=
  OpenClaim.holds_of_wide 11 Tryd.f11 rfl rfl rfl rfl rfl rfl rfl ⟨rfl, rfl, rfl, rfl, rfl⟩ rfl rfl rfl rfl rfl quotientOf_named Tryd.func11 quotientOf_closed
    (of_decide_eq_true (by kernel_rfl)) (by unfold Func.isWrapper; first | (rw [if_pos (by decide +kernel)]; kernel_rfl) | (rw [if_neg (by decide +kernel)]; exact ⟨rfl, rfl⟩))
    (fun os started H enc _ => quotientOf_lifted os started H enc)

theorem quotientOf_cmain : Tryd.pinned.checked.prog.mainIs = some (Rows.fnExactQuotientOfCard.stood.harness.1, Rows.fnExactQuotientOfCard.stood.harness.2.toList) := by kernel_rfl
theorem quotientOf_cwf : Rows.fnExactQuotientOfRow.wfByText (OpenSpec.ofChange Rows.fnExactQuotientOfSpec) = true := by kernel_rfl
theorem quotientOf_clooks : false = Tryd.pinned.checked.prog.looks [] := by kernel_rfl
theorem quotientOf_cgoes : false = Rows.fnExactQuotientOfRow.goesBy Tryd.pinned.checked.prog := by kernel_rfl

theorem quotientOf_card : Rows.FnExactQuotientOfCardSaid :=
  Claim7.holds_tied_plain_at .later [] [.data] true Rows.fnExactQuotientOfCard.stood.harness false
    quotientOf_holds (fun _ h => by cases h) quotientOf_cwf (fun _ h => by cases h) fnExactQuotientOf_row_tie rfl ⟨rfl, rfl⟩ quotientOf_cmain rfl
    (fun f fn hf hfn => by
      obtain rfl : f = 11 := Option.some.inj (quotientOf_named.symm.trans hf) |>.symm
      obtain rfl : fn = Tryd.f11 := (Option.some.inj (Tryd.func11.symm.trans hfn)).symm
      exact ⟨quotientOf_clooks, fun j t ht => by
        rw [Tryd.params11] at ht
        have hm : t ∈ [24, 25] := by simpa using Array.mem_of_getElem? ht
        have hall : ([24, 25].all fun u => !Tryd.prog.wantsStandIn u) = true := by kernel_rfl
        exact (show Tryd.prog.wantsStandIn t = false by simpa using List.all_eq_true.1 hall t hm)⟩)
    quotientOf_cgoes

end Go.Proofs.YtenenlpfpkdplaaDoor
