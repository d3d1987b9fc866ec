/-
  At every value of each parameter that can be read (a group value, a module value, a cochain value): FnExactExtensionGroup answers true and its arguments read as before: ExtensionGroup answers as its model does. Condition: the package variables that the row lists lie as the program's text lays them (the card ties them).
-/
import Derived.Test.YtenenlpfpkdplaaDoorFra
import Derived.Test.YtenenlpfpkdplaaDoorJp
import Derived.Test.YtenenlpfpkdplaaDoorLwExtensionGroup
import Derived.Test.YtenenlpfpkdplaaDoorXh
import Derived.Test.YtenenlpfpkdplaaDoorFrs
import Derived.Test.YtenenlpfpkdplaaDoorCards
import Derived.Test.YtenenlpfpkdplaaDoorTie
namespace Go.Proofs.YtenenlpfpkdplaaDoor
open Go.ChangeShapes Go.WideShapes Go.ChangeAt Go.RowKit

set_option maxRecDepth 100000 in
theorem extensionGroup_lifted (os : Os) (started : os.Started) (H : Type) (enc : TypeId × Value → H) :
    ReturnsInHanded {} Tryd.checked os 4 .any (fun w args => (Rows.fnExactExtensionGroupSpec.pre enc Tryd.prog Tryd.f4 [] false w args ∧ laidMetH Tryd.prog laidErr w) ∧ sizedMet enc Tryd.prog Tryd.f4 (OpenSpec.ofChange Rows.fnExactExtensionGroupSpec) false w args)
      (Rows.fnExactExtensionGroupSpec.post enc Tryd.prog Tryd.f4 false true false false) := by
  refine returnsInHanded_of_change_and (C := Tryd.checked) (X := fun w _ => laidMetH Tryd.prog laidErr w) (fun _ _ _ hh h => h.of_heap hh) own_ started (by kernel_rfl) Tryd.func4
    (ChangeSpec.witness_shaped (enc := enc) (C := Tryd.checked) (os := os) (X := fun w _ => laidMetH Tryd.prog laidErr w) false (World.doorLaid Tryd.prog 400 os) #[.agg #[.slice none 0 0], .agg #[.int .i64 0, .slice none 0 0], .agg #[.int .i64 0, .slice none 0 0]] 8 rfl (World.shaped_of_RefB (by kernel_rfl) (by kernel_rfl)) (by kernel_rfl) (by kernel_rfl) (by kernel_rfl) (laidErr_met os _)) ?_
  intro W base args ds gs before hval0 hW hcnd _ hL _
  have hval : ∀ (j : Nat) t v, Tryd.f4.params[j]? = some t → args[j]? = some v → Value.okWide Tryd.prog W .any base t v := hval0
  have hW' := hW
  obtain ⟨p, q, hA0, hV, rfl, hfz, hnd⟩ := hW
  have hA : DataW.TrodAll enc Tryd.prog W 0 (fun _ => true) true Tryd.f4.params.toList args.toList ds p := hA0
  rw [Tryd.params4] at hA hval
  obtain ⟨v0, v1, v2, d0, d1, d2, p0, p1, p2, rfl, rfl, rfl, h0, h1, h2⟩ := trodAll_three hA
  obtain ⟨aE, hvE⟩ := errVar_of hL
  have hV' : DataW.TrodVars enc Tryd.prog W (fun _ => true) [errName] gs q := hV
  obtain ⟨rfl, rfl⟩ := hV'.unique (vars_read1 enc gErr tErr Tryd.underlying177 hvE trivial _)
  obtain ⟨A0, t0, c0, rfl, hR0, hn0, hl0, _⟩ := open_group (hval 0 24 v0 rfl rfl) h0
  obtain ⟨m1, A1, t1, c1, rfl, hR1, hn1⟩ := open_module (hval 1 27 v1 rfl rfl) h1
  obtain ⟨m2, A2, t2, c2, rfl, hR2, hn2⟩ := open_cochain (hval 2 29 v2 rfl rfl) h2
  clear hA0 hval0 hV hV'
  simp only at hW'
  have hlt0 : ∀ x ∈ p0, x.block < W.heap.size := fun x hx => hW'.lt x (by simp [hx])
  have hlt1 : ∀ x ∈ p1, x.block < W.heap.size := fun x hx => hW'.lt x (by simp [hx])
  have hlt2 : ∀ x ∈ p2, x.block < W.heap.size := fun x hx => hW'.lt x (by simp [hx])
  refine (lawExtensionGroup_any A0 t0 c0 m1 A1 t1 c1 m2 A2 t2 c2 (yExtensionGroup0 t0 m1 t1 m2 t2) (qExtensionGroup1 t0 m1 t1 m2 t2) W hR0 hn0 hl0 hR1 hn1 hR2 hn2 (extensionGroup_small0 t0 m1 t1 m2 t2) (specExtensionGroup_ex t0 m1 t1 m2 t2) (implExtensionGroup_ex t0 m1 t1 m2 t2)).mono fun e W' ⟨he, hb⟩ => ?_
  subst he
  exact ⟨_, rfl, law_postV (pa := p0 ++ (p1 ++ (p2))) (pv := [.cell 0 0]) hW' hb rfl rfl (trodAll_mk3 (Below.trod laidOut_ (by kernel_rfl) (of_decide_eq_true (by kernel_rfl)) h0 hb hlt0) (Below.trod laidOut_ (by kernel_rfl) (of_decide_eq_true (by kernel_rfl)) h1 hb hlt1) (Below.trod laidOut_ (by kernel_rfl) (of_decide_eq_true (by kernel_rfl)) h2 hb hlt2)) (vars_read1 enc gErr tErr Tryd.underlying177 (var_keep hb hvE) trivial _) (by simp)⟩

theorem extensionGroup_j10 : (Rows.fnExactExtensionGroupRow.inPlace == Tryd.prog.inPlace 4) = true := by kernel_rfl
theorem extensionGroup_j11 : (Rows.fnExactExtensionGroupRow.unfollowed == Tryd.prog.unfollowed 4) = true := by kernel_rfl
theorem extensionGroup_j12 : (Rows.fnExactExtensionGroupRow.recurses == Tryd.prog.recurses 4) = true := by kernel_rfl
theorem extensionGroup_j13 : (Rows.fnExactExtensionGroupRow.named == Tryd.prog.varsNamed 4) = true := by kernel_rfl
theorem extensionGroup_j5 : namedTie Tryd.prog Rows.fnExactExtensionGroupRow.named Rows.fnExactExtensionGroupSpec.vars = true := by kernel_rfl
theorem extensionGroup_j23 : (Rows.fnExactExtensionGroupRow.plainKeys == Tryd.prog.plainKeys) = true := by kernel_rfl
theorem extensionGroup_j27 : (Rows.fnExactExtensionGroupRow.lifted == Tryd.prog.liftsFinal) = true := by rw [jp_final]; rfl
theorem extensionGroup_j28 : (Tryd.prog.make == some Rows.fnExactExtensionGroupRow.make) = true := by rw [jp_make]; rfl

theorem extensionGroup_closed : joinedFacts Tryd.prog 4 Tryd.f4 Rows.fnExactExtensionGroupSpec Rows.fnExactExtensionGroupRow = true :=
  joined_parts (by kernel_rfl) jp_laid jp_maps (by kernel_rfl) extensionGroup_j5 (by kernel_rfl) jp_stops (by kernel_rfl) jp_knobs extensionGroup_j10 extensionGroup_j11 extensionGroup_j12 extensionGroup_j13 (by kernel_rfl) (by kernel_rfl) (by kernel_rfl) (by kernel_rfl) (by kernel_rfl) (by kernel_rfl) (by kernel_rfl) (by kernel_rfl) (by kernel_rfl)
    extensionGroup_j23 (by kernel_rfl) jp_heard jp_enter extensionGroup_j27 extensionGroup_j28 (by kernel_rfl) (by kernel_rfl) (by kernel_rfl) (by kernel_rfl)

theorem extensionGroup_named : Tryd.pinned.checked.prog.funcNamed Rows.fnExactExtensionGroupRow.func = some 4 := by kernel_rfl

theorem extensionGroup_holds : Rows.FnExactExtensionGroupSaid :=
  OpenClaim.holds_of_wide 4 Tryd.f4 rfl rfl rfl rfl rfl rfl rfl ⟨rfl, rfl, rfl, rfl, rfl⟩ rfl rfl rfl rfl rfl extensionGroup_named Tryd.func4 extensionGroup_closed
    (of_decide_eq_true (by kernel_rfl)) (by unfold Func.isWrapper; first | (rw [if_pos (by decide +kernel)]; kernel_rfl) | (rw [if_neg (by decide +kernel)]; exact ⟨rfl, rfl⟩))
    (fun os started H enc _ => extensionGroup_lifted os started H enc)

theorem extensionGroup_cmain : Tryd.pinned.checked.prog.mainIs = some (Rows.fnExactExtensionGroupCard.stood.harness.1, Rows.fnExactExtensionGroupCard.stood.harness.2.toList) := by kernel_rfl
theorem extensionGroup_cwf : Rows.fnExactExtensionGroupRow.wfByText (OpenSpec.ofChange Rows.fnExactExtensionGroupSpec) = true := by kernel_rfl
theorem extensionGroup_clooks : false = Tryd.pinned.checked.prog.looks [] := by kernel_rfl
theorem extensionGroup_cgoes : false = Rows.fnExactExtensionGroupRow.goesBy Tryd.pinned.checked.prog := by kernel_rfl

theorem extensionGroup_card : Rows.FnExactExtensionGroupCardSaid :=
  Claim7.holds_tied_plain_at .later [] [.sentinel] true Rows.fnExactExtensionGroupCard.stood.harness false
    extensionGroup_holds (fun _ h => by cases h) extensionGroup_cwf (fun _ h => by cases h) fnExactExtensionGroup_row_tie rfl ⟨rfl, rfl⟩ extensionGroup_cmain rfl
    (fun f fn hf hfn => by
      obtain rfl : f = 4 := Option.some.inj (extensionGroup_named.symm.trans hf) |>.symm
      obtain rfl : fn = Tryd.f4 := (Option.some.inj (Tryd.func4.symm.trans hfn)).symm
      exact ⟨extensionGroup_clooks, fun j t ht => by
        rw [Tryd.params4] at ht
        have hm : t ∈ [24, 27, 29] := by simpa using Array.mem_of_getElem? ht
        have hall : ([24, 27, 29].all fun u => !Tryd.prog.wantsStandIn u) = true := by kernel_rfl
        exact (show Tryd.prog.wantsStandIn t = false by simpa using List.all_eq_true.1 hall t hm)⟩)
    extensionGroup_cgoes

end Go.Proofs.YtenenlpfpkdplaaDoor
