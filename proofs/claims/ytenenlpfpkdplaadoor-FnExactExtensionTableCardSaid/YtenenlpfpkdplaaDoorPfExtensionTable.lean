/-
  At every value of each parameter that can be read (a group value, a module value, a cochain value): FnExactExtensionTable answers true and its arguments read as before: ExtensionTable answers as its model does. Condition: the package variables that the row lists lie as the program's text lays them (the card ties them).
-/
import Derived.Test.YtenenlpfpkdplaaDoorFra
import Derived.Test.YtenenlpfpkdplaaDoorJp
import Derived.Test.YtenenlpfpkdplaaDoorLwExtensionTable
import Derived.Test.YtenenlpfpkdplaaDoorXg
import Derived.Test.YtenenlpfpkdplaaDoorFrs
import Derived.Test.YtenenlpfpkdplaaDoorCards
import Derived.Test.YtenenlpfpkdplaaDoorTie
namespace Go.Proofs.YtenenlpfpkdplaaDoor
open Go.ChangeShapes Go.WideShapes Go.ChangeAt Go.RowKit

set_option maxRecDepth 100000 in
theorem extensionTable_lifted (os : Os) (started : os.Started) (H : Type) (enc : TypeId × Value → H) :
    ReturnsInHanded {} Tryd.checked os 3 .any (fun w args => (Rows.fnExactExtensionTableSpec.pre enc Tryd.prog Tryd.f3 [] false w args ∧ laidMetH Tryd.prog laidErr w) ∧ sizedMet enc Tryd.prog Tryd.f3 (OpenSpec.ofChange Rows.fnExactExtensionTableSpec) false w args)
      (Rows.fnExactExtensionTableSpec.post enc Tryd.prog Tryd.f3 false true false false) := by
  refine returnsInHanded_of_change_and (C := Tryd.checked) (X := fun w _ => laidMetH Tryd.prog laidErr w) (fun _ _ _ hh h => h.of_heap hh) own_ started (by kernel_rfl) Tryd.func3
    (ChangeSpec.witness_shaped (enc := enc) (C := Tryd.checked) (os := os) (X := fun w _ => laidMetH Tryd.prog laidErr w) false (World.doorLaid Tryd.prog 400 os) #[.agg #[.slice none 0 0], .agg #[.int .i64 0, .slice none 0 0], .agg #[.int .i64 0, .slice none 0 0]] 8 rfl (World.shaped_of_RefB (by kernel_rfl) (by kernel_rfl)) (by kernel_rfl) (by kernel_rfl) (by kernel_rfl) (laidErr_met os _)) ?_
  intro W base args ds gs before hval0 hW hcnd _ hL _
  have hval : ∀ (j : Nat) t v, Tryd.f3.params[j]? = some t → args[j]? = some v → Value.okWide Tryd.prog W .any base t v := hval0
  have hW' := hW
  obtain ⟨p, q, hA0, hV, rfl, hfz, hnd⟩ := hW
  have hA : DataW.TrodAll enc Tryd.prog W 0 (fun _ => true) true Tryd.f3.params.toList args.toList ds p := hA0
  rw [Tryd.params3] at hA hval
  obtain ⟨v0, v1, v2, d0, d1, d2, p0, p1, p2, rfl, rfl, rfl, h0, h1, h2⟩ := trodAll_three hA
  obtain ⟨aE, hvE⟩ := errVar_of hL
  have hV' : DataW.TrodVars enc Tryd.prog W (fun _ => true) [errName] gs q := hV
  obtain ⟨rfl, rfl⟩ := hV'.unique (vars_read1 enc gErr tErr Tryd.underlying177 hvE trivial _)
  obtain ⟨A0, t0, c0, rfl, hR0, hn0, hl0, _⟩ := open_group (hval 0 24 v0 rfl rfl) h0
  obtain ⟨m1, A1, t1, c1, rfl, hR1, hn1⟩ := open_module (hval 1 27 v1 rfl rfl) h1
  obtain ⟨m2, A2, t2, c2, rfl, hR2, hn2⟩ := open_cochain (hval 2 29 v2 rfl rfl) h2
  clear hA0 hval0 hV hV'
  simp only at hW'
  have hlt0 : ∀ x ∈ p0, x.block < W.heap.size := fun x hx => hW'.lt x (by simp [hx])
  have hlt1 : ∀ x ∈ p1, x.block < W.heap.size := fun x hx => hW'.lt x (by simp [hx])
  have hlt2 : ∀ x ∈ p2, x.block < W.heap.size := fun x hx => hW'.lt x (by simp [hx])
  refine (lawExtensionTable_any A0 t0 c0 m1 A1 t1 c1 m2 A2 t2 c2 (yExtensionTable0 t0 m1 t1 m2 t2) (qExtensionTable1 t0 m1 t1 m2 t2) W hR0 hn0 hl0 hR1 hn1 hR2 hn2 (extensionTable_small0 t0 m1 t1 m2 t2) (specExtensionTable_ex t0 m1 t1 m2 t2) (implExtensionTable_ex t0 m1 t1 m2 t2)).mono fun e W' ⟨he, hb⟩ => ?_
  subst he
  exact ⟨_, rfl, law_postV (pa := p0 ++ (p1 ++ (p2))) (pv := [.cell 0 0]) hW' hb rfl rfl (trodAll_mk3 (Below.trod laidOut_ (by kernel_rfl) (of_decide_eq_true (by kernel_rfl)) h0 hb hlt0) (Below.trod laidOut_ (by kernel_rfl) (of_decide_eq_true (by kernel_rfl)) h1 hb hlt1) (Below.trod laidOut_ (by kernel_rfl) (of_decide_eq_true (by kernel_rfl)) h2 hb hlt2)) (vars_read1 enc gErr tErr Tryd.underlying177 (var_keep hb hvE) trivial _) (by simp)⟩

theorem extensionTable_j10 : (Rows.fnExactExtensionTableRow.inPlace == Tryd.prog.inPlace 3) = true := by kernel_rfl
theorem extensionTable_j11 : (Rows.fnExactExtensionTableRow.unfollowed == Tryd.prog.unfollowed 3) = true := by kernel_rfl
theorem extensionTable_j12 : (Rows.fnExactExtensionTableRow.recurses == Tryd.prog.recurses 3) = true := by kernel_rfl
theorem extensionTable_j13 : (Rows.fnExactExtensionTableRow.named == Tryd.prog.varsNamed 3) = true := by kernel_rfl
theorem extensionTable_j5 : namedTie Tryd.prog Rows.fnExactExtensionTableRow.named Rows.fnExactExtensionTableSpec.vars = true := by kernel_rfl
theorem extensionTable_j23 : (Rows.fnExactExtensionTableRow.plainKeys == Tryd.prog.plainKeys) = true := by kernel_rfl
theorem extensionTable_j27 : (Rows.fnExactExtensionTableRow.lifted == Tryd.prog.liftsFinal) = true := by rw [jp_final]; rfl
theorem extensionTable_j28 : (Tryd.prog.make == some Rows.fnExactExtensionTableRow.make) = true := by rw [jp_make]; rfl

theorem extensionTable_closed : joinedFacts Tryd.prog 3 Tryd.f3 Rows.fnExactExtensionTableSpec Rows.fnExactExtensionTableRow = true :=
  joined_parts (by kernel_rfl) jp_laid jp_maps (by kernel_rfl) extensionTable_j5 (by kernel_rfl) jp_stops (by kernel_rfl) jp_knobs extensionTable_j10 extensionTable_j11 extensionTable_j12 extensionTable_j13 (by kernel_rfl) (by kernel_rfl) (by kernel_rfl) (by kernel_rfl) (by kernel_rfl) (by kernel_rfl) (by kernel_rfl) (by kernel_rfl) (by kernel_rfl)
    extensionTable_j23 (by kernel_rfl) jp_heard jp_enter extensionTable_j27 extensionTable_j28 (by kernel_rfl) (by kernel_rfl) (by kernel_rfl) (by kernel_rfl)

theorem extensionTable_named : Tryd.pinned.checked.prog.funcNamed Rows.fnExactExtensionTableRow.func = some 3 := by kernel_rfl

theorem extensionTable_holds : Rows.FnExactExtensionTableSaid :=
  OpenClaim.holds_of_wide 3 Tryd.f3 rfl rfl rfl rfl rfl rfl rfl ⟨rfl, rfl, rfl, rfl, rfl⟩ rfl rfl rfl rfl rfl extensionTable_named Tryd.func3 extensionTable_closed
    (of_decide_eq_true (by kernel_rfl)) (by unfold Func.isWrapper; first | (rw [if_pos (by decide +kernel)]; kernel_rfl) | (rw [if_neg (by decide +kernel)]; exact ⟨rfl, rfl⟩))
    (fun os started H enc _ => extensionTable_lifted os started H enc)

theorem extensionTable_cmain : Tryd.pinned.checked.prog.mainIs = some (Rows.fnExactExtensionTableCard.stood.harness.1, Rows.fnExactExtensionTableCard.stood.harness.2.toList) := by kernel_rfl
theorem extensionTable_cwf : Rows.fnExactExtensionTableRow.wfByText (OpenSpec.ofChange Rows.fnExactExtensionTableSpec) = true := by kernel_rfl
theorem extensionTable_clooks : false = Tryd.pinned.checked.prog.looks [] := by kernel_rfl
theorem extensionTable_cgoes : false = Rows.fnExactExtensionTableRow.goesBy Tryd.pinned.checked.prog := by kernel_rfl

theorem extensionTable_card : Rows.FnExactExtensionTableCardSaid :=
  Claim7.holds_tied_plain_at .later [] [.sentinel] true Rows.fnExactExtensionTableCard.stood.harness false
    extensionTable_holds (fun _ h => by cases h) extensionTable_cwf (fun _ h => by cases h) fnExactExtensionTable_row_tie rfl ⟨rfl, rfl⟩ extensionTable_cmain rfl
    (fun f fn hf hfn => by
      obtain rfl : f = 3 := Option.some.inj (extensionTable_named.symm.trans hf) |>.symm
      obtain rfl : fn = Tryd.f3 := (Option.some.inj (Tryd.func3.symm.trans hfn)).symm
      exact ⟨extensionTable_clooks, fun j t ht => by
        rw [Tryd.params3] at ht
        have hm : t ∈ [24, 27, 29] := by simpa using Array.mem_of_getElem? ht
        have hall : ([24, 27, 29].all fun u => !Tryd.prog.wantsStandIn u) = true := by kernel_rfl
        exact (show Tryd.prog.wantsStandIn t = false by simpa using List.all_eq_true.1 hall t hm)⟩)
    extensionTable_cgoes

end Go.Proofs.YtenenlpfpkdplaaDoor
