/-
  At every value of each parameter that can be read (a group value, a module value, a number): FnExactInnerModule answers true and its arguments read as before: InnerModule answers as its model does. Condition: the package variables that the row lists lie as the program's text lays them (the card ties them).
-/
import Derived.Test.YtllkaoacfchibaaDoorFra
import Derived.Test.YtllkaoacfchibaaDoorJp
import Derived.Test.YtllkaoacfchibaaDoorLwInnerModule
import Derived.Test.YtllkaoacfchibaaDoorWe
import Derived.Test.YtllkaoacfchibaaDoorFrSq
import Derived.Test.YtllkaoacfchibaaDoorCards
import Derived.Test.YtllkaoacfchibaaDoorTie
namespace Go.Proofs.YtllkaoacfchibaaDoor
open Go.ChangeShapes Go.WideShapes Go.ChangeAt Go.RowKit

set_option maxRecDepth 100000 in
theorem innerModule_lifted (os : Os) (started : os.Started) (H : Type) (enc : TypeId × Value → H) :
    ReturnsInHanded {} Tryd.checked os 3 .any (fun w args => (Rows.fnExactInnerModuleSpec.pre enc Tryd.prog Tryd.f3 [] false w args ∧ laidMetH Tryd.prog laidSq w) ∧ sizedMet enc Tryd.prog Tryd.f3 (OpenSpec.ofChange Rows.fnExactInnerModuleSpec) false w args)
      (Rows.fnExactInnerModuleSpec.post enc Tryd.prog Tryd.f3 false true false false) := by
  refine returnsInHanded_of_change_and (C := Tryd.checked) (X := fun w _ => laidMetH Tryd.prog laidSq w) (fun _ _ _ hh h => h.of_heap hh) own_ started (by kernel_rfl) Tryd.func3
    (ChangeSpec.witness_shaped (enc := enc) (C := Tryd.checked) (os := os) (X := fun w _ => laidMetH Tryd.prog laidSq w) false (World.doorLaid Tryd.prog 400 os) #[.agg #[.slice none 0 0], .agg #[.int .i64 0, .slice none 0 0], .int .i64 0] 8 rfl (World.shaped_of_RefB (by kernel_rfl) (by kernel_rfl)) (by kernel_rfl) (by kernel_rfl) (by kernel_rfl) (laidSq_met os _)) ?_
  intro W base args ds gs before hval0 hW hcnd _ hL _
  have hval : ∀ (j : Nat) t v, Tryd.f3.params[j]? = some t → args[j]? = some v → Value.okWide Tryd.prog W .any base t v := hval0
  have hW' := hW
  obtain ⟨p, q, hA0, hV, rfl, hfz, hnd⟩ := hW
  have hA : DataW.TrodAll enc Tryd.prog W 0 (fun _ => true) true Tryd.f3.params.toList args.toList ds p := hA0
  rw [Tryd.params3] at hA hval
  obtain ⟨v0, v1, v2, d0, d1, d2, p0, p1, p2, rfl, rfl, rfl, h0, h1, h2⟩ := trodAll_three hA
  obtain ⟨aD, hvD⟩ := divVar_of hL
  have hV' : DataW.TrodVars enc Tryd.prog W (fun _ => true) [divName] gs q := hV
  obtain ⟨rfl, rfl⟩ := hV'.unique (vars_read1 enc g_div t_div Tryd.underlying184 hvD trivial _)
  obtain ⟨A0, t0, c0, rfl, hR0, hn0, hl0, _⟩ := open_group (hval 0 24 v0 rfl rfl) h0
  obtain ⟨m1, A1, t1, c1, rfl, hR1, hn1⟩ := open_module (hval 1 27 v1 rfl rfl) h1
  obtain ⟨m2, rfl, rfl, rfl, w2⟩ := open_int Tryd.underlying2 (hval 2 2 v2 rfl rfl) h2
  clear hA0 hval0 hV hV'
  simp only [List.append_nil] at hW'
  have hlt0 : ∀ x ∈ p0, x.block < W.heap.size := fun x hx => hW'.lt x (by simp [hx])
  have hlt1 : ∀ x ∈ p1, x.block < W.heap.size := fun x hx => hW'.lt x (by simp [hx])
  refine (lawInnerModule_any A0 t0 c0 m1 A1 t1 c1 m2 (qInnerModule0 t0 m1 t1 m2) (yInnerModule0 t0 m1 t1 m2) (qInnerModule1 t0 m1 t1 m2) W hR0 hn0 hl0 hR1 hn1 (innerModule_small0 t0 m1 t1 m2) (divL_of hL) (specInnerModule_ex t0 m1 t1 m2) (implInnerModule_ex t0 m1 t1 m2)).mono fun e W' ⟨he, hb⟩ => ?_
  subst he
  exact ⟨_, rfl, law_postV (pa := p0 ++ (p1 ++ ([]))) (pv := [.cell 0 0]) hW' hb rfl rfl (trodAll_mk3 (Below.trod laidOut_ (by kernel_rfl) (of_decide_eq_true (by kernel_rfl)) h0 hb hlt0) (Below.trod laidOut_ (by kernel_rfl) (of_decide_eq_true (by kernel_rfl)) h1 hb hlt1) (shut_int Tryd.underlying2 w2)) (vars_read1 enc g_div t_div Tryd.underlying184 (div_keep hb hvD) trivial _) (by simp)⟩

theorem innerModule_j10 : (Rows.fnExactInnerModuleRow.inPlace == Tryd.prog.inPlace 3) = true := by kernel_rfl
theorem innerModule_j11 : (Rows.fnExactInnerModuleRow.unfollowed == Tryd.prog.unfollowed 3) = true := by kernel_rfl
theorem innerModule_j12 : (Rows.fnExactInnerModuleRow.recurses == Tryd.prog.recurses 3) = true := by kernel_rfl
theorem innerModule_j13 : (Rows.fnExactInnerModuleRow.named == Tryd.prog.varsNamed 3) = true := by kernel_rfl
theorem innerModule_j5 : namedTie Tryd.prog Rows.fnExactInnerModuleRow.named Rows.fnExactInnerModuleSpec.vars = true := by kernel_rfl
theorem innerModule_j23 : (Rows.fnExactInnerModuleRow.plainKeys == Tryd.prog.plainKeys) = true := by kernel_rfl
theorem innerModule_j27 : (Rows.fnExactInnerModuleRow.lifted == Tryd.prog.liftsFinal) = true := by rw [jp_final]; rfl
theorem innerModule_j28 : (Tryd.prog.make == some Rows.fnExactInnerModuleRow.make) = true := by rw [jp_make]; rfl

theorem innerModule_closed : joinedFacts Tryd.prog 3 Tryd.f3 Rows.fnExactInnerModuleSpec Rows.fnExactInnerModuleRow = true :=
  joined_parts (by kernel_rfl) jp_laid jp_maps (by kernel_rfl) innerModule_j5 (by kernel_rfl) jp_stops (by kernel_rfl) jp_knobs innerModule_j10 innerModule_j11 innerModule_j12 innerModule_j13 (by kernel_rfl) (by kernel_rfl) (by kernel_rfl) (by kernel_rfl) (by kernel_rfl) (by kernel_rfl) (by kernel_rfl) (by kernel_rfl) (by kernel_rfl)
    innerModule_j23 (by kernel_rfl) jp_heard jp_enter innerModule_j27 innerModule_j28 (by kernel_rfl) (by kernel_rfl) (by kernel_rfl) (by kernel_rfl)

theorem innerModule_named : Tryd.pinned.checked.prog.funcNamed Rows.fnExactInnerModuleRow.func = some 3 := by kernel_rfl

theorem innerModule_holds : Rows.FnExactInnerModuleSaid :=
  OpenClaim.holds_of_wide 3 Tryd.f3 rfl rfl rfl rfl rfl rfl rfl ⟨rfl, rfl, rfl, rfl, rfl⟩ rfl rfl rfl rfl rfl innerModule_named Tryd.func3 innerModule_closed
    (of_decide_eq_true (by kernel_rfl)) (by unfold Func.isWrapper; first | (rw [if_pos (by decide +kernel)]; kernel_rfl) | (rw [if_neg (by decide +kernel)]; exact ⟨rfl, rfl⟩))
    (fun os started H enc _ => innerModule_lifted os started H enc)

theorem innerModule_cmain : Tryd.pinned.checked.prog.mainIs = some (Rows.fnExactInnerModuleCard.stood.harness.1, Rows.fnExactInnerModuleCard.stood.harness.2.toList) := by kernel_rfl
theorem innerModule_cwf : Rows.fnExactInnerModuleRow.wfByText (OpenSpec.ofChange Rows.fnExactInnerModuleSpec) = true := by kernel_rfl
theorem innerModule_clooks : true = Tryd.pinned.checked.prog.looks [] := by kernel_rfl
theorem innerModule_cgoes : false = Rows.fnExactInnerModuleRow.goesBy Tryd.pinned.checked.prog := by kernel_rfl

theorem innerModule_card : Rows.FnExactInnerModuleCardSaid :=
  Claim7.holds_tied_plain_at .later [] [.sentinel] true Rows.fnExactInnerModuleCard.stood.harness true
    innerModule_holds (fun _ h => by cases h) innerModule_cwf (fun _ h => by cases h) fnExactInnerModule_row_tie rfl ⟨rfl, rfl⟩ innerModule_cmain rfl
    (fun f fn hf hfn => by
      obtain rfl : f = 3 := Option.some.inj (innerModule_named.symm.trans hf) |>.symm
      obtain rfl : fn = Tryd.f3 := (Option.some.inj (Tryd.func3.symm.trans hfn)).symm
      exact ⟨innerModule_clooks, fun j t ht => by
        rw [Tryd.params3] at ht
        have hm : t ∈ [24, 27, 2] := by simpa using Array.mem_of_getElem? ht
        have hall : ([24, 27, 2].all fun u => !Tryd.prog.wantsStandIn u) = true := by kernel_rfl
        exact (show Tryd.prog.wantsStandIn t = false by simpa using List.all_eq_true.1 hall t hm)⟩)
    innerModule_cgoes

end Go.Proofs.YtllkaoacfchibaaDoor
