/-
  At every value of each parameter that can be read (a group value, a module value, a list of numbers): FnExactModuleOfSubgroup answers true and its arguments read as before: ModuleOfSubgroup answers as its model does. Condition: the package variables that the row lists lie as the program's text lays them (the card ties them).
-/
import Derived.Test.YtalejhbdbclfaaaDoorFra
import Derived.Test.YtalejhbdbclfaaaDoorJp
import Derived.Test.YtalejhbdbclfaaaDoorLwModuleOfSubgroup
import Derived.Test.YtalejhbdbclfaaaDoorUs
import Derived.Test.YtalejhbdbclfaaaDoorFrd
import Derived.Test.YtalejhbdbclfaaaDoorCards
import Derived.Test.YtalejhbdbclfaaaDoorTie
namespace Go.Proofs.YtalejhbdbclfaaaDoor
open Go.ChangeShapes Go.WideShapes Go.ChangeAt Go.RowKit

set_option maxRecDepth 100000 in
theorem moduleOfSubgroup_lifted (os : Os) (started : os.Started) (H : Type) (enc : TypeId × Value → H) :
    ReturnsInHanded {} Tryd.checked os 4 .any (fun w args => (Rows.fnExactModuleOfSubgroupSpec.pre enc Tryd.prog Tryd.f4 [] false w args ∧ laidMetH Tryd.prog laidTab w) ∧ sizedMet enc Tryd.prog Tryd.f4 (OpenSpec.ofChange Rows.fnExactModuleOfSubgroupSpec) false w args)
      (Rows.fnExactModuleOfSubgroupSpec.post enc Tryd.prog Tryd.f4 false true false false) := by
  refine returnsInHanded_of_change_and (C := Tryd.checked) (X := fun w _ => laidMetH Tryd.prog laidTab w) (fun _ _ _ hh h => h.of_heap hh) own_ started (by kernel_rfl) Tryd.func4
    (ChangeSpec.witness_shaped (enc := enc) (C := Tryd.checked) (os := os) (X := fun w _ => laidMetH Tryd.prog laidTab w) false (World.doorLaid Tryd.prog 400 os) #[.agg #[.slice none 0 0], .agg #[.int .i64 0, .slice none 0 0], .slice none 0 0] 8 rfl (World.shaped_of_RefB (by kernel_rfl) (by kernel_rfl)) (by kernel_rfl) (by kernel_rfl) (by kernel_rfl) (laidTab_met os _)) ?_
  intro W base args ds gs before hval0 hW hcnd _ hL _
  have hval : ∀ (j : Nat) t v, Tryd.f4.params[j]? = some t → args[j]? = some v → Value.okWide Tryd.prog W .any base t v := hval0
  have hW' := hW
  obtain ⟨p, q, hA0, hV, rfl, hfz, hnd⟩ := hW
  have hA : DataW.TrodAll enc Tryd.prog W 0 (fun _ => true) true Tryd.f4.params.toList args.toList ds p := hA0
  rw [Tryd.params4] at hA hval
  obtain ⟨v0, v1, v2, d0, d1, d2, p0, p1, p2, rfl, rfl, rfl, h0, h1, h2⟩ := trodAll_three hA
  obtain ⟨rfl, rfl⟩ := trodVars_none hV
  obtain ⟨A0, t0, c0, rfl, hR0, hn0, hl0, _⟩ := open_group (hval 0 24 v0 rfl rfl) h0
  obtain ⟨m1, A1, t1, c1, rfl, hR1, hn1⟩ := open_module (hval 1 38 v1 rfl rfl) h1
  obtain ⟨A2, t2, c2, rfl, hR2, hn2⟩ := open_list (hval 2 25 v2 rfl rfl) h2
  clear hA0 hval0
  simp only [List.append_nil] at hW'
  have hlt0 : ∀ x ∈ p0, x.block < W.heap.size := fun x hx => hW'.lt x (by simp [hx])
  have hlt1 : ∀ x ∈ p1, x.block < W.heap.size := fun x hx => hW'.lt x (by simp [hx])
  have hlt2 : ∀ x ∈ p2, x.block < W.heap.size := fun x hx => hW'.lt x (by simp [hx])
  refine (lawModuleOfSubgroup_any A0 t0 c0 m1 A1 t1 c1 A2 t2 c2 (qModuleOfSubgroup0 t0 m1 t1 t2) (yModuleOfSubgroup0 t0 m1 t1 t2) (qModuleOfSubgroup1 t0 m1 t1 t2) W hR0 hn0 hl0 hR1 hn1 hR2 hn2 (moduleOfSubgroup_small0 t0 m1 t1 t2) (tabL_of hL) (specModuleOfSubgroup_ex t0 m1 t1 t2) (implModuleOfSubgroup_ex t0 m1 t1 t2)).mono fun e W' ⟨he, hb⟩ => ?_
  subst he
  exact ⟨_, rfl, law_post (pa := p0 ++ (p1 ++ (p2))) hW' hb rfl rfl rfl (trodAll_mk3 (Below.trod laidOut_ (by kernel_rfl) (of_decide_eq_true (by kernel_rfl)) h0 hb hlt0) (Below.trod laidOut_ (by kernel_rfl) (of_decide_eq_true (by kernel_rfl)) h1 hb hlt1) (Below.trod laidOut_ (by kernel_rfl) (of_decide_eq_true (by kernel_rfl)) h2 hb hlt2)) (by simp)⟩

theorem moduleOfSubgroup_j10 : (Rows.fnExactModuleOfSubgroupRow.inPlace == Tryd.prog.inPlace 4) = true := by kernel_rfl
theorem moduleOfSubgroup_j11 : (Rows.fnExactModuleOfSubgroupRow.unfollowed == Tryd.prog.unfollowed 4) = true := by kernel_rfl
theorem moduleOfSubgroup_j12 : (Rows.fnExactModuleOfSubgroupRow.recurses == Tryd.prog.recurses 4) = true := by kernel_rfl
theorem moduleOfSubgroup_j13 : (Rows.fnExactModuleOfSubgroupRow.named == Tryd.prog.varsNamed 4) = true := by kernel_rfl
theorem moduleOfSubgroup_j5 : namedTie Tryd.prog Rows.fnExactModuleOfSubgroupRow.named Rows.fnExactModuleOfSubgroupSpec.vars = true := by kernel_rfl
theorem moduleOfSubgroup_j23 : (Rows.fnExactModuleOfSubgroupRow.plainKeys == Tryd.prog.plainKeys) = true := by kernel_rfl
theorem moduleOfSubgroup_j27 : (Rows.fnExactModuleOfSubgroupRow.lifted == Tryd.prog.liftsFinal) = true := by rw [jp_final]; rfl
theorem moduleOfSubgroup_j28 : (Tryd.prog.make == some Rows.fnExactModuleOfSubgroupRow.make) = true := by rw [jp_make]; rfl

theorem moduleOfSubgroup_closed : joinedFacts Tryd.prog 4 Tryd.f4 Rows.fnExactModuleOfSubgroupSpec Rows.fnExactModuleOfSubgroupRow = true :=
  joined_parts (by kernel_rfl) jp_laid jp_maps (by kernel_rfl) moduleOfSubgroup_j5 (by kernel_rfl) jp_stops (by kernel_rfl) jp_knobs moduleOfSubgroup_j10 moduleOfSubgroup_j11 moduleOfSubgroup_j12 moduleOfSubgroup_j13 (by kernel_rfl) (by kernel_rfl) (by kernel_rfl) (by kernel_rfl) (by kernel_rfl) (by kernel_rfl) (by kernel_rfl) (by kernel_rfl) (by kernel_rfl)
    moduleOfSubgroup_j23 (by kernel_rfl) jp_heard jp_enter moduleOfSubgroup_j27 moduleOfSubgroup_j28 (by kernel_rfl) (by kernel_rfl) (by kernel_rfl) (by kernel_rfl)

theorem moduleOfSubgroup_named : Tryd.pinned.checked.prog.funcNamed Rows.fnExactModuleOfSubgroupRow.func = some 4 := by kernel_rfl

theorem moduleOfSubgroup_holds : Rows.FnExactModuleOfSubgroupSaid :=
  OpenClaim.holds_of_wide 4 Tryd.f4 rfl rfl rfl rfl rfl rfl rfl ⟨rfl, rfl, rfl, rfl, rfl⟩ rfl rfl rfl rfl rfl moduleOfSubgroup_named Tryd.func4 moduleOfSubgroup_closed
    (of_decide_eq_true (by kernel_rfl)) (by unfold Func.isWrapper; first | (rw [if_pos (by decide +kernel)]; kernel_rfl) | (rw [if_neg (by decide +kernel)]; exact ⟨rfl, rfl⟩))
    (fun os started H enc _ => moduleOfSubgroup_lifted os started H enc)

theorem moduleOfSubgroup_cmain : Tryd.pinned.checked.prog.mainIs = some (Rows.fnExactModuleOfSubgroupCard.stood.harness.1, Rows.fnExactModuleOfSubgroupCard.stood.harness.2.toList) := by kernel_rfl
theorem moduleOfSubgroup_cwf : Rows.fnExactModuleOfSubgroupRow.wfByText (OpenSpec.ofChange Rows.fnExactModuleOfSubgroupSpec) = true := by kernel_rfl
theorem moduleOfSubgroup_clooks : false = Tryd.pinned.checked.prog.looks [] := by kernel_rfl
theorem moduleOfSubgroup_cgoes : false = Rows.fnExactModuleOfSubgroupRow.goesBy Tryd.pinned.checked.prog := by kernel_rfl

theorem moduleOfSubgroup_card : Rows.FnExactModuleOfSubgroupCardSaid :=
  Claim7.holds_tied_plain_at .later [] [.data] true Rows.fnExactModuleOfSubgroupCard.stood.harness false
    moduleOfSubgroup_holds (fun _ h => by cases h) moduleOfSubgroup_cwf (fun _ h => by cases h) fnExactModuleOfSubgroup_row_tie rfl ⟨rfl, rfl⟩ moduleOfSubgroup_cmain rfl
    (fun f fn hf hfn => by
      obtain rfl : f = 4 := Option.some.inj (moduleOfSubgroup_named.symm.trans hf) |>.symm
      obtain rfl : fn = Tryd.f4 := (Option.some.inj (Tryd.func4.symm.trans hfn)).symm
      exact ⟨moduleOfSubgroup_clooks, fun j t ht => by
        rw [Tryd.params4] at ht
        have hm : t ∈ [24, 38, 25] := by simpa using Array.mem_of_getElem? ht
        have hall : ([24, 38, 25].all fun u => !Tryd.prog.wantsStandIn u) = true := by kernel_rfl
        exact (show Tryd.prog.wantsStandIn t = false by simpa using List.all_eq_true.1 hall t hm)⟩)
    moduleOfSubgroup_cgoes

end Go.Proofs.YtalejhbdbclfaaaDoor
