/-
  At every value of each parameter that can be read (a group value, a module value): FnExactKernelOf answers true and its arguments read as before: KernelOf answers as its model does. Condition: the package variables that the row lists lie as the program's text lays them (the card ties them).
-/
import Derived.Test.YtfafccldngekgaaDoorFra
import Derived.Test.YtfafccldngekgaaDoorJp
import Derived.Test.YtfafccldngekgaaDoorLwKernelOf
import Derived.Test.YtfafccldngekgaaDoorKf
import Derived.Test.YtfafccldngekgaaDoorFrd
import Derived.Test.YtfafccldngekgaaDoorCards
import Derived.Test.YtfafccldngekgaaDoorTie
namespace Go.Proofs.YtfafccldngekgaaDoor
open Go.ChangeShapes Go.WideShapes Go.ChangeAt Go.RowKit

set_option maxRecDepth 100000 in
theorem kernelOf_lifted (os : Os) (started : os.Started) (H : Type) (enc : TypeId × Value → H) :
    ReturnsInHanded {} Tryd.checked os 4 .any (fun w args => (Rows.fnExactKernelOfSpec.pre enc Tryd.prog Tryd.f4 [] false w args ∧ laidMetH Tryd.prog laidTab w) ∧ sizedMet enc Tryd.prog Tryd.f4 (OpenSpec.ofChange Rows.fnExactKernelOfSpec) false w args)
      (Rows.fnExactKernelOfSpec.post enc Tryd.prog Tryd.f4 false true false false) := by
  refine returnsInHanded_of_change_and (C := Tryd.checked) (X := fun w _ => laidMetH Tryd.prog laidTab w) (fun _ _ _ hh h => h.of_heap hh) own_ started (by kernel_rfl) Tryd.func4
    (ChangeSpec.witness_shaped (enc := enc) (C := Tryd.checked) (os := os) (X := fun w _ => laidMetH Tryd.prog laidTab w) false (World.doorLaid Tryd.prog 400 os) #[.agg #[.slice none 0 0], .agg #[.int .i64 0, .slice none 0 0]] 8 rfl (World.shaped_of_RefB (by kernel_rfl) (by kernel_rfl)) (by kernel_rfl) (by kernel_rfl) (by kernel_rfl) (laidTab_met os _)) ?_
  intro W base args ds gs before hval0 hW hcnd _ hL _
  have hval : ∀ (j : Nat) t v, Tryd.f4.params[j]? = some t → args[j]? = some v → Value.okWide Tryd.prog W .any base t v := hval0
  have hW' := hW
  obtain ⟨p, q, hA0, hV, rfl, hfz, hnd⟩ := hW
  have hA : DataW.TrodAll enc Tryd.prog W 0 (fun _ => true) true Tryd.f4.params.toList args.toList ds p := hA0
  rw [Tryd.params4] at hA hval
  obtain ⟨v0, v1, d0, d1, p0, p1, rfl, rfl, rfl, h0, h1⟩ := trodAll_two hA
  obtain ⟨rfl, rfl⟩ := trodVars_none hV
  obtain ⟨A0, t0, c0, rfl, hR0, hn0, hl0, _⟩ := open_group (hval 0 24 v0 rfl rfl) h0
  obtain ⟨m1, A1, t1, c1, rfl, hR1, hn1⟩ := open_module (hval 1 27 v1 rfl rfl) h1
  clear hA0 hval0
  simp only [List.append_nil] at hW'
  have hlt0 : ∀ x ∈ p0, x.block < W.heap.size := fun x hx => hW'.lt x (by simp [hx])
  have hlt1 : ∀ x ∈ p1, x.block < W.heap.size := fun x hx => hW'.lt x (by simp [hx])
  refine (lawKernelOf_any A0 t0 c0 m1 A1 t1 c1 (yKernelOf0 t0 m1 t1) (qKernelOf1 t0 m1 t1) W hR0 hn0 hl0 hR1 hn1 (kernelOf_small0 t0 m1 t1) (tabL_of hL) (specKernelOf_ex t0 m1 t1) (implKernelOf_ex t0 m1 t1)).mono fun e W' ⟨he, hb⟩ => ?_
  subst he
  exact ⟨_, rfl, law_post (pa := p0 ++ (p1)) hW' hb rfl rfl rfl (trodAll_mk2 (Below.trod laidOut_ (by kernel_rfl) (of_decide_eq_true (by kernel_rfl)) h0 hb hlt0) (Below.trod laidOut_ (by kernel_rfl) (of_decide_eq_true (by kernel_rfl)) h1 hb hlt1)) (by simp)⟩

theorem kernelOf_j10 : (Rows.fnExactKernelOfRow.inPlace == Tryd.prog.inPlace 4) = true := by kernel_rfl
theorem kernelOf_j11 : (Rows.fnExactKernelOfRow.unfollowed == Tryd.prog.unfollowed 4) = true := by kernel_rfl
theorem kernelOf_j12 : (Rows.fnExactKernelOfRow.recurses == Tryd.prog.recurses 4) = true := by kernel_rfl
theorem kernelOf_j13 : (Rows.fnExactKernelOfRow.named == Tryd.prog.varsNamed 4) = true := by kernel_rfl
theorem kernelOf_j5 : namedTie Tryd.prog Rows.fnExactKernelOfRow.named Rows.fnExactKernelOfSpec.vars = true := by kernel_rfl
theorem kernelOf_j23 : (Rows.fnExactKernelOfRow.plainKeys == Tryd.prog.plainKeys) = true := by kernel_rfl
theorem kernelOf_j27 : (Rows.fnExactKernelOfRow.lifted == Tryd.prog.liftsFinal) = true := by rw [jp_final]; rfl
theorem kernelOf_j28 : (Tryd.prog.make == some Rows.fnExactKernelOfRow.make) = true := by rw [jp_make]; rfl

theorem kernelOf_closed : joinedFacts Tryd.prog 4 Tryd.f4 Rows.fnExactKernelOfSpec Rows.fnExactKernelOfRow = true :=
  joined_parts (by kernel_rfl) jp_laid jp_maps (by kernel_rfl) kernelOf_j5 (by kernel_rfl) jp_stops (by kernel_rfl) jp_knobs kernelOf_j10 kernelOf_j11 kernelOf_j12 kernelOf_j13 (by kernel_rfl) (by kernel_rfl) (by kernel_rfl) (by kernel_rfl) (by kernel_rfl) (by kernel_rfl) (by kernel_rfl) (by kernel_rfl) (by kernel_rfl)
    kernelOf_j23 (by kernel_rfl) jp_heard jp_enter kernelOf_j27 kernelOf_j28 (by kernel_rfl) (by kernel_rfl) (by kernel_rfl) (by kernel_rfl)

theorem kernelOf_named : Tryd.pinned.checked.prog.funcNamed Rows.fnExactKernelOfRow.func = some 4 := by kernel_rfl

theorem kernelOf_holds : Rows.FnExactKernelOfSaid :=
  OpenClaim.holds_of_wide 4 Tryd.f4 rfl rfl rfl rfl rfl rfl rfl ⟨rfl, rfl, rfl, rfl, rfl⟩ rfl rfl rfl rfl rfl kernelOf_named Tryd.func4 kernelOf_closed
    (of_decide_eq_true (by kernel_rfl)) (by unfold Func.isWrapper; first | (rw [if_pos (by decide +kernel)]; kernel_rfl) | (rw [if_neg (by decide +kernel)]; exact ⟨rfl, rfl⟩))
    (fun os started H enc _ => kernelOf_lifted os started H enc)

theorem kernelOf_cmain : Tryd.pinned.checked.prog.mainIs = some (Rows.fnExactKernelOfCard.stood.harness.1, Rows.fnExactKernelOfCard.stood.harness.2.toList) := by kernel_rfl
theorem kernelOf_cwf : Rows.fnExactKernelOfRow.wfByText (OpenSpec.ofChange Rows.fnExactKernelOfSpec) = true := by kernel_rfl
theorem kernelOf_clooks : false = Tryd.pinned.checked.prog.looks [] := by kernel_rfl
theorem kernelOf_cgoes : false = Rows.fnExactKernelOfRow.goesBy Tryd.pinned.checked.prog := by kernel_rfl

theorem kernelOf_card : Rows.FnExactKernelOfCardSaid :=
  Claim7.holds_tied_plain_at .later [] [.data] true Rows.fnExactKernelOfCard.stood.harness false
    kernelOf_holds (fun _ h => by cases h) kernelOf_cwf (fun _ h => by cases h) fnExactKernelOf_row_tie rfl ⟨rfl, rfl⟩ kernelOf_cmain rfl
    (fun f fn hf hfn => by
      obtain rfl : f = 4 := Option.some.inj (kernelOf_named.symm.trans hf) |>.symm
      obtain rfl : fn = Tryd.f4 := (Option.some.inj (Tryd.func4.symm.trans hfn)).symm
      exact ⟨kernelOf_clooks, fun j t ht => by
        rw [Tryd.params4] at ht
        have hm : t ∈ [24, 27] := by simpa using Array.mem_of_getElem? ht
        have hall : ([24, 27].all fun u => !Tryd.prog.wantsStandIn u) = true := by kernel_rfl
        exact (show Tryd.prog.wantsStandIn t = false by simpa using List.all_eq_true.1 hall t hm)⟩)
    kernelOf_cgoes

end Go.Proofs.YtfafccldngekgaaDoor
