/-
  At every value of each parameter that can be read (a group value, a module value, a list of numbers): FnExactKernelOfCrossed answers true and its arguments read as before: KernelOfCrossed answers as its model does. Condition: the package variables that the row lists lie as the program's text lays them (the card ties them).
-/
import Derived.Test.YtfafccldngekgaaDoorFra
import Derived.Test.YtfafccldngekgaaDoorJp
import Derived.Test.YtfafccldngekgaaDoorLwKernelOfCrossed
import Derived.Test.YtfafccldngekgaaDoorKx
import Derived.Test.YtfafccldngekgaaDoorFrd
import Derived.Test.YtfafccldngekgaaDoorCards
import Derived.Test.YtfafccldngekgaaDoorTie
namespace Go.Proofs.YtfafccldngekgaaDoor
open Go.ChangeShapes Go.WideShapes Go.ChangeAt Go.RowKit

set_option maxRecDepth 100000 in
theorem kernelOfCrossed_lifted (os : Os) (started : os.Started) (H : Type) (enc : TypeId × Value → H) :
    ReturnsInHanded {} Tryd.checked os 3 .any (fun w args => (Rows.fnExactKernelOfCrossedSpec.pre enc Tryd.prog Tryd.f3 [] false w args ∧ laidMetH Tryd.prog laidTab w) ∧ sizedMet enc Tryd.prog Tryd.f3 (OpenSpec.ofChange Rows.fnExactKernelOfCrossedSpec) false w args)
      (Rows.fnExactKernelOfCrossedSpec.post enc Tryd.prog Tryd.f3 false true false false) := by
  refine returnsInHanded_of_change_and (C := Tryd.checked) (X := fun w _ => laidMetH Tryd.prog laidTab w) (fun _ _ _ hh h => h.of_heap hh) own_ started (by kernel_rfl) Tryd.func3
    (ChangeSpec.witness_shaped (enc := enc) (C := Tryd.checked) (os := os) (X := fun w _ => laidMetH Tryd.prog laidTab w) false (World.doorLaid Tryd.prog 400 os) #[.agg #[.slice none 0 0], .agg #[.int .i64 0, .slice none 0 0], .slice none 0 0] 8 rfl (World.shaped_of_RefB (by kernel_rfl) (by kernel_rfl)) (by kernel_rfl) (by kernel_rfl) (by kernel_rfl) (laidTab_met os _)) ?_
  intro W base args ds gs before hval0 hW hcnd _ hL _
  have hval : ∀ (j : Nat) t v, Tryd.f3.params[j]? = some t → args[j]? = some v → Value.okWide Tryd.prog W .any base t v := hval0
  have hW' := hW
  obtain ⟨p, q, hA0, hV, rfl, hfz, hnd⟩ := hW
  have hA : DataW.TrodAll enc Tryd.prog W 0 (fun _ => true) true Tryd.f3.params.toList args.toList ds p := hA0
  rw [Tryd.params3] at hA hval
  obtain ⟨v0, v1, v2, d0, d1, d2, p0, p1, p2, rfl, rfl, rfl, h0, h1, h2⟩ := trodAll_three hA
  obtain ⟨rfl, rfl⟩ := trodVars_none hV
  obtain ⟨A0, t0, c0, rfl, hR0, hn0, hl0, _⟩ := open_group (hval 0 24 v0 rfl rfl) h0
  obtain ⟨m1, A1, t1, c1, rfl, hR1, hn1⟩ := open_module (hval 1 27 v1 rfl rfl) h1
  obtain ⟨A2, t2, c2, rfl, hR2, hn2⟩ := open_list (hval 2 25 v2 rfl rfl) h2
  clear hA0 hval0
  simp only [List.append_nil] at hW'
  have hlt0 : ∀ x ∈ p0, x.block < W.heap.size := fun x hx => hW'.lt x (by simp [hx])
  have hlt1 : ∀ x ∈ p1, x.block < W.heap.size := fun x hx => hW'.lt x (by simp [hx])
  have hlt2 : ∀ x ∈ p2, x.block < W.heap.size := fun x hx => hW'.lt x (by simp [hx])
  refine (lawKernelOfCrossed_any A0 t0 c0 m1 A1 t1 c1 A2 t2 c2 (yKernelOfCrossed0 t0 m1 t1 t2) (qKernelOfCrossed1 t0 m1 t1 t2) W hR0 hn0 hl0 hR1 hn1 hR2 hn2 (kernelOfCrossed_small0 t0 m1 t1 t2) (tabL_of hL) (specKernelOfCrossed_ex t0 m1 t1 t2) (implKernelOfCrossed_ex t0 m1 t1 t2)).mono fun e W' ⟨he, hb⟩ => ?_
  subst he
  exact ⟨_, rfl, law_post (pa := p0 ++ (p1 ++ (p2))) hW' hb rfl rfl rfl (trodAll_mk3 (Below.trod laidOut_ (by kernel_rfl) (of_decide_eq_true (by kernel_rfl)) h0 hb hlt0) (Below.trod laidOut_ (by kernel_rfl) (of_decide_eq_true (by kernel_rfl)) h1 hb hlt1) (Below.trod laidOut_ (by kernel_rfl) (of_decide_eq_true (by kernel_rfl)) h2 hb hlt2)) (by simp)⟩

theorem kernelOfCrossed_j10 : (Rows.fnExactKernelOfCrossedRow.inPlace == Tryd.prog.inPlace 3) = true := by kernel_rfl
theorem kernelOfCrossed_j11 : (Rows.fnExactKernelOfCrossedRow.unfollowed == Tryd.prog.unfollowed 3) = true := by kernel_rfl
theorem kernelOfCrossed_j12 : (Rows.fnExactKernelOfCrossedRow.recurses == Tryd.prog.recurses 3) = true := by kernel_rfl
theorem kernelOfCrossed_j13 : (Rows.fnExactKernelOfCrossedRow.named == Tryd.prog.varsNamed 3) = true := by kernel_rfl
theorem kernelOfCrossed_j5 : namedTie Tryd.prog Rows.fnExactKernelOfCrossedRow.named Rows.fnExactKernelOfCrossedSpec.vars = true := by kernel_rfl
theorem kernelOfCrossed_j23 : (Rows.fnExactKernelOfCrossedRow.plainKeys == Tryd.prog.plainKeys) = true := by kernel_rfl
theorem kernelOfCrossed_j27 : (Rows.fnExactKernelOfCrossedRow.lifted == Tryd.prog.liftsFinal) = true := by rw [jp_final]; rfl
theorem kernelOfCrossed_j28 : (Tryd.prog.make == some Rows.fnExactKernelOfCrossedRow.make) = true := by rw [jp_make]; rfl

theorem kernelOfCrossed_closed : joinedFacts Tryd.prog 3 Tryd.f3 Rows.fnExactKernelOfCrossedSpec Rows.fnExactKernelOfCrossedRow = true :=
  joined_parts (by kernel_rfl) jp_laid jp_maps (by kernel_rfl) kernelOfCrossed_j5 (by kernel_rfl) jp_stops (by kernel_rfl) jp_knobs kernelOfCrossed_j10 kernelOfCrossed_j11 kernelOfCrossed_j12 kernelOfCrossed_j13 (by kernel_rfl) (by kernel_rfl) (by kernel_rfl) (by kernel_rfl) (by kernel_rfl) (by kernel_rfl) (by kernel_rfl) (by kernel_rfl) (by kernel_rfl)
    kernelOfCrossed_j23 (by kernel_rfl) jp_heard jp_enter kernelOfCrossed_j27 kernelOfCrossed_j28 (by kernel_rfl) (by kernel_rfl) (by kernel_rfl) (by kernel_rfl)

theorem kernelOfCrossed_named : Tryd.pinned.checked.prog.funcNamed Rows.fnExactKernelOfCrossedRow.func = some 3 := by kernel_rfl

theorem kernelOfCrossed_holds : Rows.FnExactKernelOfCrossedSaid :=
  OpenClaim.holds_of_wide 3 Tryd.f3 rfl rfl rfl rfl rfl rfl rfl ⟨rfl, rfl, rfl, rfl, rfl⟩ rfl rfl rfl rfl rfl kernelOfCrossed_named Tryd.func3 kernelOfCrossed_closed
    (of_decide_eq_true (by kernel_rfl)) (by unfold Func.isWrapper; first | (rw [if_pos (by decide +kernel)]; kernel_rfl) | (rw [if_neg (by decide +kernel)]; exact ⟨rfl, rfl⟩))
    (fun os started H enc _ => kernelOfCrossed_lifted os started H enc)

theorem kernelOfCrossed_cmain : Tryd.pinned.checked.prog.mainIs = some (Rows.fnExactKernelOfCrossedCard.stood.harness.1, Rows.fnExactKernelOfCrossedCard.stood.harness.2.toList) := by kernel_rfl
theorem kernelOfCrossed_cwf : Rows.fnExactKernelOfCrossedRow.wfByText (OpenSpec.ofChange Rows.fnExactKernelOfCrossedSpec) = true := by kernel_rfl
theorem kernelOfCrossed_clooks : false = Tryd.pinned.checked.prog.looks [] := by kernel_rfl
theorem kernelOfCrossed_cgoes : false = Rows.fnExactKernelOfCrossedRow.goesBy Tryd.pinned.checked.prog := by kernel_rfl

theorem kernelOfCrossed_card : Rows.FnExactKernelOfCrossedCardSaid :=
  Claim7.holds_tied_plain_at .later [] [.data] true Rows.fnExactKernelOfCrossedCard.stood.harness false
    kernelOfCrossed_holds (fun _ h => by cases h) kernelOfCrossed_cwf (fun _ h => by cases h) fnExactKernelOfCrossed_row_tie rfl ⟨rfl, rfl⟩ kernelOfCrossed_cmain rfl
    (fun f fn hf hfn => by
      obtain rfl : f = 3 := Option.some.inj (kernelOfCrossed_named.symm.trans hf) |>.symm
      obtain rfl : fn = Tryd.f3 := (Option.some.inj (Tryd.func3.symm.trans hfn)).symm
      exact ⟨kernelOfCrossed_clooks, fun j t ht => by
        rw [Tryd.params3] at ht
        have hm : t ∈ [24, 27, 25] := by simpa using Array.mem_of_getElem? ht
        have hall : ([24, 27, 25].all fun u => !Tryd.prog.wantsStandIn u) = true := by kernel_rfl
        exact (show Tryd.prog.wantsStandIn t = false by simpa using List.all_eq_true.1 hall t hm)⟩)
    kernelOfCrossed_cgoes

end Go.Proofs.YtfafccldngekgaaDoor
