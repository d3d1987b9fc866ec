/-
  At every value of each parameter that can be read (a group value, a list of numbers): FnExactIndexOf answers true and its arguments read as before: IndexOf answers as its model does. Condition: the package variables that the row lists lie as the program's text lays them (the card ties them).
-/
import Derived.Test.YtalejhbdbclfaaaDoorFra
import Derived.Test.YtalejhbdbclfaaaDoorJp
import Derived.Test.YtalejhbdbclfaaaDoorLwIndexOf
import Derived.Test.YtalejhbdbclfaaaDoorUc
import Derived.Test.YtalejhbdbclfaaaDoorFrd
import Derived.Test.YtalejhbdbclfaaaDoorCards
import Derived.Test.YtalejhbdbclfaaaDoorTie
namespace Go.Proofs.YtalejhbdbclfaaaDoor
open Go.ChangeShapes Go.WideShapes Go.ChangeAt Go.RowKit

set_option maxRecDepth 100000 in
theorem indexOf_lifted (os : Os) (started : os.Started) (H : Type) (enc : TypeId × Value → H) :
    ReturnsInHanded {} Tryd.checked os 7 .any (fun w args => (Rows.fnExactIndexOfSpec.pre enc Tryd.prog Tryd.f7 [] false w args ∧ laidMetH Tryd.prog laidTab w) ∧ sizedMet enc Tryd.prog Tryd.f7 (OpenSpec.ofChange Rows.fnExactIndexOfSpec) false w args)
      (Rows.fnExactIndexOfSpec.post enc Tryd.prog Tryd.f7 false true false false) := by
  refine returnsInHanded_of_change_and (C := Tryd.checked) (X := fun w _ => laidMetH Tryd.prog laidTab w) (fun _ _ _ hh h => h.of_heap hh) own_ started (by kernel_rfl) Tryd.func7
    (ChangeSpec.witness_shaped (enc := enc) (C := Tryd.checked) (os := os) (X := fun w _ => laidMetH Tryd.prog laidTab w) false (World.doorLaid Tryd.prog 400 os) #[.agg #[.slice none 0 0], .slice none 0 0] 8 rfl (World.shaped_of_RefB (by kernel_rfl) (by kernel_rfl)) (by kernel_rfl) (by kernel_rfl) (by kernel_rfl) (laidTab_met os _)) ?_
  intro W base args ds gs before hval0 hW hcnd _ hL _
  have hval : ∀ (j : Nat) t v, Tryd.f7.params[j]? = some t → args[j]? = some v → Value.okWide Tryd.prog W .any base t v := hval0
  have hW' := hW
  obtain ⟨p, q, hA0, hV, rfl, hfz, hnd⟩ := hW
  have hA : DataW.TrodAll enc Tryd.prog W 0 (fun _ => true) true Tryd.f7.params.toList args.toList ds p := hA0
  rw [Tryd.params7] at hA hval
  obtain ⟨v0, v1, d0, d1, p0, p1, rfl, rfl, rfl, h0, h1⟩ := trodAll_two hA
  obtain ⟨rfl, rfl⟩ := trodVars_none hV
  obtain ⟨A0, t0, c0, rfl, hR0, hn0, hl0, _⟩ := open_group (hval 0 24 v0 rfl rfl) h0
  obtain ⟨A1, t1, c1, rfl, hR1, hn1⟩ := open_list (hval 1 25 v1 rfl rfl) h1
  clear hA0 hval0
  simp only [List.append_nil] at hW'
  have hlt0 : ∀ x ∈ p0, x.block < W.heap.size := fun x hx => hW'.lt x (by simp [hx])
  have hlt1 : ∀ x ∈ p1, x.block < W.heap.size := fun x hx => hW'.lt x (by simp [hx])
  refine (lawIndexOf_any A0 t0 c0 A1 t1 c1 (qIndexOf0 t0 t1) (qIndexOf1 t0 t1) W hR0 hn0 hl0 hR1 hn1 (tabL_of hL) (specIndexOf_ex t0 t1) (implIndexOf_ex t0 t1)).mono fun e W' ⟨he, hb⟩ => ?_
  subst he
  exact ⟨_, rfl, law_post (pa := p0 ++ (p1)) hW' hb rfl rfl rfl (trodAll_mk2 (Below.trod laidOut_ (by kernel_rfl) (of_decide_eq_true (by kernel_rfl)) h0 hb hlt0) (Below.trod laidOut_ (by kernel_rfl) (of_decide_eq_true (by kernel_rfl)) h1 hb hlt1)) (by simp)⟩

theorem indexOf_j10 : (Rows.fnExactIndexOfRow.inPlace == Tryd.prog.inPlace 7) = true := by kernel_rfl
theorem indexOf_j11 : (Rows.fnExactIndexOfRow.unfollowed == Tryd.prog.unfollowed 7) = true := by kernel_rfl
theorem indexOf_j12 : (Rows.fnExactIndexOfRow.recurses == Tryd.prog.recurses 7) = true := by kernel_rfl
theorem indexOf_j13 : (Rows.fnExactIndexOfRow.named == Tryd.prog.varsNamed 7) = true := by kernel_rfl
theorem indexOf_j5 : namedTie Tryd.prog Rows.fnExactIndexOfRow.named Rows.fnExactIndexOfSpec.vars = true := by kernel_rfl
theorem indexOf_j23 : (Rows.fnExactIndexOfRow.plainKeys == Tryd.prog.plainKeys) = true := by kernel_rfl
theorem indexOf_j27 : (Rows.fnExactIndexOfRow.lifted == Tryd.prog.liftsFinal) = true := by rw [jp_final]; rfl
theorem indexOf_j28 : (Tryd.prog.make == some Rows.fnExactIndexOfRow.make) = true := by rw [jp_make]; rfl

theorem indexOf_closed : joinedFacts Tryd.prog 7 Tryd.f7 Rows.fnExactIndexOfSpec Rows.fnExactIndexOfRow = true :=
  joined_parts (by kernel_rfl) jp_laid jp_maps (by kernel_rfl) indexOf_j5 (by kernel_rfl) jp_stops (by kernel_rfl) jp_knobs indexOf_j10 indexOf_j11 indexOf_j12 indexOf_j13 (by kernel_rfl) (by kernel_rfl) (by kernel_rfl) (by kernel_rfl) (by kernel_rfl) (by kernel_rfl) (by kernel_rfl) (by kernel_rfl) (by kernel_rfl)
    indexOf_j23 (by kernel_rfl) jp_heard jp_enter indexOf_j27 indexOf_j28 (by kernel_rfl) (by kernel_rfl) (by kernel_rfl) (by kernel_rfl)

theorem indexOf_named : Tryd.pinned.checked.prog.funcNamed Rows.fnExactIndexOfRow.func = some 7 := by kernel_rfl

theorem indexOf_holds : Rows.FnExactIndexOfSaid :=
  OpenClaim.holds_of_wide 7 Tryd.f7 rfl rfl rfl rfl rfl rfl rfl ⟨rfl, rfl, rfl, rfl, rfl⟩ rfl rfl rfl rfl rfl indexOf_named Tryd.func7 indexOf_closed
    (of_decide_eq_true (by kernel_rfl)) (by unfold Func.isWrapper; first | (rw [if_pos (by decide +kernel)]; kernel_rfl) | (rw [if_neg (by decide +kernel)]; exact ⟨rfl, rfl⟩))
    (fun os started H enc _ => indexOf_lifted os started H enc)

theorem indexOf_cmain : Tryd.pinned.checked.prog.mainIs = some (Rows.fnExactIndexOfCard.stood.harness.1, Rows.fnExactIndexOfCard.stood.harness.2.toList) := by kernel_rfl
theorem indexOf_cwf : Rows.fnExactIndexOfRow.wfByText (OpenSpec.ofChange Rows.fnExactIndexOfSpec) = true := by kernel_rfl
theorem indexOf_clooks : false = Tryd.pinned.checked.prog.looks [] := by kernel_rfl
theorem indexOf_cgoes : false = Rows.fnExactIndexOfRow.goesBy Tryd.pinned.checked.prog := by kernel_rfl

theorem indexOf_card : Rows.FnExactIndexOfCardSaid :=
  Claim7.holds_tied_plain_at .later [] [.data] true Rows.fnExactIndexOfCard.stood.harness false
    indexOf_holds (fun _ h => by cases h) indexOf_cwf (fun _ h => by cases h) fnExactIndexOf_row_tie rfl ⟨rfl, rfl⟩ indexOf_cmain rfl
    (fun f fn hf hfn => by
      obtain rfl : f = 7 := Option.some.inj (indexOf_named.symm.trans hf) |>.symm
      obtain rfl : fn = Tryd.f7 := (Option.some.inj (Tryd.func7.symm.trans hfn)).symm
      exact ⟨indexOf_clooks, fun j t ht => by
        rw [Tryd.params7] at ht
        have hm : t ∈ [24, 25] := by simpa using Array.mem_of_getElem? ht
        have hall : ([24, 25].all fun u => !Tryd.prog.wantsStandIn u) = true := by kernel_rfl
        exact (show Tryd.prog.wantsStandIn t = false by simpa using List.all_eq_true.1 hall t hm)⟩)
    indexOf_cgoes

end Go.Proofs.YtalejhbdbclfaaaDoor
