/-
  At every value of each parameter that can be read (a group value, a number, a cochain value): FnExactFormOf answers true and its arguments read as before: FormOf answers as its model does. Condition: the package variables that the row lists lie as the program's text lays them (the card ties them).
-/
import Derived.Test.YtcdijeeabgmgmaaDoorFra
import Derived.Test.YtcdijeeabgmgmaaDoorJp
import Derived.Test.YtcdijeeabgmgmaaDoorLwFormOf
import Derived.Test.YtcdijeeabgmgmaaDoorA10
import Derived.Test.YtcdijeeabgmgmaaDoorFrs
import Derived.Test.YtcdijeeabgmgmaaDoorCards
import Derived.Test.YtcdijeeabgmgmaaDoorTie
namespace Go.Proofs.YtcdijeeabgmgmaaDoor
open Go.ChangeShapes Go.WideShapes Go.ChangeAt Go.RowKit

set_option maxRecDepth 100000 in
theorem formOf_lifted (os : Os) (started : os.Started) (H : Type) (enc : TypeId × Value → H) :
    ReturnsInHanded {} Tryd.checked os 4 .any (fun w args => (Rows.fnExactFormOfSpec.pre enc Tryd.prog Tryd.f4 [] false w args ∧ laidMetH Tryd.prog laidErr w) ∧ sizedMet enc Tryd.prog Tryd.f4 (OpenSpec.ofChange Rows.fnExactFormOfSpec) false w args)
      (Rows.fnExactFormOfSpec.post enc Tryd.prog Tryd.f4 false true false false) := by
  refine returnsInHanded_of_change_and (C := Tryd.checked) (X := fun w _ => laidMetH Tryd.prog laidErr w) (fun _ _ _ hh h => h.of_heap hh) own_ started (by kernel_rfl) Tryd.func4
    (ChangeSpec.witness_shaped (enc := enc) (C := Tryd.checked) (os := os) (X := fun w _ => laidMetH Tryd.prog laidErr w) false (World.doorLaid Tryd.prog 400 os) #[.agg #[.slice none 0 0], .int .i64 0, .agg #[.int .i64 0, .slice none 0 0]] 8 rfl (World.shaped_of_RefB (by kernel_rfl) (by kernel_rfl)) (by kernel_rfl) (by kernel_rfl) (by kernel_rfl) (laidErr_met os _)) ?_
  intro W base args ds gs before hval0 hW hcnd _ hL _
  have hval : ∀ (j : Nat) t v, Tryd.f4.params[j]? = some t → args[j]? = some v → Value.okWide Tryd.prog W .any base t v := hval0
  have hW' := hW
  obtain ⟨p, q, hA0, hV, rfl, hfz, hnd⟩ := hW
  have hA : DataW.TrodAll enc Tryd.prog W 0 (fun _ => true) true Tryd.f4.params.toList args.toList ds p := hA0
  rw [Tryd.params4] at hA hval
  obtain ⟨v0, v1, v2, d0, d1, d2, p0, p1, p2, rfl, rfl, rfl, h0, h1, h2⟩ := trodAll_three hA
  obtain ⟨aE, hvE⟩ := errVar_of hL
  have hV' : DataW.TrodVars enc Tryd.prog W (fun _ => true) [errName] gs q := hV
  obtain ⟨rfl, rfl⟩ := hV'.unique (vars_read1 enc gErr tErr Tryd.underlying214 hvE trivial _)
  obtain ⟨A0, t0, c0, rfl, hR0, hn0, hl0, _⟩ := open_group (hval 0 24 v0 rfl rfl) h0
  obtain ⟨m1, rfl, rfl, rfl, w1⟩ := open_int Tryd.underlying2 (hval 1 2 v1 rfl rfl) h1
  obtain ⟨m2, A2, t2, c2, rfl, hR2, hn2⟩ := open_cochain (hval 2 27 v2 rfl rfl) h2
  clear hA0 hval0 hV hV'
  simp only [List.append_nil] at hW'
  have hlt0 : ∀ x ∈ p0, x.block < W.heap.size := fun x hx => hW'.lt x (by simp [hx])
  have hlt2 : ∀ x ∈ p2, x.block < W.heap.size := fun x hx => hW'.lt x (by simp [hx])
  refine (lawFormOf_any A0 t0 c0 m1 m2 A2 t2 c2 (yFormOf0 t0 m1 m2 t2) (qFormOf1 t0 m1 m2 t2) W hR0 hn0 hl0 hR2 hn2 (formOf_small0 t0 m1 m2 t2) (specFormOf_ex t0 m1 m2 t2) (implFormOf_ex t0 m1 m2 t2)).mono fun e W' ⟨he, hb⟩ => ?_
  subst he
  exact ⟨_, rfl, law_postV (pa := p0 ++ ([] ++ (p2))) (pv := [.cell 0 0]) hW' hb rfl rfl (trodAll_mk3 (Below.trod laidOut_ (by kernel_rfl) (of_decide_eq_true (by kernel_rfl)) h0 hb hlt0) (shut_int Tryd.underlying2 w1) (Below.trod laidOut_ (by kernel_rfl) (of_decide_eq_true (by kernel_rfl)) h2 hb hlt2)) (vars_read1 enc gErr tErr Tryd.underlying214 (var_keep hb hvE) trivial _) (by simp)⟩

theorem formOf_j10 : (Rows.fnExactFormOfRow.inPlace == Tryd.prog.inPlace 4) = true := by kernel_rfl
theorem formOf_j11 : (Rows.fnExactFormOfRow.unfollowed == Tryd.prog.unfollowed 4) = true := by kernel_rfl
theorem formOf_j12 : (Rows.fnExactFormOfRow.recurses == Tryd.prog.recurses 4) = true := by kernel_rfl
theorem formOf_j13 : (Rows.fnExactFormOfRow.named == Tryd.prog.varsNamed 4) = true := by kernel_rfl
theorem formOf_j5 : namedTie Tryd.prog Rows.fnExactFormOfRow.named Rows.fnExactFormOfSpec.vars = true := by kernel_rfl
theorem formOf_j23 : (Rows.fnExactFormOfRow.plainKeys == Tryd.prog.plainKeys) = true := by kernel_rfl
theorem formOf_j27 : (Rows.fnExactFormOfRow.lifted == Tryd.prog.liftsFinal) = true := by rw [jp_final]; rfl
theorem formOf_j28 : (Tryd.prog.make == some Rows.fnExactFormOfRow.make) = true := by rw [jp_make]; rfl

theorem formOf_closed : joinedFacts Tryd.prog 4 Tryd.f4 Rows.fnExactFormOfSpec Rows.fnExactFormOfRow = true :=
  joined_parts (by kernel_rfl) jp_laid jp_maps (by kernel_rfl) formOf_j5 (by kernel_rfl) jp_stops (by kernel_rfl) jp_knobs formOf_j10 formOf_j11 formOf_j12 formOf_j13 (by kernel_rfl) (by kernel_rfl) (by kernel_rfl) (by kernel_rfl) (by kernel_rfl) (by kernel_rfl) (by kernel_rfl) (by kernel_rfl) (by kernel_rfl)
    formOf_j23 (by kernel_rfl) jp_heard jp_enter formOf_j27 formOf_j28 (by kernel_rfl) (by kernel_rfl) (by kernel_rfl) (by kernel_rfl)

theorem formOf_named : Tryd.pinned.checked.prog.funcNamed Rows.fnExactFormOfRow.func = some 4 := by kernel_rfl

theorem formOf_holds : Rows.FnExactFormOfSaid :=
  OpenClaim.holds_of_wide 4 Tryd.f4 rfl rfl rfl rfl rfl rfl rfl ⟨rfl, rfl, rfl, rfl, rfl⟩ rfl rfl rfl rfl rfl formOf_named Tryd.func4 formOf_closed
    (of_decide_eq_true (by kernel_rfl)) (by unfold Func.isWrapper; first | (rw [if_pos (by decide +kernel)]; kernel_rfl) | (rw [if_neg (by decide +kernel)]; exact ⟨rfl, rfl⟩))
    (fun os started H enc _ => formOf_lifted os started H enc)

theorem formOf_cmain : Tryd.pinned.checked.prog.mainIs = some (Rows.fnExactFormOfCard.stood.harness.1, Rows.fnExactFormOfCard.stood.harness.2.toList) := by kernel_rfl
theorem formOf_cwf : Rows.fnExactFormOfRow.wfByText (OpenSpec.ofChange Rows.fnExactFormOfSpec) = true := by kernel_rfl
theorem formOf_clooks : false = Tryd.pinned.checked.prog.looks [] := by kernel_rfl
theorem formOf_cgoes : false = Rows.fnExactFormOfRow.goesBy Tryd.pinned.checked.prog := by kernel_rfl

theorem formOf_card : Rows.FnExactFormOfCardSaid :=
  Claim7.holds_tied_plain_at .later [] [.sentinel] true Rows.fnExactFormOfCard.stood.harness false
    formOf_holds (fun _ h => by cases h) formOf_cwf (fun _ h => by cases h) fnExactFormOf_row_tie rfl ⟨rfl, rfl⟩ formOf_cmain rfl
    (fun f fn hf hfn => by
      obtain rfl : f = 4 := Option.some.inj (formOf_named.symm.trans hf) |>.symm
      obtain rfl : fn = Tryd.f4 := (Option.some.inj (Tryd.func4.symm.trans hfn)).symm
      exact ⟨formOf_clooks, fun j t ht => by
        rw [Tryd.params4] at ht
        have hm : t ∈ [24, 2, 27] := by simpa using Array.mem_of_getElem? ht
        have hall : ([24, 2, 27].all fun u => !Tryd.prog.wantsStandIn u) = true := by kernel_rfl
        exact (show Tryd.prog.wantsStandIn t = false by simpa using List.all_eq_true.1 hall t hm)⟩)
    formOf_cgoes

end Go.Proofs.YtcdijeeabgmgmaaDoor
