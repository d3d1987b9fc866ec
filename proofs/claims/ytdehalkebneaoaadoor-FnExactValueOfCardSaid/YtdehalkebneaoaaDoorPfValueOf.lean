/-
  At every value of each parameter that can be read (a group value, a module value, a cochain value, a list of numbers): FnExactValueOf answers true and its arguments read as before: ValueOf answers as its model does. Condition: the package variables that the row lists lie as the program's text lays them (the card ties them).
-/
import Derived.Test.YtdehalkebneaoaaDoorFrm3
import Derived.Test.YtdehalkebneaoaaDoorJp
import Derived.Test.YtdehalkebneaoaaDoorLwValueOf
import Derived.Test.YtdehalkebneaoaaDoorVo
import Derived.Test.YtdehalkebneaoaaDoorFrs
import Derived.Test.YtdehalkebneaoaaDoorCards
import Derived.Test.YtdehalkebneaoaaDoorTie
namespace Go.Proofs.YtdehalkebneaoaaDoor
open Go.ChangeShapes Go.WideShapes Go.ChangeAt Go.RowKit

set_option maxRecDepth 100000 in
theorem valueOf_lifted (os : Os) (started : os.Started) (H : Type) (enc : TypeId × Value → H) :
    ReturnsInHanded {} Tryd.checked os 4 .any (fun w args => (Rows.fnExactValueOfSpec.pre enc Tryd.prog Tryd.f4 [] false w args ∧ laidMetH Tryd.prog laidErr w) ∧ sizedMet enc Tryd.prog Tryd.f4 (OpenSpec.ofChange Rows.fnExactValueOfSpec) false w args)
      (Rows.fnExactValueOfSpec.post enc Tryd.prog Tryd.f4 false true false false) := by
  refine returnsInHanded_of_change_and (C := Tryd.checked) (X := fun w _ => laidMetH Tryd.prog laidErr w) (fun _ _ _ hh h => h.of_heap hh) own_ started (by kernel_rfl) Tryd.func4
    (ChangeSpec.witness_shaped (enc := enc) (C := Tryd.checked) (os := os) (X := fun w _ => laidMetH Tryd.prog laidErr w) false (World.doorLaid Tryd.prog 400 os) #[.agg #[.slice none 0 0], .agg #[.int .i64 0, .slice none 0 0], .agg #[.int .i64 0, .slice none 0 0], .slice none 0 0] 8 rfl (World.shaped_of_RefB (by kernel_rfl) (by kernel_rfl)) (by kernel_rfl) (by kernel_rfl) (by kernel_rfl) (laidErr_met os _)) ?_
  intro W base args ds gs before hval0 hW hcnd _ hL _
  have hval : ∀ (j : Nat) t v, Tryd.f4.params[j]? = some t → args[j]? = some v → Value.okWide Tryd.prog W .any base t v := hval0
  have hW' := hW
  obtain ⟨p, q, hA0, hV, rfl, hfz, hnd⟩ := hW
  have hA : DataW.TrodAll enc Tryd.prog W 0 (fun _ => true) true Tryd.f4.params.toList args.toList ds p := hA0
  rw [Tryd.params4] at hA hval
  obtain ⟨v0, v1, v2, v3, d0, d1, d2, d3, p0, p1, p2, p3, rfl, rfl, rfl, h0, h1, h2, h3⟩ := trodAll_four hA
  obtain ⟨aE, hvE⟩ := errVar_of hL
  have hV' : DataW.TrodVars enc Tryd.prog W (fun _ => true) [errName] gs q := hV
  obtain ⟨rfl, rfl⟩ := hV'.unique (vars_read1 enc gErr tErr Tryd.underlying133 hvE trivial _)
  obtain ⟨A0, t0, c0, rfl, hR0, hn0, hl0, _⟩ := open_group (hval 0 24 v0 rfl rfl) h0
  obtain ⟨m1, A1, t1, c1, rfl, hR1, hn1⟩ := open_module (hval 1 37 v1 rfl rfl) h1
  obtain ⟨m2, A2, t2, c2, rfl, hR2, hn2⟩ := open_cochain (hval 2 39 v2 rfl rfl) h2
  obtain ⟨A3, t3, c3, rfl, hR3, hn3⟩ := open_list (hval 3 26 v3 rfl rfl) h3
  clear hA0 hval0 hV hV'
  simp only at hW'
  have hlt0 : ∀ x ∈ p0, x.block < W.heap.size := fun x hx => hW'.lt x (by simp [hx])
  have hlt1 : ∀ x ∈ p1, x.block < W.heap.size := fun x hx => hW'.lt x (by simp [hx])
  have hlt2 : ∀ x ∈ p2, x.block < W.heap.size := fun x hx => hW'.lt x (by simp [hx])
  have hlt3 : ∀ x ∈ p3, x.block < W.heap.size := fun x hx => hW'.lt x (by simp [hx])
  refine (lawValueOf_any A0 t0 c0 m1 A1 t1 c1 m2 A2 t2 c2 A3 t3 c3 (qValueOf0 t0 m1 t1 m2 t2 t3) (qValueOf1 t0 m1 t1 m2 t2 t3) W hR0 hn0 hl0 hR1 hn1 hR2 hn2 hR3 hn3 (errL_of hL) (specValueOf_ex t0 m1 t1 m2 t2 t3) (implValueOf_ex t0 m1 t1 m2 t2 t3)).mono fun e W' ⟨he, hb⟩ => ?_
  subst he
  exact ⟨_, rfl, law_postV (pa := p0 ++ (p1 ++ (p2 ++ (p3)))) (pv := [.cell 0 0]) hW' hb rfl rfl (trodAll_mk4 (Below.trod laidOut_ (by kernel_rfl) (of_decide_eq_true (by kernel_rfl)) h0 hb hlt0) (Below.trod laidOut_ (by kernel_rfl) (of_decide_eq_true (by kernel_rfl)) h1 hb hlt1) (Below.trod laidOut_ (by kernel_rfl) (of_decide_eq_true (by kernel_rfl)) h2 hb hlt2) (Below.trod laidOut_ (by kernel_rfl) (of_decide_eq_true (by kernel_rfl)) h3 hb hlt3)) (vars_read1 enc gErr tErr Tryd.underlying133 (var_keep hb hvE) trivial _) (by simp)⟩

theorem valueOf_j10 : (Rows.fnExactValueOfRow.inPlace == Tryd.prog.inPlace 4) = true := by kernel_rfl
theorem valueOf_j11 : (Rows.fnExactValueOfRow.unfollowed == Tryd.prog.unfollowed 4) = true := by kernel_rfl
theorem valueOf_j12 : (Rows.fnExactValueOfRow.recurses == Tryd.prog.recurses 4) = true := by kernel_rfl
theorem valueOf_j13 : (Rows.fnExactValueOfRow.named == Tryd.prog.varsNamed 4) = true := by kernel_rfl
theorem valueOf_j5 : namedTie Tryd.prog Rows.fnExactValueOfRow.named Rows.fnExactValueOfSpec.vars = true := by kernel_rfl
theorem valueOf_j23 : (Rows.fnExactValueOfRow.plainKeys == Tryd.prog.plainKeys) = true := by kernel_rfl
theorem valueOf_j27 : (Rows.fnExactValueOfRow.lifted == Tryd.prog.liftsFinal) = true := by rw [jp_final]; rfl
theorem valueOf_j28 : (Tryd.prog.make == some Rows.fnExactValueOfRow.make) = true := by rw [jp_make]; rfl

theorem valueOf_closed : joinedFacts Tryd.prog 4 Tryd.f4 Rows.fnExactValueOfSpec Rows.fnExactValueOfRow = true :=
  joined_parts (by kernel_rfl) jp_laid jp_maps (by kernel_rfl) valueOf_j5 (by kernel_rfl) jp_stops (by kernel_rfl) jp_knobs valueOf_j10 valueOf_j11 valueOf_j12 valueOf_j13 (by kernel_rfl) (by kernel_rfl) (by kernel_rfl) (by kernel_rfl) (by kernel_rfl) (by kernel_rfl) (by kernel_rfl) (by kernel_rfl) (by kernel_rfl)
    valueOf_j23 (by kernel_rfl) jp_heard jp_enter valueOf_j27 valueOf_j28 (by kernel_rfl) (by kernel_rfl) (by kernel_rfl) (by kernel_rfl)

theorem valueOf_named : Tryd.pinned.checked.prog.funcNamed Rows.fnExactValueOfRow.func = some 4 := by kernel_rfl

theorem valueOf_holds : Rows.FnExactValueOfSaid :=
  OpenClaim.holds_of_wide 4 Tryd.f4 rfl rfl rfl rfl rfl rfl rfl ⟨rfl, rfl, rfl, rfl, rfl⟩ rfl rfl rfl rfl rfl valueOf_named Tryd.func4 valueOf_closed
    (of_decide_eq_true (by kernel_rfl)) (by unfold Func.isWrapper; first | (rw [if_pos (by decide +kernel)]; kernel_rfl) | (rw [if_neg (by decide +kernel)]; exact ⟨rfl, rfl⟩))
    (fun os started H enc _ => valueOf_lifted os started H enc)

theorem valueOf_card : Rows.FnExactValueOfCardSaid :=
  Claim7.holds_tied_plain_at .later [] [.sentinel] true Rows.fnExactValueOfCard.stood.harness true
    valueOf_holds (fun _ h => by cases h) (by kernel_rfl) (fun _ h => by cases h) fnExactValueOf_row_tie rfl ⟨rfl, rfl⟩ (by kernel_rfl) rfl
    (fun f fn hf hfn => by
      obtain rfl : f = 4 := Option.some.inj (valueOf_named.symm.trans hf) |>.symm
      obtain rfl : fn = Tryd.f4 := (Option.some.inj (Tryd.func4.symm.trans hfn)).symm
      exact ⟨by kernel_rfl, fun j t ht => by
        rw [Tryd.params4] at ht
        have hm : t ∈ [24, 37, 39, 26] := by simpa using Array.mem_of_getElem? ht
        have hall : ([24, 37, 39, 26].all fun u => !Tryd.prog.wantsStandIn u) = true := by kernel_rfl
        exact (show Tryd.prog.wantsStandIn t = false by simpa using List.all_eq_true.1 hall t hm)⟩)
    (by kernel_rfl)

end Go.Proofs.YtdehalkebneaoaaDoor
