/-
  At every value of each parameter that can be read (a group value, a module value, a module value, a cochain value, a cochain value): FnExactProductOfCochains answers true and its arguments read as before: ProductOfCochains answers as its model does. Condition: the package variables that the row lists lie as the program's text lays them (the card ties them).
-/
import Derived.Test.YtilhnmclleiodaaDoorFra
import Derived.Test.YtilhnmclleiodaaDoorJp
import Derived.Test.YtilhnmclleiodaaDoorLwProductOfCochains
import Derived.Test.YtilhnmclleiodaaDoorTw
import Derived.Test.YtilhnmclleiodaaDoorFrs
import Derived.Test.YtilhnmclleiodaaDoorCards
import Derived.Test.YtilhnmclleiodaaDoorTie
namespace Go.Proofs.YtilhnmclleiodaaDoor
open Go.ChangeShapes Go.WideShapes Go.ChangeAt Go.RowKit

set_option maxRecDepth 100000 in
theorem productOfCochains_lifted (os : Os) (started : os.Started) (H : Type) (enc : TypeId × Value → H) :
    ReturnsInHanded {} Tryd.checked os 6 .any (fun w args => (Rows.fnExactProductOfCochainsSpec.pre enc Tryd.prog Tryd.f6 [] false w args ∧ laidMetH Tryd.prog laidErr w) ∧ sizedMet enc Tryd.prog Tryd.f6 (OpenSpec.ofChange Rows.fnExactProductOfCochainsSpec) false w args)
      (Rows.fnExactProductOfCochainsSpec.post enc Tryd.prog Tryd.f6 false true false false) := by
  refine returnsInHanded_of_change_and (C := Tryd.checked) (X := fun w _ => laidMetH Tryd.prog laidErr w) (fun _ _ _ hh h => h.of_heap hh) own_ started (by kernel_rfl) Tryd.func6
    (ChangeSpec.witness_shaped (enc := enc) (C := Tryd.checked) (os := os) (X := fun w _ => laidMetH Tryd.prog laidErr w) false (World.doorLaid Tryd.prog 400 os) #[.agg #[.slice none 0 0], .agg #[.int .i64 0, .slice none 0 0], .agg #[.int .i64 0, .slice none 0 0], .agg #[.int .i64 0, .slice none 0 0], .agg #[.int .i64 0, .slice none 0 0]] 8 rfl (World.shaped_of_RefB (by kernel_rfl) (by kernel_rfl)) (by kernel_rfl) (by kernel_rfl) (by kernel_rfl) (laidErr_met os _)) ?_
  intro W base args ds gs before hval0 hW hcnd _ hL _
  have hval : ∀ (j : Nat) t v, Tryd.f6.params[j]? = some t → args[j]? = some v → Value.okWide Tryd.prog W .any base t v := hval0
  have hW' := hW
  obtain ⟨p, q, hA0, hV, rfl, hfz, hnd⟩ := hW
  have hA : DataW.TrodAll enc Tryd.prog W 0 (fun _ => true) true Tryd.f6.params.toList args.toList ds p := hA0
  rw [Tryd.params6] at hA hval
  obtain ⟨v0, v1, v2, v3, v4, d0, d1, d2, d3, d4, p0, p1, p2, p3, p4, rfl, rfl, rfl, h0, h1, h2, h3, h4⟩ := trodAll_five hA
  obtain ⟨aE, hvE⟩ := errVar_of hL
  have hV' : DataW.TrodVars enc Tryd.prog W (fun _ => true) [errName] gs q := hV
  obtain ⟨rfl, rfl⟩ := hV'.unique (vars_read1 enc gErr tErr Tryd.underlying159 hvE trivial _)
  obtain ⟨A0, t0, c0, rfl, hR0, hn0, hl0, _⟩ := open_group (hval 0 24 v0 rfl rfl) h0
  obtain ⟨m1, A1, t1, c1, rfl, hR1, hn1⟩ := open_module (hval 1 38 v1 rfl rfl) h1
  obtain ⟨m2, A2, t2, c2, rfl, hR2, hn2⟩ := open_module (hval 2 38 v2 rfl rfl) h2
  obtain ⟨m3, A3, t3, c3, rfl, hR3, hn3⟩ := open_cochain (hval 3 40 v3 rfl rfl) h3
  obtain ⟨m4, A4, t4, c4, rfl, hR4, hn4⟩ := open_cochain (hval 4 40 v4 rfl rfl) h4
  clear hA0 hval0 hV hV'
  simp only at hW'
  have hlt0 : ∀ x ∈ p0, x.block < W.heap.size := fun x hx => hW'.lt x (by simp [hx])
  have hlt1 : ∀ x ∈ p1, x.block < W.heap.size := fun x hx => hW'.lt x (by simp [hx])
  have hlt2 : ∀ x ∈ p2, x.block < W.heap.size := fun x hx => hW'.lt x (by simp [hx])
  have hlt3 : ∀ x ∈ p3, x.block < W.heap.size := fun x hx => hW'.lt x (by simp [hx])
  have hlt4 : ∀ x ∈ p4, x.block < W.heap.size := fun x hx => hW'.lt x (by simp [hx])
  refine (lawProductOfCochains_any A0 t0 c0 m1 A1 t1 c1 m2 A2 t2 c2 m3 A3 t3 c3 m4 A4 t4 c4 (qProductOfCochains0 t0 m1 t1 m2 t2 m3 t3 m4 t4) (yProductOfCochains0 t0 m1 t1 m2 t2 m3 t3 m4 t4) (qProductOfCochains1 t0 m1 t1 m2 t2 m3 t3 m4 t4) W hR0 hn0 hl0 hR1 hn1 hR2 hn2 hR3 hn3 hR4 hn4 (productOfCochains_small0 t0 m1 t1 m2 t2 m3 t3 m4 t4) (specProductOfCochains_ex t0 m1 t1 m2 t2 m3 t3 m4 t4) (implProductOfCochains_ex t0 m1 t1 m2 t2 m3 t3 m4 t4)).mono fun e W' ⟨he, hb⟩ => ?_
  subst he
  exact ⟨_, rfl, law_postV (pa := p0 ++ (p1 ++ (p2 ++ (p3 ++ (p4))))) (pv := [.cell 0 0]) hW' hb rfl rfl (trodAll_mk5 (Below.trod laidOut_ (by kernel_rfl) (of_decide_eq_true (by kernel_rfl)) h0 hb hlt0) (Below.trod laidOut_ (by kernel_rfl) (of_decide_eq_true (by kernel_rfl)) h1 hb hlt1) (Below.trod laidOut_ (by kernel_rfl) (of_decide_eq_true (by kernel_rfl)) h2 hb hlt2) (Below.trod laidOut_ (by kernel_rfl) (of_decide_eq_true (by kernel_rfl)) h3 hb hlt3) (Below.trod laidOut_ (by kernel_rfl) (of_decide_eq_true (by kernel_rfl)) h4 hb hlt4)) (vars_read1 enc gErr tErr Tryd.underlying159 (var_keep hb hvE) trivial _) (by simp)⟩

theorem productOfCochains_j10 : (Rows.fnExactProductOfCochainsRow.inPlace == Tryd.prog.inPlace 6) = true := by kernel_rfl
theorem productOfCochains_j11 : (Rows.fnExactProductOfCochainsRow.unfollowed == Tryd.prog.unfollowed 6) = true := by kernel_rfl
theorem productOfCochains_j12 : (Rows.fnExactProductOfCochainsRow.recurses == Tryd.prog.recurses 6) = true := by kernel_rfl
theorem productOfCochains_j13 : (Rows.fnExactProductOfCochainsRow.named == Tryd.prog.varsNamed 6) = true := by kernel_rfl
theorem productOfCochains_j5 : namedTie Tryd.prog Rows.fnExactProductOfCochainsRow.named Rows.fnExactProductOfCochainsSpec.vars = true := by kernel_rfl
theorem productOfCochains_j23 : (Rows.fnExactProductOfCochainsRow.plainKeys == Tryd.prog.plainKeys) = true := by kernel_rfl
theorem productOfCochains_j27 : (Rows.fnExactProductOfCochainsRow.lifted == Tryd.prog.liftsFinal) = true := by rw [jp_final]; rfl
theorem productOfCochains_j28 : (Tryd.prog.make == some Rows.fnExactProductOfCochainsRow.make) = true := by rw [jp_make]; rfl

theorem productOfCochains_closed : joinedFacts Tryd.prog 6 Tryd.f6 Rows.fnExactProductOfCochainsSpec Rows.fnExactProductOfCochainsRow = true :=
  joined_parts (by kernel_rfl) jp_laid jp_maps (by kernel_rfl) productOfCochains_j5 (by kernel_rfl) jp_stops (by kernel_rfl) jp_knobs productOfCochains_j10 productOfCochains_j11 productOfCochains_j12 productOfCochains_j13 (by kernel_rfl) (by kernel_rfl) (by kernel_rfl) (by kernel_rfl) (by kernel_rfl) (by kernel_rfl) (by kernel_rfl) (by kernel_rfl) (by kernel_rfl)
    productOfCochains_j23 (by kernel_rfl) jp_heard jp_enter productOfCochains_j27 productOfCochains_j28 (by kernel_rfl) (by kernel_rfl) (by kernel_rfl) (by kernel_rfl)

theorem productOfCochains_named : Tryd.pinned.checked.prog.funcNamed Rows.fnExactProductOfCochainsRow.func = some 6 := by kernel_rfl

theorem productOfCochains_holds : Rows.FnExactProductOfCochainsSaid :=
  OpenClaim.holds_of_wide 6 Tryd.f6 rfl rfl rfl rfl rfl rfl rfl ⟨rfl, rfl, rfl, rfl, rfl⟩ rfl rfl rfl rfl rfl productOfCochains_named Tryd.func6 productOfCochains_closed
    (of_decide_eq_true (by kernel_rfl)) (by unfold Func.isWrapper; first | (rw [if_pos (by decide +kernel)]; kernel_rfl) | (rw [if_neg (by decide +kernel)]; exact ⟨rfl, rfl⟩))
    (fun os started H enc _ => productOfCochains_lifted os started H enc)

theorem productOfCochains_cmain : Tryd.pinned.checked.prog.mainIs = some (Rows.fnExactProductOfCochainsCard.stood.harness.1, Rows.fnExactProductOfCochainsCard.stood.harness.2.toList) := by kernel_rfl
theorem productOfCochains_cwf : Rows.fnExactProductOfCochainsRow.wfByText (OpenSpec.ofChange Rows.fnExactProductOfCochainsSpec) = true := by kernel_rfl
theorem productOfCochains_clooks : false = Tryd.pinned.checked.prog.looks [] := by kernel_rfl
theorem productOfCochains_cgoes : false = Rows.fnExactProductOfCochainsRow.goesBy Tryd.pinned.checked.prog := by kernel_rfl

theorem productOfCochains_card : Rows.FnExactProductOfCochainsCardSaid :=
  Claim7.holds_tied_plain_at .later [] [.sentinel] true Rows.fnExactProductOfCochainsCard.stood.harness false
    productOfCochains_holds (fun _ h => by cases h) productOfCochains_cwf (fun _ h => by cases h) fnExactProductOfCochains_row_tie rfl ⟨rfl, rfl⟩ productOfCochains_cmain rfl
    (fun f fn hf hfn => by
      obtain rfl : f = 6 := Option.some.inj (productOfCochains_named.symm.trans hf) |>.symm
      obtain rfl : fn = Tryd.f6 := (Option.some.inj (Tryd.func6.symm.trans hfn)).symm
      exact ⟨productOfCochains_clooks, fun j t ht => by
        rw [Tryd.params6] at ht
        have hm : t ∈ [24, 38, 38, 40, 40] := by simpa using Array.mem_of_getElem? ht
        have hall : ([24, 38, 38, 40, 40].all fun u => !Tryd.prog.wantsStandIn u) = true := by kernel_rfl
        exact (show Tryd.prog.wantsStandIn t = false by simpa using List.all_eq_true.1 hall t hm)⟩)
    productOfCochains_cgoes

end Go.Proofs.YtilhnmclleiodaaDoor
