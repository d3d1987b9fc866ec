/-
  At every value of each parameter that can be read (a group value, a group value, a module value, a list of numbers, a cochain value): FnExactPullBack answers true and its arguments read as before: PullBack answers as its model does. Condition: the package variables that the row lists lie as the program's text lays them (the card ties them).
-/
import Derived.Test.YtalejhbdbclfaaaDoorFra
import Derived.Test.YtalejhbdbclfaaaDoorJp
import Derived.Test.YtalejhbdbclfaaaDoorLwPullBack
import Derived.Test.YtalejhbdbclfaaaDoorUq
import Derived.Test.YtalejhbdbclfaaaDoorFrs
import Derived.Test.YtalejhbdbclfaaaDoorCards
import Derived.Test.YtalejhbdbclfaaaDoorTie
namespace Go.Proofs.YtalejhbdbclfaaaDoor
open Go.ChangeShapes Go.WideShapes Go.ChangeAt Go.RowKit

set_option maxRecDepth 100000 in
theorem pullBack_lifted (os : Os) (started : os.Started) (H : Type) (enc : TypeId × Value → H) :
    ReturnsInHanded {} Tryd.checked os 10 .any (fun w args => (Rows.fnExactPullBackSpec.pre enc Tryd.prog Tryd.f10 [] false w args ∧ laidMetH Tryd.prog laidErr w) ∧ sizedMet enc Tryd.prog Tryd.f10 (OpenSpec.ofChange Rows.fnExactPullBackSpec) false w args)
      (Rows.fnExactPullBackSpec.post enc Tryd.prog Tryd.f10 false true false false) := by
  refine returnsInHanded_of_change_and (C := Tryd.checked) (X := fun w _ => laidMetH Tryd.prog laidErr w) (fun _ _ _ hh h => h.of_heap hh) own_ started (by kernel_rfl) Tryd.func10
    (ChangeSpec.witness_shaped (enc := enc) (C := Tryd.checked) (os := os) (X := fun w _ => laidMetH Tryd.prog laidErr w) false (World.doorLaid Tryd.prog 400 os) #[.agg #[.slice none 0 0], .agg #[.slice none 0 0], .agg #[.int .i64 0, .slice none 0 0], .slice none 0 0, .agg #[.int .i64 0, .slice none 0 0]] 8 rfl (World.shaped_of_RefB (by kernel_rfl) (by kernel_rfl)) (by kernel_rfl) (by kernel_rfl) (by kernel_rfl) (laidErr_met os _)) ?_
  intro W base args ds gs before hval0 hW hcnd _ hL _
  have hval : ∀ (j : Nat) t v, Tryd.f10.params[j]? = some t → args[j]? = some v → Value.okWide Tryd.prog W .any base t v := hval0
  have hW' := hW
  obtain ⟨p, q, hA0, hV, rfl, hfz, hnd⟩ := hW
  have hA : DataW.TrodAll enc Tryd.prog W 0 (fun _ => true) true Tryd.f10.params.toList args.toList ds p := hA0
  rw [Tryd.params10] at hA hval
  obtain ⟨v0, v1, v2, v3, v4, d0, d1, d2, d3, d4, p0, p1, p2, p3, p4, rfl, rfl, rfl, h0, h1, h2, h3, h4⟩ := trodAll_five hA
  obtain ⟨aE, hvE⟩ := errVar_of hL
  have hV' : DataW.TrodVars enc Tryd.prog W (fun _ => true) [errName] gs q := hV
  obtain ⟨rfl, rfl⟩ := hV'.unique (vars_read1 enc gErr tErr Tryd.underlying187 hvE trivial _)
  obtain ⟨A0, t0, c0, rfl, hR0, hn0, hl0, _⟩ := open_group (hval 0 24 v0 rfl rfl) h0
  obtain ⟨A1, t1, c1, rfl, hR1, hn1, hl1, _⟩ := open_group (hval 1 24 v1 rfl rfl) h1
  obtain ⟨m2, A2, t2, c2, rfl, hR2, hn2⟩ := open_module (hval 2 38 v2 rfl rfl) h2
  obtain ⟨A3, t3, c3, rfl, hR3, hn3⟩ := open_list (hval 3 25 v3 rfl rfl) h3
  obtain ⟨m4, A4, t4, c4, rfl, hR4, hn4⟩ := open_cochain (hval 4 55 v4 rfl rfl) h4
  clear hA0 hval0 hV hV'
  simp only at hW'
  have hlt0 : ∀ x ∈ p0, x.block < W.heap.size := fun x hx => hW'.lt x (by simp [hx])
  have hlt1 : ∀ x ∈ p1, x.block < W.heap.size := fun x hx => hW'.lt x (by simp [hx])
  have hlt2 : ∀ x ∈ p2, x.block < W.heap.size := fun x hx => hW'.lt x (by simp [hx])
  have hlt3 : ∀ x ∈ p3, x.block < W.heap.size := fun x hx => hW'.lt x (by simp [hx])
  have hlt4 : ∀ x ∈ p4, x.block < W.heap.size := fun x hx => hW'.lt x (by simp [hx])
  refine (lawPullBack_any A0 t0 c0 A1 t1 c1 m2 A2 t2 c2 A3 t3 c3 m4 A4 t4 c4 (qPullBack0 t0 t1 m2 t2 t3 m4 t4) (yPullBack0 t0 t1 m2 t2 t3 m4 t4) (qPullBack1 t0 t1 m2 t2 t3 m4 t4) (yPullBack1 t0 t1 m2 t2 t3 m4 t4) (qPullBack2 t0 t1 m2 t2 t3 m4 t4) W hR0 hn0 hl0 hR1 hn1 hl1 hR2 hn2 hR3 hn3 hR4 hn4 (pullBack_small0 t0 t1 m2 t2 t3 m4 t4) (pullBack_small1 t0 t1 m2 t2 t3 m4 t4) (specPullBack_ex t0 t1 m2 t2 t3 m4 t4) (implPullBack2_ex t0 t1 m2 t2 t3 m4 t4)).mono fun e W' ⟨he, hb⟩ => ?_
  subst he
  exact ⟨_, rfl, law_postV (pa := p0 ++ (p1 ++ (p2 ++ (p3 ++ (p4))))) (pv := [.cell 0 0]) hW' hb rfl rfl (trodAll_mk5 (Below.trod laidOut_ (by kernel_rfl) (of_decide_eq_true (by kernel_rfl)) h0 hb hlt0) (Below.trod laidOut_ (by kernel_rfl) (of_decide_eq_true (by kernel_rfl)) h1 hb hlt1) (Below.trod laidOut_ (by kernel_rfl) (of_decide_eq_true (by kernel_rfl)) h2 hb hlt2) (Below.trod laidOut_ (by kernel_rfl) (of_decide_eq_true (by kernel_rfl)) h3 hb hlt3) (Below.trod laidOut_ (by kernel_rfl) (of_decide_eq_true (by kernel_rfl)) h4 hb hlt4)) (vars_read1 enc gErr tErr Tryd.underlying187 (var_keep hb hvE) trivial _) (by simp)⟩

theorem pullBack_j10 : (Rows.fnExactPullBackRow.inPlace == Tryd.prog.inPlace 10) = true := by kernel_rfl
theorem pullBack_j11 : (Rows.fnExactPullBackRow.unfollowed == Tryd.prog.unfollowed 10) = true := by kernel_rfl
theorem pullBack_j12 : (Rows.fnExactPullBackRow.recurses == Tryd.prog.recurses 10) = true := by kernel_rfl
theorem pullBack_j13 : (Rows.fnExactPullBackRow.named == Tryd.prog.varsNamed 10) = true := by kernel_rfl
theorem pullBack_j5 : namedTie Tryd.prog Rows.fnExactPullBackRow.named Rows.fnExactPullBackSpec.vars = true := by kernel_rfl
theorem pullBack_j23 : (Rows.fnExactPullBackRow.plainKeys == Tryd.prog.plainKeys) = true := by kernel_rfl
theorem pullBack_j27 : (Rows.fnExactPullBackRow.lifted == Tryd.prog.liftsFinal) = true := by rw [jp_final]; rfl
theorem pullBack_j28 : (Tryd.prog.make == some Rows.fnExactPullBackRow.make) = true := by rw [jp_make]; rfl

theorem pullBack_closed : joinedFacts Tryd.prog 10 Tryd.f10 Rows.fnExactPullBackSpec Rows.fnExactPullBackRow = true :=
  joined_parts (by kernel_rfl) jp_laid jp_maps (by kernel_rfl) pullBack_j5 (by kernel_rfl) jp_stops (by kernel_rfl) jp_knobs pullBack_j10 pullBack_j11 pullBack_j12 pullBack_j13 (by kernel_rfl) (by kernel_rfl) (by kernel_rfl) (by kernel_rfl) (by kernel_rfl) (by kernel_rfl) (by kernel_rfl) (by kernel_rfl) (by kernel_rfl)
    pullBack_j23 (by kernel_rfl) jp_heard jp_enter pullBack_j27 pullBack_j28 (by kernel_rfl) (by kernel_rfl) (by kernel_rfl) (by kernel_rfl)

theorem pullBack_named : Tryd.pinned.checked.prog.funcNamed Rows.fnExactPullBackRow.func = some 10 := by kernel_rfl

theorem pullBack_holds : Rows.FnExactPullBackSaid :=
  OpenClaim.holds_of_wide 10 Tryd.f10 rfl rfl rfl rfl rfl rfl rfl ⟨rfl, rfl, rfl, rfl, rfl⟩ rfl rfl rfl rfl rfl pullBack_named Tryd.func10 pullBack_closed
    (of_decide_eq_true (by kernel_rfl)) (by unfold Func.isWrapper; first | (rw [if_pos (by decide +kernel)]; kernel_rfl) | (rw [if_neg (by decide +kernel)]; exact ⟨rfl, rfl⟩))
    (fun os started H enc _ => pullBack_lifted os started H enc)

theorem pullBack_cmain : Tryd.pinned.checked.prog.mainIs = some (Rows.fnExactPullBackCard.stood.harness.1, Rows.fnExactPullBackCard.stood.harness.2.toList) := by kernel_rfl
theorem pullBack_cwf : Rows.fnExactPullBackRow.wfByText (OpenSpec.ofChange Rows.fnExactPullBackSpec) = true := by kernel_rfl
theorem pullBack_clooks : false = Tryd.pinned.checked.prog.looks [] := by kernel_rfl
theorem pullBack_cgoes : false = Rows.fnExactPullBackRow.goesBy Tryd.pinned.checked.prog := by kernel_rfl

theorem pullBack_card : Rows.FnExactPullBackCardSaid :=
  Claim7.holds_tied_plain_at .later [] [.sentinel] true Rows.fnExactPullBackCard.stood.harness false
    pullBack_holds (fun _ h => by cases h) pullBack_cwf (fun _ h => by cases h) fnExactPullBack_row_tie rfl ⟨rfl, rfl⟩ pullBack_cmain rfl
    (fun f fn hf hfn => by
      obtain rfl : f = 10 := Option.some.inj (pullBack_named.symm.trans hf) |>.symm
      obtain rfl : fn = Tryd.f10 := (Option.some.inj (Tryd.func10.symm.trans hfn)).symm
      exact ⟨pullBack_clooks, fun j t ht => by
        rw [Tryd.params10] at ht
        have hm : t ∈ [24, 24, 38, 25, 55] := by simpa using Array.mem_of_getElem? ht
        have hall : ([24, 24, 38, 25, 55].all fun u => !Tryd.prog.wantsStandIn u) = true := by kernel_rfl
        exact (show Tryd.prog.wantsStandIn t = false by simpa using List.all_eq_true.1 hall t hm)⟩)
    pullBack_cgoes

end Go.Proofs.YtalejhbdbclfaaaDoor
