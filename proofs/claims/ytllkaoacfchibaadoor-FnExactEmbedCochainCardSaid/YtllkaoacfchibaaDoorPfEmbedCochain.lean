/-
  At every value of each parameter that can be read (a group value, a module value, a number, a cochain value): FnExactEmbedCochain answers true and its arguments read as before: EmbedCochain answers as its model does. Condition: the package variables that the row lists lie as the program's text lays them (the card ties them).
-/
import Derived.Test.YtllkaoacfchibaaDoorFra
import Derived.Test.YtllkaoacfchibaaDoorJp
import Derived.Test.YtllkaoacfchibaaDoorLwEmbedCochain
import Derived.Test.YtllkaoacfchibaaDoorWk
import Derived.Test.YtllkaoacfchibaaDoorFrSq
import Derived.Test.YtllkaoacfchibaaDoorCards
import Derived.Test.YtllkaoacfchibaaDoorTie
namespace Go.Proofs.YtllkaoacfchibaaDoor
open Go.ChangeShapes Go.WideShapes Go.ChangeAt Go.RowKit

set_option maxRecDepth 100000 in
theorem embedCochain_lifted (os : Os) (started : os.Started) (H : Type) (enc : TypeId × Value → H) :
    ReturnsInHanded {} Tryd.checked os 5 .any (fun w args => (Rows.fnExactEmbedCochainSpec.pre enc Tryd.prog Tryd.f5 [] false w args ∧ laidMetH Tryd.prog laidSq w) ∧ sizedMet enc Tryd.prog Tryd.f5 (OpenSpec.ofChange Rows.fnExactEmbedCochainSpec) false w args)
      (Rows.fnExactEmbedCochainSpec.post enc Tryd.prog Tryd.f5 false true false false) := by
  refine returnsInHanded_of_change_and (C := Tryd.checked) (X := fun w _ => laidMetH Tryd.prog laidSq w) (fun _ _ _ hh h => h.of_heap hh) own_ started (by kernel_rfl) Tryd.func5
    (ChangeSpec.witness_shaped (enc := enc) (C := Tryd.checked) (os := os) (X := fun w _ => laidMetH Tryd.prog laidSq w) false (World.doorLaid Tryd.prog 400 os) #[.agg #[.slice none 0 0], .agg #[.int .i64 0, .slice none 0 0], .int .i64 0, .agg #[.int .i64 0, .slice none 0 0]] 8 rfl (World.shaped_of_RefB (by kernel_rfl) (by kernel_rfl)) (by kernel_rfl) (by kernel_rfl) (by kernel_rfl) (laidSq_met os _)) ?_
  intro W base args ds gs before hval0 hW hcnd _ hL _
  have hval : ∀ (j : Nat) t v, Tryd.f5.params[j]? = some t → args[j]? = some v → Value.okWide Tryd.prog W .any base t v := hval0
  have hW' := hW
  obtain ⟨p, q, hA0, hV, rfl, hfz, hnd⟩ := hW
  have hA : DataW.TrodAll enc Tryd.prog W 0 (fun _ => true) true Tryd.f5.params.toList args.toList ds p := hA0
  rw [Tryd.params5] at hA hval
  obtain ⟨v0, v1, v2, v3, d0, d1, d2, d3, p0, p1, p2, p3, rfl, rfl, rfl, h0, h1, h2, h3⟩ := trodAll_four hA
  obtain ⟨aD, hvD⟩ := divVar_of hL
  have hV' : DataW.TrodVars enc Tryd.prog W (fun _ => true) [divName] gs q := hV
  obtain ⟨rfl, rfl⟩ := hV'.unique (vars_read1 enc g_div t_div Tryd.underlying184 hvD trivial _)
  obtain ⟨A0, t0, c0, rfl, hR0, hn0, hl0, _⟩ := open_group (hval 0 24 v0 rfl rfl) h0
  obtain ⟨m1, A1, t1, c1, rfl, hR1, hn1⟩ := open_module (hval 1 27 v1 rfl rfl) h1
  obtain ⟨m2, rfl, rfl, rfl, w2⟩ := open_int Tryd.underlying2 (hval 2 2 v2 rfl rfl) h2
  obtain ⟨m3, A3, t3, c3, rfl, hR3, hn3⟩ := open_cochain (hval 3 42 v3 rfl rfl) h3
  clear hA0 hval0 hV hV'
  simp only [List.append_nil] at hW'
  have hlt0 : ∀ x ∈ p0, x.block < W.heap.size := fun x hx => hW'.lt x (by simp [hx])
  have hlt1 : ∀ x ∈ p1, x.block < W.heap.size := fun x hx => hW'.lt x (by simp [hx])
  have hlt3 : ∀ x ∈ p3, x.block < W.heap.size := fun x hx => hW'.lt x (by simp [hx])
  refine (lawEmbedCochain_any A0 t0 c0 m1 A1 t1 c1 m2 m3 A3 t3 c3 (qEmbedCochain0 t0 m1 t1 m2 m3 t3) (yEmbedCochain0 t0 m1 t1 m2 m3 t3) (qEmbedCochain1 t0 m1 t1 m2 m3 t3) W hR0 hn0 hl0 hR1 hn1 hR3 hn3 (embedCochain_small0 t0 m1 t1 m2 m3 t3) (divL_of hL) (specEmbedCochain_ex t0 m1 t1 m2 m3 t3) (implEmbedCochain_ex t0 m1 t1 m2 m3 t3)).mono fun e W' ⟨he, hb⟩ => ?_
  subst he
  exact ⟨_, rfl, law_postV (pa := p0 ++ (p1 ++ ([] ++ (p3)))) (pv := [.cell 0 0]) hW' hb rfl rfl (trodAll_mk4 (Below.trod laidOut_ (by kernel_rfl) (of_decide_eq_true (by kernel_rfl)) h0 hb hlt0) (Below.trod laidOut_ (by kernel_rfl) (of_decide_eq_true (by kernel_rfl)) h1 hb hlt1) (shut_int Tryd.underlying2 w2) (Below.trod laidOut_ (by kernel_rfl) (of_decide_eq_true (by kernel_rfl)) h3 hb hlt3)) (vars_read1 enc g_div t_div Tryd.underlying184 (div_keep hb hvD) trivial _) (by simp)⟩

theorem embedCochain_j10 : (Rows.fnExactEmbedCochainRow.inPlace == Tryd.prog.inPlace 5) = true := by kernel_rfl
theorem embedCochain_j11 : (Rows.fnExactEmbedCochainRow.unfollowed == Tryd.prog.unfollowed 5) = true := by kernel_rfl
theorem embedCochain_j12 : (Rows.fnExactEmbedCochainRow.recurses == Tryd.prog.recurses 5) = true := by kernel_rfl
theorem embedCochain_j13 : (Rows.fnExactEmbedCochainRow.named == Tryd.prog.varsNamed 5) = true := by kernel_rfl
theorem embedCochain_j5 : namedTie Tryd.prog Rows.fnExactEmbedCochainRow.named Rows.fnExactEmbedCochainSpec.vars = true := by kernel_rfl
theorem embedCochain_j23 : (Rows.fnExactEmbedCochainRow.plainKeys == Tryd.prog.plainKeys) = true := by kernel_rfl
theorem embedCochain_j27 : (Rows.fnExactEmbedCochainRow.lifted == Tryd.prog.liftsFinal) = true := by rw [jp_final]; rfl
theorem embedCochain_j28 : (Tryd.prog.make == some Rows.fnExactEmbedCochainRow.make) = true := by rw [jp_make]; rfl

theorem embedCochain_closed : joinedFacts Tryd.prog 5 Tryd.f5 Rows.fnExactEmbedCochainSpec Rows.fnExactEmbedCochainRow = true :=
  joined_parts (by kernel_rfl) jp_laid jp_maps (by kernel_rfl) embedCochain_j5 (by kernel_rfl) jp_stops (by kernel_rfl) jp_knobs embedCochain_j10 embedCochain_j11 embedCochain_j12 embedCochain_j13 (by kernel_rfl) (by kernel_rfl) (by kernel_rfl) (by kernel_rfl) (by kernel_rfl) (by kernel_rfl) (by kernel_rfl) (by kernel_rfl) (by kernel_rfl)
    embedCochain_j23 (by kernel_rfl) jp_heard jp_enter embedCochain_j27 embedCochain_j28 (by kernel_rfl) (by kernel_rfl) (by kernel_rfl) (by kernel_rfl)

theorem embedCochain_named : Tryd.pinned.checked.prog.funcNamed Rows.fnExactEmbedCochainRow.func = some 5 := by kernel_rfl

theorem embedCochain_holds : Rows.FnExactEmbedCochainSaid :=
  OpenClaim.holds_of_wide 5 Tryd.f5 rfl rfl rfl rfl rfl rfl rfl ⟨rfl, rfl, rfl, rfl, rfl⟩ rfl rfl rfl rfl rfl embedCochain_named Tryd.func5 embedCochain_closed
    (of_decide_eq_true (by kernel_rfl)) (by unfold Func.isWrapper; first | (rw [if_pos (by decide +kernel)]; kernel_rfl) | (rw [if_neg (by decide +kernel)]; exact ⟨rfl, rfl⟩))
    (fun os started H enc _ => embedCochain_lifted os started H enc)

theorem embedCochain_cmain : Tryd.pinned.checked.prog.mainIs = some (Rows.fnExactEmbedCochainCard.stood.harness.1, Rows.fnExactEmbedCochainCard.stood.harness.2.toList) := by kernel_rfl
theorem embedCochain_cwf : Rows.fnExactEmbedCochainRow.wfByText (OpenSpec.ofChange Rows.fnExactEmbedCochainSpec) = true := by kernel_rfl
theorem embedCochain_clooks : true = Tryd.pinned.checked.prog.looks [] := by kernel_rfl
theorem embedCochain_cgoes : false = Rows.fnExactEmbedCochainRow.goesBy Tryd.pinned.checked.prog := by kernel_rfl

theorem embedCochain_card : Rows.FnExactEmbedCochainCardSaid :=
  Claim7.holds_tied_plain_at .later [] [.sentinel] true Rows.fnExactEmbedCochainCard.stood.harness true
    embedCochain_holds (fun _ h => by cases h) embedCochain_cwf (fun _ h => by cases h) fnExactEmbedCochain_row_tie rfl ⟨rfl, rfl⟩ embedCochain_cmain rfl
    (fun f fn hf hfn => by
      obtain rfl : f = 5 := Option.some.inj (embedCochain_named.symm.trans hf) |>.symm
      obtain rfl : fn = Tryd.f5 := (Option.some.inj (Tryd.func5.symm.trans hfn)).symm
      exact ⟨embedCochain_clooks, fun j t ht => by
        rw [Tryd.params5] at ht
        have hm : t ∈ [24, 27, 2, 42] := by simpa using Array.mem_of_getElem? ht
        have hall : ([24, 27, 2, 42].all fun u => !Tryd.prog.wantsStandIn u) = true := by kernel_rfl
        exact (show Tryd.prog.wantsStandIn t = false by simpa using List.all_eq_true.1 hall t hm)⟩)
    embedCochain_cgoes

end Go.Proofs.YtllkaoacfchibaaDoor
