/-
  At every value of each parameter that can be read (a group value, a module value, a cochain value): FnExactCochainText answers true and its arguments read as before: CochainText answers as its model does. Condition: the package variables that the row lists lie as the program's text lays them (the card ties them).
-/
import Derived.Test.YtdehalkebneaoaaDoorFrm3
import Derived.Test.YtdehalkebneaoaaDoorJp
import Derived.Test.YtdehalkebneaoaaDoorLwCochainText
import Derived.Test.YtdehalkebneaoaaDoorCt
import Derived.Test.YtdehalkebneaoaaDoorFre
import Derived.Test.YtdehalkebneaoaaDoorCards
import Derived.Test.YtdehalkebneaoaaDoorTie
namespace Go.Proofs.YtdehalkebneaoaaDoor
open Go.ChangeShapes Go.WideShapes Go.ChangeAt Go.RowKit

set_option maxRecDepth 100000 in
theorem cochainText_lifted (os : Os) (started : os.Started) (H : Type) (enc : TypeId × Value → H) :
    ReturnsInHanded {} Tryd.checked os 13 .any (fun w args => (Rows.fnExactCochainTextSpec.pre enc Tryd.prog Tryd.f13 [] false w args ∧ laidMetH Tryd.prog laidTxt w) ∧ sizedMet enc Tryd.prog Tryd.f13 (OpenSpec.ofChange Rows.fnExactCochainTextSpec) false w args)
      (Rows.fnExactCochainTextSpec.post enc Tryd.prog Tryd.f13 false true false false) := by
  refine returnsInHanded_of_change_and (C := Tryd.checked) (X := fun w _ => laidMetH Tryd.prog laidTxt w) (fun _ _ _ hh h => h.of_heap hh) own_ started (by kernel_rfl) Tryd.func13
    (ChangeSpec.witness_shaped (enc := enc) (C := Tryd.checked) (os := os) (X := fun w _ => laidMetH Tryd.prog laidTxt w) false (World.doorLaid Tryd.prog 400 os) #[.agg #[.slice none 0 0], .agg #[.int .i64 0, .slice none 0 0], .agg #[.int .i64 0, .slice none 0 0]] 8 rfl (World.shaped_of_RefB (by kernel_rfl) (by kernel_rfl)) (by kernel_rfl) (by kernel_rfl) (by kernel_rfl) (laidTxt_met os _)) ?_
  intro W base args ds gs before hval0 hW hcnd _ hL _
  have hval : ∀ (j : Nat) t v, Tryd.f13.params[j]? = some t → args[j]? = some v → Value.okWide Tryd.prog W .any base t v := hval0
  have hW' := hW
  obtain ⟨p, q, hA0, hV, rfl, hfz, hnd⟩ := hW
  have hA : DataW.TrodAll enc Tryd.prog W 0 (fun _ => true) true Tryd.f13.params.toList args.toList ds p := hA0
  rw [Tryd.params13] at hA hval
  obtain ⟨v0, v1, v2, d0, d1, d2, p0, p1, p2, rfl, rfl, rfl, h0, h1, h2⟩ := trodAll_three hA
  obtain ⟨rfl, rfl⟩ := trodVars_none hV
  obtain ⟨A0, t0, c0, rfl, hR0, hn0, hl0, _⟩ := open_group (hval 0 24 v0 rfl rfl) h0
  obtain ⟨m1, A1, t1, c1, rfl, hR1, hn1⟩ := open_module (hval 1 37 v1 rfl rfl) h1
  obtain ⟨m2, A2, t2, c2, rfl, hR2, hn2⟩ := open_cochain (hval 2 39 v2 rfl rfl) h2
  clear hA0 hval0
  simp only [List.append_nil] at hW'
  have hlt0 : ∀ x ∈ p0, x.block < W.heap.size := fun x hx => hW'.lt x (by simp [hx])
  have hlt1 : ∀ x ∈ p1, x.block < W.heap.size := fun x hx => hW'.lt x (by simp [hx])
  have hlt2 : ∀ x ∈ p2, x.block < W.heap.size := fun x hx => hW'.lt x (by simp [hx])
  refine (lawCochainText_any A0 t0 c0 m1 A1 t1 c1 m2 A2 t2 c2 (qCochainText0 t0 m1 t1 m2 t2) (qCochainText1 t0 m1 t1 m2 t2) W hR0 hn0 hl0 hR1 hn1 hR2 hn2 (specCochainText_ex t0 m1 t1 m2 t2) (implCochainText_ex t0 m1 t1 m2 t2)).mono fun e W' ⟨he, hb⟩ => ?_
  subst he
  exact ⟨_, rfl, law_post (pa := p0 ++ (p1 ++ (p2))) hW' hb rfl rfl rfl (trodAll_mk3 (Below.trod laidOut_ (by kernel_rfl) (of_decide_eq_true (by kernel_rfl)) h0 hb hlt0) (Below.trod laidOut_ (by kernel_rfl) (of_decide_eq_true (by kernel_rfl)) h1 hb hlt1) (Below.trod laidOut_ (by kernel_rfl) (of_decide_eq_true (by kernel_rfl)) h2 hb hlt2)) (by simp)⟩

theorem cochainText_j10 : (Rows.fnExactCochainTextRow.inPlace == Tryd.prog.inPlace 13) = true := by kernel_rfl
theorem cochainText_j11 : (Rows.fnExactCochainTextRow.unfollowed == Tryd.prog.unfollowed 13) = true := by kernel_rfl
theorem cochainText_j12 : (Rows.fnExactCochainTextRow.recurses == Tryd.prog.recurses 13) = true := by kernel_rfl
theorem cochainText_j13 : (Rows.fnExactCochainTextRow.named == Tryd.prog.varsNamed 13) = true := by kernel_rfl
theorem cochainText_j5 : namedTie Tryd.prog Rows.fnExactCochainTextRow.named Rows.fnExactCochainTextSpec.vars = true := by kernel_rfl
theorem cochainText_j23 : (Rows.fnExactCochainTextRow.plainKeys == Tryd.prog.plainKeys) = true := by kernel_rfl
theorem cochainText_j27 : (Rows.fnExactCochainTextRow.lifted == Tryd.prog.liftsFinal) = true := by rw [jp_final]; rfl
theorem cochainText_j28 : (Tryd.prog.make == some Rows.fnExactCochainTextRow.make) = true := by rw [jp_make]; rfl

theorem cochainText_closed : joinedFacts Tryd.prog 13 Tryd.f13 Rows.fnExactCochainTextSpec Rows.fnExactCochainTextRow = true :=
  joined_parts (by kernel_rfl) jp_laid jp_maps (by kernel_rfl) cochainText_j5 (by kernel_rfl) jp_stops (by kernel_rfl) jp_knobs cochainText_j10 cochainText_j11 cochainText_j12 cochainText_j13 (by kernel_rfl) (by kernel_rfl) (by kernel_rfl) (by kernel_rfl) (by kernel_rfl) (by kernel_rfl) (by kernel_rfl) (by kernel_rfl) (by kernel_rfl)
    cochainText_j23 (by kernel_rfl) jp_heard jp_enter cochainText_j27 cochainText_j28 (by kernel_rfl) (by kernel_rfl) (by kernel_rfl) (by kernel_rfl)

theorem cochainText_named : Tryd.pinned.checked.prog.funcNamed Rows.fnExactCochainTextRow.func = some 13 := by kernel_rfl

theorem cochainText_holds : Rows.FnExactCochainTextSaid :=
  OpenClaim.holds_of_wide 13 Tryd.f13 rfl rfl rfl rfl rfl rfl rfl ⟨rfl, rfl, rfl, rfl, rfl⟩ rfl rfl rfl rfl rfl cochainText_named Tryd.func13 cochainText_closed
    (of_decide_eq_true (by kernel_rfl)) (by unfold Func.isWrapper; first | (rw [if_pos (by decide +kernel)]; kernel_rfl) | (rw [if_neg (by decide +kernel)]; exact ⟨rfl, rfl⟩))
    (fun os started H enc _ => cochainText_lifted os started H enc)

theorem cochainText_card : Rows.FnExactCochainTextCardSaid :=
  Claim7.holds_tied_plain_at .later [] [.data, .data, .data] true Rows.fnExactCochainTextCard.stood.harness true
    cochainText_holds (fun _ h => by cases h) (by kernel_rfl) (fun _ h => by cases h) fnExactCochainText_row_tie rfl ⟨rfl, rfl⟩ (by kernel_rfl) rfl
    (fun f fn hf hfn => by
      obtain rfl : f = 13 := Option.some.inj (cochainText_named.symm.trans hf) |>.symm
      obtain rfl : fn = Tryd.f13 := (Option.some.inj (Tryd.func13.symm.trans hfn)).symm
      exact ⟨by kernel_rfl, fun j t ht => by
        rw [Tryd.params13] at ht
        have hm : t ∈ [24, 37, 39] := by simpa using Array.mem_of_getElem? ht
        have hall : ([24, 37, 39].all fun u => !Tryd.prog.wantsStandIn u) = true := by kernel_rfl
        exact (show Tryd.prog.wantsStandIn t = false by simpa using List.all_eq_true.1 hall t hm)⟩)
    (by kernel_rfl)

end Go.Proofs.YtdehalkebneaoaaDoor
