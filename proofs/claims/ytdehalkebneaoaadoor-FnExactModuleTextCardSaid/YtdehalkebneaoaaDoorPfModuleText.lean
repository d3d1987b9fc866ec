/-
  At every value of each parameter that can be read (a group value, a module value): FnExactModuleText answers true and its arguments read as before: ModuleText answers as its model does. Condition: the package variables that the row lists lie as the program's text lays them (the card ties them).
-/
import Derived.Test.YtdehalkebneaoaaDoorFrm3
import Derived.Test.YtdehalkebneaoaaDoorJp
import Derived.Test.YtdehalkebneaoaaDoorLwModuleText
import Derived.Test.YtdehalkebneaoaaDoorDt
import Derived.Test.YtdehalkebneaoaaDoorFre
import Derived.Test.YtdehalkebneaoaaDoorCards
import Derived.Test.YtdehalkebneaoaaDoorTie
namespace Go.Proofs.YtdehalkebneaoaaDoor
open Go.ChangeShapes Go.WideShapes Go.ChangeAt Go.RowKit

set_option maxRecDepth 100000 in
theorem moduleText_lifted (os : Os) (started : os.Started) (H : Type) (enc : TypeId × Value → H) :
    ReturnsInHanded {} Tryd.checked os 11 .any (fun w args => (Rows.fnExactModuleTextSpec.pre enc Tryd.prog Tryd.f11 [] false w args ∧ laidMetH Tryd.prog laidTxt w) ∧ sizedMet enc Tryd.prog Tryd.f11 (OpenSpec.ofChange Rows.fnExactModuleTextSpec) false w args)
      (Rows.fnExactModuleTextSpec.post enc Tryd.prog Tryd.f11 false true false false) := by
  refine returnsInHanded_of_change_and (C := Tryd.checked) (X := fun w _ => laidMetH Tryd.prog laidTxt w) (fun _ _ _ hh h => h.of_heap hh) own_ started (by kernel_rfl) Tryd.func11
    (ChangeSpec.witness_shaped (enc := enc) (C := Tryd.checked) (os := os) (X := fun w _ => laidMetH Tryd.prog laidTxt w) false (World.doorLaid Tryd.prog 400 os) #[.agg #[.slice none 0 0], .agg #[.int .i64 0, .slice none 0 0]] 8 rfl (World.shaped_of_RefB (by kernel_rfl) (by kernel_rfl)) (by kernel_rfl) (by kernel_rfl) (by kernel_rfl) (laidTxt_met os _)) ?_
  intro W base args ds gs before hval0 hW hcnd _ hL _
  have hval : ∀ (j : Nat) t v, Tryd.f11.params[j]? = some t → args[j]? = some v → Value.okWide Tryd.prog W .any base t v := hval0
  have hW' := hW
  obtain ⟨p, q, hA0, hV, rfl, hfz, hnd⟩ := hW
  have hA : DataW.TrodAll enc Tryd.prog W 0 (fun _ => true) true Tryd.f11.params.toList args.toList ds p := hA0
  rw [Tryd.params11] at hA hval
  obtain ⟨v0, v1, d0, d1, p0, p1, rfl, rfl, rfl, h0, h1⟩ := trodAll_two hA
  obtain ⟨rfl, rfl⟩ := trodVars_none hV
  obtain ⟨A0, t0, c0, rfl, hR0, hn0, hl0, _⟩ := open_group (hval 0 24 v0 rfl rfl) h0
  obtain ⟨m1, A1, t1, c1, rfl, hR1, hn1⟩ := open_module (hval 1 37 v1 rfl rfl) h1
  clear hA0 hval0
  simp only [List.append_nil] at hW'
  have hlt0 : ∀ x ∈ p0, x.block < W.heap.size := fun x hx => hW'.lt x (by simp [hx])
  have hlt1 : ∀ x ∈ p1, x.block < W.heap.size := fun x hx => hW'.lt x (by simp [hx])
  refine (lawModuleText_any A0 t0 c0 m1 A1 t1 c1 (qModuleText0 t0 m1 t1) (qModuleText1 t0 m1 t1) W hR0 hn0 hl0 hR1 hn1 (specModuleText_ex t0 m1 t1) (implModuleText_ex t0 m1 t1)).mono fun e W' ⟨he, hb⟩ => ?_
  subst he
  exact ⟨_, rfl, law_post (pa := p0 ++ (p1)) hW' hb rfl rfl rfl (trodAll_mk2 (Below.trod laidOut_ (by kernel_rfl) (of_decide_eq_true (by kernel_rfl)) h0 hb hlt0) (Below.trod laidOut_ (by kernel_rfl) (of_decide_eq_true (by kernel_rfl)) h1 hb hlt1)) (by simp)⟩

theorem moduleText_j10 : (Rows.fnExactModuleTextRow.inPlace == Tryd.prog.inPlace 11) = true := by kernel_rfl
theorem moduleText_j11 : (Rows.fnExactModuleTextRow.unfollowed == Tryd.prog.unfollowed 11) = true := by kernel_rfl
theorem moduleText_j12 : (Rows.fnExactModuleTextRow.recurses == Tryd.prog.recurses 11) = true := by kernel_rfl
theorem moduleText_j13 : (Rows.fnExactModuleTextRow.named == Tryd.prog.varsNamed 11) = true := by kernel_rfl
theorem moduleText_j5 : namedTie Tryd.prog Rows.fnExactModuleTextRow.named Rows.fnExactModuleTextSpec.vars = true := by kernel_rfl
theorem moduleText_j23 : (Rows.fnExactModuleTextRow.plainKeys == Tryd.prog.plainKeys) = true := by kernel_rfl
theorem moduleText_j27 : (Rows.fnExactModuleTextRow.lifted == Tryd.prog.liftsFinal) = true := by rw [jp_final]; rfl
theorem moduleText_j28 : (Tryd.prog.make == some Rows.fnExactModuleTextRow.make) = true := by rw [jp_make]; rfl

theorem moduleText_closed : joinedFacts Tryd.prog 11 Tryd.f11 Rows.fnExactModuleTextSpec Rows.fnExactModuleTextRow = true :=
  joined_parts (by kernel_rfl) jp_laid jp_maps (by kernel_rfl) moduleText_j5 (by kernel_rfl) jp_stops (by kernel_rfl) jp_knobs moduleText_j10 moduleText_j11 moduleText_j12 moduleText_j13 (by kernel_rfl) (by kernel_rfl) (by kernel_rfl) (by kernel_rfl) (by kernel_rfl) (by kernel_rfl) (by kernel_rfl) (by kernel_rfl) (by kernel_rfl)
    moduleText_j23 (by kernel_rfl) jp_heard jp_enter moduleText_j27 moduleText_j28 (by kernel_rfl) (by kernel_rfl) (by kernel_rfl) (by kernel_rfl)

theorem moduleText_named : Tryd.pinned.checked.prog.funcNamed Rows.fnExactModuleTextRow.func = some 11 := by kernel_rfl

theorem moduleText_holds : Rows.FnExactModuleTextSaid :=
  OpenClaim.holds_of_wide 11 Tryd.f11 rfl rfl rfl rfl rfl rfl rfl ⟨rfl, rfl, rfl, rfl, rfl⟩ rfl rfl rfl rfl rfl moduleText_named Tryd.func11 moduleText_closed
    (of_decide_eq_true (by kernel_rfl)) (by unfold Func.isWrapper; first | (rw [if_pos (by decide +kernel)]; kernel_rfl) | (rw [if_neg (by decide +kernel)]; exact ⟨rfl, rfl⟩))
    (fun os started H enc _ => moduleText_lifted os started H enc)

theorem moduleText_card : Rows.FnExactModuleTextCardSaid :=
  Claim7.holds_tied_plain_at .later [] [.data, .data, .data] true Rows.fnExactModuleTextCard.stood.harness true
    moduleText_holds (fun _ h => by cases h) (by kernel_rfl) (fun _ h => by cases h) fnExactModuleText_row_tie rfl ⟨rfl, rfl⟩ (by kernel_rfl) rfl
    (fun f fn hf hfn => by
      obtain rfl : f = 11 := Option.some.inj (moduleText_named.symm.trans hf) |>.symm
      obtain rfl : fn = Tryd.f11 := (Option.some.inj (Tryd.func11.symm.trans hfn)).symm
      exact ⟨by kernel_rfl, fun j t ht => by
        rw [Tryd.params11] at ht
        have hm : t ∈ [24, 37] := by simpa using Array.mem_of_getElem? ht
        have hall : ([24, 37].all fun u => !Tryd.prog.wantsStandIn u) = true := by kernel_rfl
        exact (show Tryd.prog.wantsStandIn t = false by simpa using List.all_eq_true.1 hall t hm)⟩)
    (by kernel_rfl)

end Go.Proofs.YtdehalkebneaoaaDoor
