/-
  At every value of each parameter that can be read (a group value, a list of numbers): FnExactIsNormal answers true and its arguments read as before: IsNormal answers as its model does. Condition: the package variables that the row lists lie as the program's text lays them (the card ties them).
-/
import Derived.Test.YtmmgmbgnlcfabaaDoorFrm3
import Derived.Test.YtmmgmbgnlcfabaaDoorJp
import Derived.Test.YtmmgmbgnlcfabaaDoorLwIsNormal
import Derived.Test.YtmmgmbgnlcfabaaDoorNk
import Derived.Test.YtmmgmbgnlcfabaaDoorFrd
import Derived.Test.YtmmgmbgnlcfabaaDoorCards
import Derived.Test.YtmmgmbgnlcfabaaDoorTie
namespace Go.Proofs.YtmmgmbgnlcfabaaDoor
open Go.ChangeShapes Go.WideShapes Go.ChangeAt Go.RowKit

set_option maxRecDepth 100000 in
theorem isNormal_lifted (os : Os) (started : os.Started) (H : Type) (enc : TypeId × Value → H) :
    ReturnsInHanded {} Tryd.checked os 6 .any (fun w args => (Rows.fnExactIsNormalSpec.pre enc Tryd.prog Tryd.f6 [] false w args ∧ laidMetH Tryd.prog laidTab w) ∧ sizedMet enc Tryd.prog Tryd.f6 (OpenSpec.ofChange Rows.fnExactIsNormalSpec) false w args)
      (Rows.fnExactIsNormalSpec.post enc Tryd.prog Tryd.f6 false true false false) := by
  refine returnsInHanded_of_change_and (C := Tryd.checked) (X := fun w _ => laidMetH Tryd.prog laidTab w) (fun _ _ _ hh h => h.of_heap hh) own_ started (by kernel_rfl) Tryd.func6
    (ChangeSpec.witness_shaped (enc := enc) (C := Tryd.checked) (os := os) (X := fun w _ => laidMetH Tryd.prog laidTab w) false (World.doorLaid Tryd.prog 400 os) #[.agg #[.slice none 0 0], .slice none 0 0] 8 rfl (World.shaped_of_RefB (by kernel_rfl) (by kernel_rfl)) (by kernel_rfl) (by kernel_rfl) (by kernel_rfl) (laidTab_met os _)) ?_
  intro W base args ds gs before hval0 hW hcnd _ hL _
  have hval : ∀ (j : Nat) t v, Tryd.f6.params[j]? = some t → args[j]? = some v → Value.okWide Tryd.prog W .any base t v := hval0
  have hW' := hW
  obtain ⟨p, q, hA0, hV, rfl, hfz, hnd⟩ := hW
  have hA : DataW.TrodAll enc Tryd.prog W 0 (fun _ => true) true Tryd.f6.params.toList args.toList ds p := hA0
  rw [Tryd.params6] at hA hval
  obtain ⟨v0, v1, d0, d1, p0, p1, rfl, rfl, rfl, h0, h1⟩ := trodAll_two hA
  obtain ⟨rfl, rfl⟩ := trodVars_none hV
  obtain ⟨A0, t0, c0, rfl, hR0, hn0, hl0, _⟩ := open_group (hval 0 24 v0 rfl rfl) h0
  obtain ⟨A1, t1, c1, rfl, hR1, hn1⟩ := open_list (hval 1 26 v1 rfl rfl) h1
  clear hA0 hval0
  simp only [List.append_nil] at hW'
  have hlt0 : ∀ x ∈ p0, x.block < W.heap.size := fun x hx => hW'.lt x (by simp [hx])
  have hlt1 : ∀ x ∈ p1, x.block < W.heap.size := fun x hx => hW'.lt x (by simp [hx])
  refine (lawIsNormal_any A0 t0 c0 A1 t1 c1 (qIsNormal0 t0 t1) (qIsNormal1 t0 t1) W hR0 hn0 hl0 hR1 hn1 (tabL_of hL) (specIsNormal_ex t0 t1) (implIsNormal_ex t0 t1)).mono fun e W' ⟨he, hb⟩ => ?_
  subst he
  exact ⟨_, rfl, law_post (pa := p0 ++ (p1)) hW' hb rfl rfl rfl (trodAll_mk2 (Below.trod laidOut_ (by kernel_rfl) (of_decide_eq_true (by kernel_rfl)) h0 hb hlt0) (Below.trod laidOut_ (by kernel_rfl) (of_decide_eq_true (by kernel_rfl)) h1 hb hlt1)) (by simp)⟩

theorem isNormal_j10 : (Rows.fnExactIsNormalRow.inPlace == Tryd.prog.inPlace 6) = true := by kernel_rfl
theorem isNormal_j11 : (Rows.fnExactIsNormalRow.unfollowed == Tryd.prog.unfollowed 6) = true := by kernel_rfl
theorem isNormal_j12 : (Rows.fnExactIsNormalRow.recurses == Tryd.prog.recurses 6) = true := by kernel_rfl
theorem isNormal_j13 : (Rows.fnExactIsNormalRow.named == Tryd.prog.varsNamed 6) = true := by kernel_rfl
theorem isNormal_j5 : namedTie Tryd.prog Rows.fnExactIsNormalRow.named Rows.fnExactIsNormalSpec.vars = true := by kernel_rfl
theorem isNormal_j23 : (Rows.fnExactIsNormalRow.plainKeys == Tryd.prog.plainKeys) = true := by kernel_rfl
theorem isNormal_j27 : (Rows.fnExactIsNormalRow.lifted == Tryd.prog.liftsFinal) = true := by rw [jp_final]; rfl
theorem isNormal_j28 : (Tryd.prog.make == some Rows.fnExactIsNormalRow.make) = true := by rw [jp_make]; rfl

theorem isNormal_closed : joinedFacts Tryd.prog 6 Tryd.f6 Rows.fnExactIsNormalSpec Rows.fnExactIsNormalRow = true :=
  joined_parts (by kernel_rfl) jp_laid jp_maps (by kernel_rfl) isNormal_j5 (by kernel_rfl) jp_stops (by kernel_rfl) jp_knobs isNormal_j10 isNormal_j11 isNormal_j12 isNormal_j13 (by kernel_rfl) (by kernel_rfl) (by kernel_rfl) (by kernel_rfl) (by kernel_rfl) (by kernel_rfl) (by kernel_rfl) (by kernel_rfl) (by kernel_rfl)
    isNormal_j23 (by kernel_rfl) jp_heard jp_enter isNormal_j27 isNormal_j28 (by kernel_rfl) (by kernel_rfl) (by kernel_rfl) (by kernel_rfl)

theorem isNormal_named : Tryd.pinned.checked.prog.funcNamed Rows.fnExactIsNormalRow.func = some 6 := by kernel_rfl

theorem isNormal_holds : Rows.FnExactIsNormalSaid :=
  OpenClaim.holds_of_wide 6 Tryd.f6 rfl rfl rfl rfl rfl rfl rfl ⟨rfl, rfl, rfl, rfl, rfl⟩ rfl rfl rfl rfl rfl isNormal_named Tryd.func6 isNormal_closed
    (of_decide_eq_true (by kernel_rfl)) (by unfold Func.isWrapper; first | (rw [if_pos (by decide +kernel)]; kernel_rfl) | (rw [if_neg (by decide +kernel)]; exact ⟨rfl, rfl⟩))
    (fun os started H enc _ => isNormal_lifted os started H enc)

theorem isNormal_card : Rows.FnExactIsNormalCardSaid :=
  Claim7.holds_tied_plain_at .later [] [.data] true Rows.fnExactIsNormalCard.stood.harness false
    isNormal_holds (fun _ h => by cases h) (by kernel_rfl) (fun _ h => by cases h) fnExactIsNormal_row_tie rfl ⟨rfl, rfl⟩ (by kernel_rfl) rfl
    (fun f fn hf hfn => by
      obtain rfl : f = 6 := Option.some.inj (isNormal_named.symm.trans hf) |>.symm
      obtain rfl : fn = Tryd.f6 := (Option.some.inj (Tryd.func6.symm.trans hfn)).symm
      exact ⟨by kernel_rfl, fun j t ht => by
        rw [Tryd.params6] at ht
        have hm : t ∈ [24, 26] := by simpa using Array.mem_of_getElem? ht
        have hall : ([24, 26].all fun u => !Tryd.prog.wantsStandIn u) = true := by kernel_rfl
        exact (show Tryd.prog.wantsStandIn t = false by simpa using List.all_eq_true.1 hall t hm)⟩)
    (by kernel_rfl)

end Go.Proofs.YtmmgmbgnlcfabaaDoor
