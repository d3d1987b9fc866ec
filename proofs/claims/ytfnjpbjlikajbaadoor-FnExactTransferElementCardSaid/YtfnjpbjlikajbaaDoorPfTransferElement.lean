/-
  At every value of each parameter that can be read (a group value, a list of numbers, a number): FnExactTransferElement answers true and its arguments read as before: TransferElement answers as its model does. Condition: the package variables that the row lists lie as the program's text lays them (the card ties them).
-/
import Derived.Test.YtfnjpbjlikajbaaDoorFra
import Derived.Test.YtfnjpbjlikajbaaDoorJp
import Derived.Test.YtfnjpbjlikajbaaDoorLwTransferElement
import Derived.Test.YtfnjpbjlikajbaaDoorZb
import Derived.Test.YtfnjpbjlikajbaaDoorFrd
import Derived.Test.YtfnjpbjlikajbaaDoorCards
import Derived.Test.YtfnjpbjlikajbaaDoorTie
namespace Go.Proofs.YtfnjpbjlikajbaaDoor
open Go.ChangeShapes Go.WideShapes Go.ChangeAt Go.RowKit

set_option maxRecDepth 100000 in
theorem transferElement_lifted (os : Os) (started : os.Started) (H : Type) (enc : TypeId × Value → H) :
    ReturnsInHanded {} Tryd.checked os 5 .any (fun w args => (Rows.fnExactTransferElementSpec.pre enc Tryd.prog Tryd.f5 [] false w args ∧ laidMetH Tryd.prog laidTab w) ∧ sizedMet enc Tryd.prog Tryd.f5 (OpenSpec.ofChange Rows.fnExactTransferElementSpec) false w args)
      (Rows.fnExactTransferElementSpec.post enc Tryd.prog Tryd.f5 false true false false) := by
  refine returnsInHanded_of_change_and (C := Tryd.checked) (X := fun w _ => laidMetH Tryd.prog laidTab w) (fun _ _ _ hh h => h.of_heap hh) own_ started (by kernel_rfl) Tryd.func5
    (ChangeSpec.witness_shaped (enc := enc) (C := Tryd.checked) (os := os) (X := fun w _ => laidMetH Tryd.prog laidTab w) false (World.doorLaid Tryd.prog 400 os) #[.agg #[.slice none 0 0], .slice none 0 0, .int .i64 0] 8 rfl (World.shaped_of_RefB (by kernel_rfl) (by kernel_rfl)) (by kernel_rfl) (by kernel_rfl) (by kernel_rfl) (laidTab_met os _)) ?_
  intro W base args ds gs before hval0 hW hcnd _ hL _
  have hval : ∀ (j : Nat) t v, Tryd.f5.params[j]? = some t → args[j]? = some v → Value.okWide Tryd.prog W .any base t v := hval0
  have hW' := hW
  obtain ⟨p, q, hA0, hV, rfl, hfz, hnd⟩ := hW
  have hA : DataW.TrodAll enc Tryd.prog W 0 (fun _ => true) true Tryd.f5.params.toList args.toList ds p := hA0
  rw [Tryd.params5] at hA hval
  obtain ⟨v0, v1, v2, d0, d1, d2, p0, p1, p2, rfl, rfl, rfl, h0, h1, h2⟩ := trodAll_three hA
  obtain ⟨rfl, rfl⟩ := trodVars_none hV
  obtain ⟨A0, t0, c0, rfl, hR0, hn0, hl0, _⟩ := open_group (hval 0 32 v0 rfl rfl) h0
  obtain ⟨A1, t1, c1, rfl, hR1, hn1⟩ := open_list (hval 1 22 v1 rfl rfl) h1
  obtain ⟨m2, rfl, rfl, rfl, w2⟩ := open_int Tryd.underlying2 (hval 2 2 v2 rfl rfl) h2
  clear hA0 hval0
  simp only [List.append_nil] at hW'
  have hlt0 : ∀ x ∈ p0, x.block < W.heap.size := fun x hx => hW'.lt x (by simp [hx])
  have hlt1 : ∀ x ∈ p1, x.block < W.heap.size := fun x hx => hW'.lt x (by simp [hx])
  refine (lawTransferElement_any A0 t0 c0 A1 t1 c1 m2 (qTransferElement0 t0 t1 m2) (qTransferElement1 t0 t1 m2) W hR0 hn0 hl0 hR1 hn1 (tabL_of hL) (specTransferElement_ex t0 t1 m2) (implTransferElement_ex t0 t1 m2)).mono fun e W' ⟨he, hb⟩ => ?_
  subst he
  exact ⟨_, rfl, law_post (pa := p0 ++ (p1 ++ ([]))) hW' hb rfl rfl rfl (trodAll_mk3 (Below.trod laidOut_ (by kernel_rfl) (of_decide_eq_true (by kernel_rfl)) h0 hb hlt0) (Below.trod laidOut_ (by kernel_rfl) (of_decide_eq_true (by kernel_rfl)) h1 hb hlt1) (shut_int Tryd.underlying2 w2)) (by simp)⟩

theorem transferElement_j10 : (Rows.fnExactTransferElementRow.inPlace == Tryd.prog.inPlace 5) = true := by kernel_rfl
theorem transferElement_j11 : (Rows.fnExactTransferElementRow.unfollowed == Tryd.prog.unfollowed 5) = true := by kernel_rfl
theorem transferElement_j12 : (Rows.fnExactTransferElementRow.recurses == Tryd.prog.recurses 5) = true := by kernel_rfl
theorem transferElement_j13 : (Rows.fnExactTransferElementRow.named == Tryd.prog.varsNamed 5) = true := by kernel_rfl
theorem transferElement_j5 : namedTie Tryd.prog Rows.fnExactTransferElementRow.named Rows.fnExactTransferElementSpec.vars = true := by kernel_rfl
theorem transferElement_j23 : (Rows.fnExactTransferElementRow.plainKeys == Tryd.prog.plainKeys) = true := by kernel_rfl
theorem transferElement_j27 : (Rows.fnExactTransferElementRow.lifted == Tryd.prog.liftsFinal) = true := by rw [jp_final]; rfl
theorem transferElement_j28 : (Tryd.prog.make == some Rows.fnExactTransferElementRow.make) = true := by rw [jp_make]; rfl

theorem transferElement_closed : joinedFacts Tryd.prog 5 Tryd.f5 Rows.fnExactTransferElementSpec Rows.fnExactTransferElementRow = true :=
  joined_parts (by kernel_rfl) jp_laid jp_maps (by kernel_rfl) transferElement_j5 (by kernel_rfl) jp_stops (by kernel_rfl) jp_knobs transferElement_j10 transferElement_j11 transferElement_j12 transferElement_j13 (by kernel_rfl) (by kernel_rfl) (by kernel_rfl) (by kernel_rfl) (by kernel_rfl) (by kernel_rfl) (by kernel_rfl) (by kernel_rfl) (by kernel_rfl)
    transferElement_j23 (by kernel_rfl) jp_heard jp_enter transferElement_j27 transferElement_j28 (by kernel_rfl) (by kernel_rfl) (by kernel_rfl) (by kernel_rfl)

theorem transferElement_named : Tryd.pinned.checked.prog.funcNamed Rows.fnExactTransferElementRow.func = some 5 := by kernel_rfl

theorem transferElement_holds : Rows.FnExactTransferElementSaid :=
  OpenClaim.holds_of_wide 5 Tryd.f5 rfl rfl rfl rfl rfl rfl rfl ⟨rfl, rfl, rfl, rfl, rfl⟩ rfl rfl rfl rfl rfl transferElement_named Tryd.func5 transferElement_closed
    (of_decide_eq_true (by kernel_rfl)) (by unfold Func.isWrapper; first | (rw [if_pos (by decide +kernel)]; kernel_rfl) | (rw [if_neg (by decide +kernel)]; exact ⟨rfl, rfl⟩))
    (fun os started H enc _ => transferElement_lifted os started H enc)

theorem transferElement_cmain : Tryd.pinned.checked.prog.mainIs = some (Rows.fnExactTransferElementCard.stood.harness.1, Rows.fnExactTransferElementCard.stood.harness.2.toList) := by kernel_rfl
theorem transferElement_cwf : Rows.fnExactTransferElementRow.wfByText (OpenSpec.ofChange Rows.fnExactTransferElementSpec) = true := by kernel_rfl
theorem transferElement_clooks : false = Tryd.pinned.checked.prog.looks [] := by kernel_rfl
theorem transferElement_cgoes : false = Rows.fnExactTransferElementRow.goesBy Tryd.pinned.checked.prog := by kernel_rfl

theorem transferElement_card : Rows.FnExactTransferElementCardSaid :=
  Claim7.holds_tied_plain_at .later [] [.data] true Rows.fnExactTransferElementCard.stood.harness false
    transferElement_holds (fun _ h => by cases h) transferElement_cwf (fun _ h => by cases h) fnExactTransferElement_row_tie rfl ⟨rfl, rfl⟩ transferElement_cmain rfl
    (fun f fn hf hfn => by
      obtain rfl : f = 5 := Option.some.inj (transferElement_named.symm.trans hf) |>.symm
      obtain rfl : fn = Tryd.f5 := (Option.some.inj (Tryd.func5.symm.trans hfn)).symm
      exact ⟨transferElement_clooks, fun j t ht => by
        rw [Tryd.params5] at ht
        have hm : t ∈ [32, 22, 2] := by simpa using Array.mem_of_getElem? ht
        have hall : ([32, 22, 2].all fun u => !Tryd.prog.wantsStandIn u) = true := by kernel_rfl
        exact (show Tryd.prog.wantsStandIn t = false by simpa using List.all_eq_true.1 hall t hm)⟩)
    transferElement_cgoes

end Go.Proofs.YtfnjpbjlikajbaaDoor
