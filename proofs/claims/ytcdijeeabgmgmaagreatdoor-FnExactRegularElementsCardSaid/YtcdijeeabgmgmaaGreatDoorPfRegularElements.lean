/-
  At every value of each parameter that can be read (a group value, a number, a cochain value): FnExactRegularElements answers true and its arguments read as before: RegularElements answers as its model does. Condition: the package variables that the row lists lie as the program's text lays them (the card ties them).
-/
import Derived.Test.YtcdijeeabgmgmaaGreatDoorFra
import Derived.Test.YtcdijeeabgmgmaaGreatDoorJp
import Derived.Test.YtcdijeeabgmgmaaGreatDoorLwRegularElements
import Derived.Test.YtcdijeeabgmgmaaGreatDoorA12
import Derived.Test.YtcdijeeabgmgmaaGreatDoorFrTw
import Derived.Test.YtcdijeeabgmgmaaGreatDoorCards
import Derived.Test.YtcdijeeabgmgmaaGreatDoorTie
namespace Go.Proofs.YtcdijeeabgmgmaaGreatDoor
open Go.ChangeShapes Go.WideShapes Go.ChangeAt Go.RowKit

set_option maxRecDepth 100000 in
theorem regularElements_lifted (os : Os) (started : os.Started) (H : Type) (enc : TypeId × Value → H) :
    ReturnsInHanded {} Tryz.checked os 3 .any (fun w args => (Rows.fnExactRegularElementsSpec.pre enc Tryz.prog Tryz.f3 [] false w args ∧ laidMetH Tryz.prog laidTw w) ∧ sizedMet enc Tryz.prog Tryz.f3 (OpenSpec.ofChange Rows.fnExactRegularElementsSpec) false w args)
      (Rows.fnExactRegularElementsSpec.post enc Tryz.prog Tryz.f3 false true false false) := by
  refine returnsInHanded_of_change_and (C := Tryz.checked) (X := fun w _ => laidMetH Tryz.prog laidTw w) (fun _ _ _ hh h => h.of_heap hh) own_ started (by kernel_rfl) Tryz.func3
    (ChangeSpec.witness_shaped (enc := enc) (C := Tryz.checked) (os := os) (X := fun w _ => laidMetH Tryz.prog laidTw w) false (World.doorLaid Tryz.prog 400 os) #[.agg #[.slice none 0 0], .int .i64 0, .agg #[.int .i64 0, .slice none 0 0]] 8 rfl (World.shaped_of_RefB (by kernel_rfl) (by kernel_rfl)) (by kernel_rfl) (by kernel_rfl) (by kernel_rfl) (laidTw_met os _)) ?_
  intro W base args ds gs before hval0 hW hcnd _ hL _
  have hval : ∀ (j : Nat) t v, Tryz.f3.params[j]? = some t → args[j]? = some v → Value.okWide Tryz.prog W .any base t v := hval0
  have hW' := hW
  obtain ⟨p, q, hA0, hV, rfl, hfz, hnd⟩ := hW
  have hA : DataW.TrodAll enc Tryz.prog W 0 (fun _ => true) true Tryz.f3.params.toList args.toList ds p := hA0
  rw [Tryz.params3] at hA hval
  obtain ⟨v0, v1, v2, d0, d1, d2, p0, p1, p2, rfl, rfl, rfl, h0, h1, h2⟩ := trodAll_three hA
  obtain ⟨aE, hvE⟩ := errVar_of hL
  have hV' : DataW.TrodVars enc Tryz.prog W (fun _ => true) [errName] gs q := hV
  obtain ⟨rfl, rfl⟩ := hV'.unique (vars_read1 enc g_err t_err Tryz.underlying153 hvE trivial _)
  obtain ⟨A0, t0, c0, rfl, hR0, hn0, hl0, _⟩ := open_group (hval 0 24 v0 rfl rfl) h0
  obtain ⟨m1, rfl, rfl, rfl, w1⟩ := open_int Tryz.underlying2 (hval 1 2 v1 rfl rfl) h1
  obtain ⟨m2, A2, t2, c2, rfl, hR2, hn2⟩ := open_cochain (hval 2 27 v2 rfl rfl) h2
  clear hA0 hval0 hV hV'
  simp only [List.append_nil] at hW'
  have hlt0 : ∀ x ∈ p0, x.block < W.heap.size := fun x hx => hW'.lt x (by simp [hx])
  have hlt2 : ∀ x ∈ p2, x.block < W.heap.size := fun x hx => hW'.lt x (by simp [hx])
  refine (lawRegularElements_any A0 t0 c0 m1 m2 A2 t2 c2 (yRegularElements0 t0 m1 m2 t2) (qRegularElements1 t0 m1 m2 t2) W hR0 hn0 hl0 hR2 hn2 (regularElements_small0 t0 m1 m2 t2) (tabL_of hL) (specRegularElements_ex t0 m1 m2 t2) (implRegularElements_ex t0 m1 m2 t2)).mono fun e W' ⟨he, hb⟩ => ?_
  subst he
  exact ⟨_, rfl, law_postV (pa := p0 ++ ([] ++ (p2))) (pv := [.cell 0 0]) hW' hb rfl rfl (trodAll_mk3 (Below.trod laidOut_ (by kernel_rfl) (of_decide_eq_true (by kernel_rfl)) h0 hb hlt0) (shut_int Tryz.underlying2 w1) (Below.trod laidOut_ (by kernel_rfl) (of_decide_eq_true (by kernel_rfl)) h2 hb hlt2)) (vars_read1 enc g_err t_err Tryz.underlying153 (err_keep hb hvE) trivial _) (by simp)⟩

theorem regularElements_j10 : (Rows.fnExactRegularElementsRow.inPlace == Tryz.prog.inPlace 3) = true := by kernel_rfl
theorem regularElements_j11 : (Rows.fnExactRegularElementsRow.unfollowed == Tryz.prog.unfollowed 3) = true := by kernel_rfl
theorem regularElements_j12 : (Rows.fnExactRegularElementsRow.recurses == Tryz.prog.recurses 3) = true := by kernel_rfl
theorem regularElements_j13 : (Rows.fnExactRegularElementsRow.named == Tryz.prog.varsNamed 3) = true := by kernel_rfl
theorem regularElements_j5 : namedTie Tryz.prog Rows.fnExactRegularElementsRow.named Rows.fnExactRegularElementsSpec.vars = true := by kernel_rfl
theorem regularElements_j23 : (Rows.fnExactRegularElementsRow.plainKeys == Tryz.prog.plainKeys) = true := by kernel_rfl
theorem regularElements_j27 : (Rows.fnExactRegularElementsRow.lifted == Tryz.prog.liftsFinal) = true := by rw [jp_final]; rfl
theorem regularElements_j28 : (Tryz.prog.make == some Rows.fnExactRegularElementsRow.make) = true := by rw [jp_make]; rfl

theorem regularElements_closed : joinedFacts Tryz.prog 3 Tryz.f3 Rows.fnExactRegularElementsSpec Rows.fnExactRegularElementsRow = true :=
  joined_parts (by kernel_rfl) jp_laid jp_maps (by kernel_rfl) regularElements_j5 (by kernel_rfl) jp_stops (by kernel_rfl) jp_knobs regularElements_j10 regularElements_j11 regularElements_j12 regularElements_j13 (by kernel_rfl) (by kernel_rfl) (by kernel_rfl) (by kernel_rfl) (by kernel_rfl) (by kernel_rfl) (by kernel_rfl) (by kernel_rfl) (by kernel_rfl)
    regularElements_j23 (by kernel_rfl) jp_heard jp_enter regularElements_j27 regularElements_j28 (by kernel_rfl) (by kernel_rfl) (by kernel_rfl) (by kernel_rfl)

theorem regularElements_named : Tryz.pinned.checked.prog.funcNamed Rows.fnExactRegularElementsRow.func = some 3 := by kernel_rfl

theorem regularElements_holds : Rows.FnExactRegularElementsSaid :=
  OpenClaim.holds_of_wide 3 Tryz.f3 rfl rfl rfl rfl rfl rfl rfl ⟨rfl, rfl, rfl, rfl, rfl⟩ rfl rfl rfl rfl rfl regularElements_named Tryz.func3 regularElements_closed
    (of_decide_eq_true (by kernel_rfl)) (by unfold Func.isWrapper; first | (rw [if_pos (by decide +kernel)]; kernel_rfl) | (rw [if_neg (by decide +kernel)]; exact ⟨rfl, rfl⟩))
    (fun os started H enc _ => regularElements_lifted os started H enc)

theorem regularElements_cmain : Tryz.pinned.checked.prog.mainIs = some (Rows.fnExactRegularElementsCard.stood.harness.1, Rows.fnExactRegularElementsCard.stood.harness.2.toList) := by kernel_rfl
theorem regularElements_cwf : Rows.fnExactRegularElementsRow.wfByText (OpenSpec.ofChange Rows.fnExactRegularElementsSpec) = true := by kernel_rfl
theorem regularElements_clooks : false = Tryz.pinned.checked.prog.looks [] := by kernel_rfl
theorem regularElements_cgoes : false = Rows.fnExactRegularElementsRow.goesBy Tryz.pinned.checked.prog := by kernel_rfl

theorem regularElements_card : Rows.FnExactRegularElementsCardSaid :=
  Claim7.holds_tied_plain_at .later [] [.data, .sentinel] true Rows.fnExactRegularElementsCard.stood.harness false
    regularElements_holds (fun _ h => by cases h) regularElements_cwf (fun _ h => by cases h) fnExactRegularElements_row_tie rfl ⟨rfl, rfl⟩ regularElements_cmain rfl
    (fun f fn hf hfn => by
      obtain rfl : f = 3 := Option.some.inj (regularElements_named.symm.trans hf) |>.symm
      obtain rfl : fn = Tryz.f3 := (Option.some.inj (Tryz.func3.symm.trans hfn)).symm
      exact ⟨regularElements_clooks, fun j t ht => by
        rw [Tryz.params3] at ht
        have hm : t ∈ [24, 2, 27] := by simpa using Array.mem_of_getElem? ht
        have hall : ([24, 2, 27].all fun u => !Tryz.prog.wantsStandIn u) = true := by kernel_rfl
        exact (show Tryz.prog.wantsStandIn t = false by simpa using List.all_eq_true.1 hall t hm)⟩)
    regularElements_cgoes

end Go.Proofs.YtcdijeeabgmgmaaGreatDoor
