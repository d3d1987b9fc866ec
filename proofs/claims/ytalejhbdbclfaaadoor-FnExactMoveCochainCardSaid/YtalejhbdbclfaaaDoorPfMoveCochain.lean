/-
  At every value of each parameter that can be read (a group value, a module value, a cochain value, a number): FnExactMoveCochain answers true and its arguments read as before: MoveCochain answers as its model does. Condition: the package variables that the row lists lie as the program's text lays them (the card ties them).
-/
import Derived.Test.YtalejhbdbclfaaaDoorFra
import Derived.Test.YtalejhbdbclfaaaDoorJp
import Derived.Test.YtalejhbdbclfaaaDoorLwMoveCochain
import Derived.Test.YtalejhbdbclfaaaDoorUj
import Derived.Test.YtalejhbdbclfaaaDoorMz
import Derived.Test.YtalejhbdbclfaaaDoorFrs
import Derived.Test.YtalejhbdbclfaaaDoorCards
import Derived.Test.YtalejhbdbclfaaaDoorTie
namespace Go.Proofs.YtalejhbdbclfaaaDoor
open Go.ChangeShapes Go.WideShapes Go.ChangeAt Go.RowKit

set_option maxRecDepth 100000 in
theorem moveCochain_lifted (os : Os) (started : os.Started) (H : Type) (enc : TypeId × Value → H) :
    ReturnsInHanded {} Tryd.checked os 9 .any (fun w args => (Rows.fnExactMoveCochainSpec.pre enc Tryd.prog Tryd.f9 [] false w args ∧ laidMetH Tryd.prog laidErr w) ∧ sizedMet enc Tryd.prog Tryd.f9 (OpenSpec.ofChange Rows.fnExactMoveCochainSpec) false w args)
      (Rows.fnExactMoveCochainSpec.post enc Tryd.prog Tryd.f9 false true false false) := by
  refine returnsInHanded_of_change_and (C := Tryd.checked) (X := fun w _ => laidMetH Tryd.prog laidErr w) (fun _ _ _ hh h => h.of_heap hh) own_ started (by kernel_rfl) Tryd.func9
    (ChangeSpec.witness_shaped (enc := enc) (C := Tryd.checked) (os := os) (X := fun w _ => laidMetH Tryd.prog laidErr w) false (World.doorLaid Tryd.prog 400 os) #[.agg #[.slice none 0 0], .agg #[.int .i64 0, .slice none 0 0], .agg #[.int .i64 0, .slice none 0 0], .int .i64 0] 8 rfl (World.shaped_of_RefB (by kernel_rfl) (by kernel_rfl)) (by kernel_rfl) (by kernel_rfl) (by kernel_rfl) (laidErr_met os _)) ?_
  intro W base args ds gs before hval0 hW hcnd _ hL _
  have hval : ∀ (j : Nat) t v, Tryd.f9.params[j]? = some t → args[j]? = some v → Value.okWide Tryd.prog W .any base t v := hval0
  have hW' := hW
  obtain ⟨p, q, hA0, hV, rfl, hfz, hnd⟩ := hW
  have hA : DataW.TrodAll enc Tryd.prog W 0 (fun _ => true) true Tryd.f9.params.toList args.toList ds p := hA0
  rw [Tryd.params9] at hA hval
  obtain ⟨v0, v1, v2, v3, d0, d1, d2, d3, p0, p1, p2, p3, rfl, rfl, rfl, h0, h1, h2, h3⟩ := trodAll_four hA
  obtain ⟨aE, hvE⟩ := errVar_of hL
  have hV' : DataW.TrodVars enc Tryd.prog W (fun _ => true) [errName] gs q := hV
  obtain ⟨rfl, rfl⟩ := hV'.unique (vars_read1 enc gErr tErr Tryd.underlying187 hvE trivial _)
  obtain ⟨A0, t0, c0, rfl, hR0, hn0, hl0, _⟩ := open_group (hval 0 24 v0 rfl rfl) h0
  obtain ⟨m1, A1, t1, c1, rfl, hR1, hn1⟩ := open_module (hval 1 38 v1 rfl rfl) h1
  obtain ⟨m2, A2, t2, c2, rfl, hR2, hn2⟩ := open_cochain (hval 2 55 v2 rfl rfl) h2
  obtain ⟨m3, rfl, rfl, rfl, w3⟩ := open_int Tryd.underlying2 (hval 3 2 v3 rfl rfl) h3
  clear hA0 hval0 hV hV'
  simp only [List.append_nil] at hW'
  have hlt0 : ∀ x ∈ p0, x.block < W.heap.size := fun x hx => hW'.lt x (by simp [hx])
  have hlt1 : ∀ x ∈ p1, x.block < W.heap.size := fun x hx => hW'.lt x (by simp [hx])
  have hlt2 : ∀ x ∈ p2, x.block < W.heap.size := fun x hx => hW'.lt x (by simp [hx])
  refine (lawMoveCochain_any A0 t0 c0 m1 A1 t1 c1 m2 A2 t2 c2 m3 (qMoveCochain0 t0 m1 t1 m2 t2 m3) (yMoveCochain0 t0 m1 t1 m2 t2 m3) (qMoveCochain1 t0 m1 t1 m2 t2 m3) W hR0 hn0 hl0 hR1 hn1 hR2 hn2 (moveCochain_small0 t0 m1 t1 m2 t2 m3) (specMoveCochain_ex t0 m1 t1 m2 t2 m3) (implMoveCochain2_ex t0 m1 t1 m2 t2 m3)).mono fun e W' ⟨he, hb⟩ => ?_
  subst he
  exact ⟨_, rfl, law_postV (pa := p0 ++ (p1 ++ (p2 ++ ([])))) (pv := [.cell 0 0]) hW' hb rfl rfl (trodAll_mk4 (Below.trod laidOut_ (by kernel_rfl) (of_decide_eq_true (by kernel_rfl)) h0 hb hlt0) (Below.trod laidOut_ (by kernel_rfl) (of_decide_eq_true (by kernel_rfl)) h1 hb hlt1) (Below.trod laidOut_ (by kernel_rfl) (of_decide_eq_true (by kernel_rfl)) h2 hb hlt2) (shut_int Tryd.underlying2 w3)) (vars_read1 enc gErr tErr Tryd.underlying187 (var_keep hb hvE) trivial _) (by simp)⟩

theorem moveCochain_j10 : (Rows.fnExactMoveCochainRow.inPlace == Tryd.prog.inPlace 9) = true := by kernel_rfl
theorem moveCochain_j11 : (Rows.fnExactMoveCochainRow.unfollowed == Tryd.prog.unfollowed 9) = true := by kernel_rfl
theorem moveCochain_j12 : (Rows.fnExactMoveCochainRow.recurses == Tryd.prog.recurses 9) = true := by kernel_rfl
theorem moveCochain_j13 : (Rows.fnExactMoveCochainRow.named == Tryd.prog.varsNamed 9) = true := by kernel_rfl
theorem moveCochain_j5 : namedTie Tryd.prog Rows.fnExactMoveCochainRow.named Rows.fnExactMoveCochainSpec.vars = true := by kernel_rfl
theorem moveCochain_j23 : (Rows.fnExactMoveCochainRow.plainKeys == Tryd.prog.plainKeys) = true := by kernel_rfl
theorem moveCochain_j27 : (Rows.fnExactMoveCochainRow.lifted == Tryd.prog.liftsFinal) = true := by rw [jp_final]; rfl
theorem moveCochain_j28 : (Tryd.prog.make == some Rows.fnExactMoveCochainRow.make) = true := by rw [jp_make]; rfl

theorem moveCochain_closed : joinedFacts Tryd.prog 9 Tryd.f9 Rows.fnExactMoveCochainSpec Rows.fnExactMoveCochainRow = true :=
  joined_parts (by kernel_rfl) jp_laid jp_maps (by kernel_rfl) moveCochain_j5 (by kernel_rfl) jp_stops (by kernel_rfl) jp_knobs moveCochain_j10 moveCochain_j11 moveCochain_j12 moveCochain_j13 (by kernel_rfl) (by kernel_rfl) (by kernel_rfl) (by kernel_rfl) (by kernel_rfl) (by kernel_rfl) (by kernel_rfl) (by kernel_rfl) (by kernel_rfl)
    moveCochain_j23 (by kernel_rfl) jp_heard jp_enter moveCochain_j27 moveCochain_j28 (by kernel_rfl) (by kernel_rfl) (by kernel_rfl) (by kernel_rfl)

theorem moveCochain_named : Tryd.pinned.checked.prog.funcNamed Rows.fnExactMoveCochainRow.func = some 9 := by kernel_rfl

theorem moveCochain_holds : Rows.FnExactMoveCochainSaid :=
  OpenClaim.holds_of_wide 9 Tryd.f9 rfl rfl rfl rfl rfl rfl rfl ⟨rfl, rfl, rfl, rfl, rfl⟩ rfl rfl rfl rfl rfl moveCochain_named Tryd.func9 moveCochain_closed
    (of_decide_eq_true (by kernel_rfl)) (by unfold Func.isWrapper; first | (rw [if_pos (by decide +kernel)]; kernel_rfl) | (rw [if_neg (by decide +kernel)]; exact ⟨rfl, rfl⟩))
    (fun os started H enc _ => moveCochain_lifted os started H enc)

theorem moveCochain_cmain : Tryd.pinned.checked.prog.mainIs = some (Rows.fnExactMoveCochainCard.stood.harness.1, Rows.fnExactMoveCochainCard.stood.harness.2.toList) := by kernel_rfl
theorem moveCochain_cwf : Rows.fnExactMoveCochainRow.wfByText (OpenSpec.ofChange Rows.fnExactMoveCochainSpec) = true := by kernel_rfl
theorem moveCochain_clooks : false = Tryd.pinned.checked.prog.looks [] := by kernel_rfl
theorem moveCochain_cgoes : false = Rows.fnExactMoveCochainRow.goesBy Tryd.pinned.checked.prog := by kernel_rfl

theorem moveCochain_card : Rows.FnExactMoveCochainCardSaid :=
  Claim7.holds_tied_plain_at .later [] [.sentinel] true Rows.fnExactMoveCochainCard.stood.harness false
    moveCochain_holds (fun _ h => by cases h) moveCochain_cwf (fun _ h => by cases h) fnExactMoveCochain_row_tie rfl ⟨rfl, rfl⟩ moveCochain_cmain rfl
    (fun f fn hf hfn => by
      obtain rfl : f = 9 := Option.some.inj (moveCochain_named.symm.trans hf) |>.symm
      obtain rfl : fn = Tryd.f9 := (Option.some.inj (Tryd.func9.symm.trans hfn)).symm
      exact ⟨moveCochain_clooks, fun j t ht => by
        rw [Tryd.params9] at ht
        have hm : t ∈ [24, 38, 55, 2] := by simpa using Array.mem_of_getElem? ht
        have hall : ([24, 38, 55, 2].all fun u => !Tryd.prog.wantsStandIn u) = true := by kernel_rfl
        exact (show Tryd.prog.wantsStandIn t = false by simpa using List.all_eq_true.1 hall t hm)⟩)
    moveCochain_cgoes

end Go.Proofs.YtalejhbdbclfaaaDoor
