/-
  At every value of each parameter that can be read (a group value, a module value, a number, a cochain value): FnExactConnectingCochain answers true and its arguments read as before: ConnectingCochain answers as its model does. Condition: the package variables that the row lists lie as the program's text lays them (the card ties them).
-/
import Derived.Test.YtllkaoacfchibaaGreatDoorFra
import Derived.Test.YtllkaoacfchibaaGreatDoorJp
import Derived.Test.YtllkaoacfchibaaGreatDoorLwConnectingCochain
import Derived.Test.YtllkaoacfchibaaGreatDoorWo
import Derived.Test.YtllkaoacfchibaaGreatDoorWp
import Derived.Test.YtllkaoacfchibaaGreatDoorFrSr
import Derived.Test.YtllkaoacfchibaaGreatDoorCards
import Derived.Test.YtllkaoacfchibaaGreatDoorTie
namespace Go.Proofs.YtllkaoacfchibaaGreatDoor
open Go.ChangeShapes Go.WideShapes Go.ChangeAt Go.RowKit

set_option maxRecDepth 100000 in
theorem connectingCochain_lifted (os : Os) (started : os.Started) (H : Type) (enc : TypeId × Value → H) :
    ReturnsInHanded {} Tryz.checked os 3 .any (fun w args => (Rows.fnExactConnectingCochainSpec.pre enc Tryz.prog Tryz.f3 [] false w args ∧ laidMetH Tryz.prog laidSr w) ∧ sizedMet enc Tryz.prog Tryz.f3 (OpenSpec.ofChange Rows.fnExactConnectingCochainSpec) false w args)
      (Rows.fnExactConnectingCochainSpec.post enc Tryz.prog Tryz.f3 false true false false) := by
  refine returnsInHanded_of_change_and (C := Tryz.checked) (X := fun w _ => laidMetH Tryz.prog laidSr w) (fun _ _ _ hh h => h.of_heap hh) own_ started (by kernel_rfl) Tryz.func3
    (ChangeSpec.witness_shaped (enc := enc) (C := Tryz.checked) (os := os) (X := fun w _ => laidMetH Tryz.prog laidSr w) false (World.doorLaid Tryz.prog 400 os) #[.agg #[.slice none 0 0], .agg #[.int .i64 0, .slice none 0 0], .int .i64 0, .agg #[.int .i64 0, .slice none 0 0]] 8 rfl (World.shaped_of_RefB (by kernel_rfl) (by kernel_rfl)) (by kernel_rfl) (by kernel_rfl) (by kernel_rfl) (laidSr_met os _)) ?_
  intro W base args ds gs before hval0 hW hcnd _ hL _
  have hval : ∀ (j : Nat) t v, Tryz.f3.params[j]? = some t → args[j]? = some v → Value.okWide Tryz.prog W .any base t v := hval0
  have hW' := hW
  obtain ⟨p, q, hA0, hV, rfl, hfz, hnd⟩ := hW
  have hA : DataW.TrodAll enc Tryz.prog W 0 (fun _ => true) true Tryz.f3.params.toList args.toList ds p := hA0
  rw [Tryz.params3] at hA hval
  obtain ⟨v0, v1, v2, v3, d0, d1, d2, d3, p0, p1, p2, p3, rfl, rfl, rfl, h0, h1, h2, h3⟩ := trodAll_four hA
  obtain ⟨aD, hvD⟩ := divVar_of hL
  obtain ⟨aE, hvE⟩ := errVar_of hL
  have hV' : DataW.TrodVars enc Tryz.prog W (fun _ => true) [divName, errName] gs q := hV
  obtain ⟨rfl, rfl⟩ := hV'.unique (vars_read2 enc g_div t_div Tryz.underlying201 hvD trivial g_err t_err Tryz.underlying201 hvE trivial _)
  obtain ⟨A0, t0, c0, rfl, hR0, hn0, hl0, _⟩ := open_group (hval 0 24 v0 rfl rfl) h0
  obtain ⟨m1, A1, t1, c1, rfl, hR1, hn1⟩ := open_module (hval 1 27 v1 rfl rfl) h1
  obtain ⟨m2, rfl, rfl, rfl, w2⟩ := open_int Tryz.underlying2 (hval 2 2 v2 rfl rfl) h2
  obtain ⟨m3, A3, t3, c3, rfl, hR3, hn3⟩ := open_cochain (hval 3 29 v3 rfl rfl) h3
  clear hA0 hval0 hV hV'
  simp only [List.append_nil] at hW'
  have hlt0 : ∀ x ∈ p0, x.block < W.heap.size := fun x hx => hW'.lt x (by simp [hx])
  have hlt1 : ∀ x ∈ p1, x.block < W.heap.size := fun x hx => hW'.lt x (by simp [hx])
  have hlt3 : ∀ x ∈ p3, x.block < W.heap.size := fun x hx => hW'.lt x (by simp [hx])
  refine (lawConnectingCochain_any A0 t0 c0 m1 A1 t1 c1 m2 m3 A3 t3 c3 (qConnectingCochain0 t0 m1 t1 m2 m3 t3) (yConnectingCochain0 t0 m1 t1 m2 m3 t3) (qConnectingCochain1 t0 m1 t1 m2 m3 t3) W hR0 hn0 hl0 hR1 hn1 hR3 hn3 (connectingCochain_small0 t0 m1 t1 m2 m3 t3) (divL_of hL) (specConnectingCochain_ex t0 m1 t1 m2 m3 t3) (implConnectingCochain_ex t0 m1 t1 m2 m3 t3)).mono fun e W' ⟨he, hb⟩ => ?_
  subst he
  exact ⟨_, rfl, law_postV (pa := p0 ++ (p1 ++ ([] ++ (p3)))) (pv := [.cell 0 0, .cell 1 0]) hW' hb rfl rfl (trodAll_mk4 (Below.trod laidOut_ (by kernel_rfl) (of_decide_eq_true (by kernel_rfl)) h0 hb hlt0) (Below.trod laidOut_ (by kernel_rfl) (of_decide_eq_true (by kernel_rfl)) h1 hb hlt1) (shut_int Tryz.underlying2 w2) (Below.trod laidOut_ (by kernel_rfl) (of_decide_eq_true (by kernel_rfl)) h3 hb hlt3)) (vars_read2 enc g_div t_div Tryz.underlying201 (div_keep hb hvD) trivial g_err t_err Tryz.underlying201 (err_keep hb hvE) trivial _) (by simp)⟩

theorem connectingCochain_j10 : (Rows.fnExactConnectingCochainRow.inPlace == Tryz.prog.inPlace 3) = true := by kernel_rfl
theorem connectingCochain_j11 : (Rows.fnExactConnectingCochainRow.unfollowed == Tryz.prog.unfollowed 3) = true := by kernel_rfl
theorem connectingCochain_j12 : (Rows.fnExactConnectingCochainRow.recurses == Tryz.prog.recurses 3) = true := by kernel_rfl
theorem connectingCochain_j13 : (Rows.fnExactConnectingCochainRow.named == Tryz.prog.varsNamed 3) = true := by kernel_rfl
theorem connectingCochain_j5 : namedTie Tryz.prog Rows.fnExactConnectingCochainRow.named Rows.fnExactConnectingCochainSpec.vars = true := by kernel_rfl
theorem connectingCochain_j23 : (Rows.fnExactConnectingCochainRow.plainKeys == Tryz.prog.plainKeys) = true := by kernel_rfl
theorem connectingCochain_j27 : (Rows.fnExactConnectingCochainRow.lifted == Tryz.prog.liftsFinal) = true := by rw [jp_final]; rfl
theorem connectingCochain_j28 : (Tryz.prog.make == some Rows.fnExactConnectingCochainRow.make) = true := by rw [jp_make]; rfl

theorem connectingCochain_closed : joinedFacts Tryz.prog 3 Tryz.f3 Rows.fnExactConnectingCochainSpec Rows.fnExactConnectingCochainRow = true :=
  joined_parts (by kernel_rfl) jp_laid jp_maps (by kernel_rfl) connectingCochain_j5 (by kernel_rfl) jp_stops (by kernel_rfl) jp_knobs connectingCochain_j10 connectingCochain_j11 connectingCochain_j12 connectingCochain_j13 (by kernel_rfl) (by kernel_rfl) (by kernel_rfl) (by kernel_rfl) (by kernel_rfl) (by kernel_rfl) (by kernel_rfl) (by kernel_rfl) (by kernel_rfl)
    connectingCochain_j23 (by kernel_rfl) jp_heard jp_enter connectingCochain_j27 connectingCochain_j28 (by kernel_rfl) (by kernel_rfl) (by kernel_rfl) (by kernel_rfl)

theorem connectingCochain_named : Tryz.pinned.checked.prog.funcNamed Rows.fnExactConnectingCochainRow.func = some 3 := by kernel_rfl

theorem connectingCochain_holds : Rows.FnExactConnectingCochainSaid :=
  OpenClaim.holds_of_wide 3 Tryz.f3 rfl rfl rfl rfl rfl rfl rfl ⟨rfl, rfl, rfl, rfl, rfl⟩ rfl rfl rfl rfl rfl connectingCochain_named Tryz.func3 connectingCochain_closed
    (of_decide_eq_true (by kernel_rfl)) (by unfold Func.isWrapper; first | (rw [if_pos (by decide +kernel)]; kernel_rfl) | (rw [if_neg (by decide +kernel)]; exact ⟨rfl, rfl⟩))
    (fun os started H enc _ => connectingCochain_lifted os started H enc)

theorem connectingCochain_cmain : Tryz.pinned.checked.prog.mainIs = some (Rows.fnExactConnectingCochainCard.stood.harness.1, Rows.fnExactConnectingCochainCard.stood.harness.2.toList) := by kernel_rfl
theorem connectingCochain_cwf : Rows.fnExactConnectingCochainRow.wfByText (OpenSpec.ofChange Rows.fnExactConnectingCochainSpec) = true := by kernel_rfl
theorem connectingCochain_clooks : true = Tryz.pinned.checked.prog.looks [] := by kernel_rfl
theorem connectingCochain_cgoes : false = Rows.fnExactConnectingCochainRow.goesBy Tryz.pinned.checked.prog := by kernel_rfl

theorem connectingCochain_card : Rows.FnExactConnectingCochainCardSaid :=
  Claim7.holds_tied_plain_at .later [] [.sentinel, .sentinel] true Rows.fnExactConnectingCochainCard.stood.harness true
    connectingCochain_holds (fun _ h => by cases h) connectingCochain_cwf (fun _ h => by cases h) fnExactConnectingCochain_row_tie rfl ⟨rfl, rfl⟩ connectingCochain_cmain rfl
    (fun f fn hf hfn => by
      obtain rfl : f = 3 := Option.some.inj (connectingCochain_named.symm.trans hf) |>.symm
      obtain rfl : fn = Tryz.f3 := (Option.some.inj (Tryz.func3.symm.trans hfn)).symm
      exact ⟨connectingCochain_clooks, fun j t ht => by
        rw [Tryz.params3] at ht
        have hm : t ∈ [24, 27, 2, 29] := by simpa using Array.mem_of_getElem? ht
        have hall : ([24, 27, 2, 29].all fun u => !Tryz.prog.wantsStandIn u) = true := by kernel_rfl
        exact (show Tryz.prog.wantsStandIn t = false by simpa using List.all_eq_true.1 hall t hm)⟩)
    connectingCochain_cgoes

end Go.Proofs.YtllkaoacfchibaaGreatDoor
