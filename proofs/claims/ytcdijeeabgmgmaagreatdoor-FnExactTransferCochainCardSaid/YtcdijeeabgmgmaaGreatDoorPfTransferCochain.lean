/-
  At every value of each parameter that can be read (a group value, a module value, a list of numbers, a cochain value): FnExactTransferCochain answers true and its arguments read as before: TransferCochain answers as its model does. Condition: the package variables that the row lists lie as the program's text lays them (the card ties them).
-/
import Derived.Test.YtcdijeeabgmgmaaGreatDoorFra
import Derived.Test.YtcdijeeabgmgmaaGreatDoorJp
import Derived.Test.YtcdijeeabgmgmaaGreatDoorLwTransferCochain
import Derived.Test.YtcdijeeabgmgmaaGreatDoorTc
import Derived.Test.YtcdijeeabgmgmaaGreatDoorFrTw
import Derived.Test.YtcdijeeabgmgmaaGreatDoorCards
import Derived.Test.YtcdijeeabgmgmaaGreatDoorTie
namespace Go.Proofs.YtcdijeeabgmgmaaGreatDoor
open Go.ChangeShapes Go.WideShapes Go.ChangeAt Go.RowKit

set_option maxRecDepth 100000 in
theorem transferCochain_lifted (os : Os) (started : os.Started) (H : Type) (enc : TypeId × Value → H) :
    ReturnsInHanded {} Tryz.checked os 5 .any (fun w args => (Rows.fnExactTransferCochainSpec.pre enc Tryz.prog Tryz.f5 [] false w args ∧ laidMetH Tryz.prog laidTw w) ∧ sizedMet enc Tryz.prog Tryz.f5 (OpenSpec.ofChange Rows.fnExactTransferCochainSpec) false w args)
      (Rows.fnExactTransferCochainSpec.post enc Tryz.prog Tryz.f5 false true false false) := by
  refine returnsInHanded_of_change_and (C := Tryz.checked) (X := fun w _ => laidMetH Tryz.prog laidTw w) (fun _ _ _ hh h => h.of_heap hh) own_ started (by kernel_rfl) Tryz.func5
    (ChangeSpec.witness_shaped (enc := enc) (C := Tryz.checked) (os := os) (X := fun w _ => laidMetH Tryz.prog laidTw w) false (World.doorLaid Tryz.prog 400 os) #[.agg #[.slice none 0 0], .agg #[.int .i64 0, .slice none 0 0], .slice none 0 0, .agg #[.int .i64 0, .slice none 0 0]] 8 rfl (World.shaped_of_RefB (by kernel_rfl) (by kernel_rfl)) (by kernel_rfl) (by kernel_rfl) (by kernel_rfl) (laidTw_met os _)) ?_
  intro W base args ds gs before hval0 hW hcnd _ hL _
  have hval : ∀ (j : Nat) t v, Tryz.f5.params[j]? = some t → args[j]? = some v → Value.okWide Tryz.prog W .any base t v := hval0
  have hW' := hW
  obtain ⟨p, q, hA0, hV, rfl, hfz, hnd⟩ := hW
  have hA : DataW.TrodAll enc Tryz.prog W 0 (fun _ => true) true Tryz.f5.params.toList args.toList ds p := hA0
  rw [Tryz.params5] at hA hval
  obtain ⟨v0, v1, v2, v3, d0, d1, d2, d3, p0, p1, p2, p3, rfl, rfl, rfl, h0, h1, h2, h3⟩ := trodAll_four hA
  obtain ⟨aE, hvE⟩ := errVar_of hL
  have hV' : DataW.TrodVars enc Tryz.prog W (fun _ => true) [errName] gs q := hV
  obtain ⟨rfl, rfl⟩ := hV'.unique (vars_read1 enc g_err t_err Tryz.underlying153 hvE trivial _)
  obtain ⟨A0, t0, c0, rfl, hR0, hn0, hl0, _⟩ := open_group (hval 0 24 v0 rfl rfl) h0
  obtain ⟨m1, A1, t1, c1, rfl, hR1, hn1⟩ := open_module (hval 1 48 v1 rfl rfl) h1
  obtain ⟨A2, t2, c2, rfl, hR2, hn2⟩ := open_list (hval 2 25 v2 rfl rfl) h2
  obtain ⟨m3, A3, t3, c3, rfl, hR3, hn3⟩ := open_cochain (hval 3 27 v3 rfl rfl) h3
  clear hA0 hval0 hV hV'
  simp only at hW'
  have hlt0 : ∀ x ∈ p0, x.block < W.heap.size := fun x hx => hW'.lt x (by simp [hx])
  have hlt1 : ∀ x ∈ p1, x.block < W.heap.size := fun x hx => hW'.lt x (by simp [hx])
  have hlt2 : ∀ x ∈ p2, x.block < W.heap.size := fun x hx => hW'.lt x (by simp [hx])
  have hlt3 : ∀ x ∈ p3, x.block < W.heap.size := fun x hx => hW'.lt x (by simp [hx])
  refine (lawTransferCochain_any A0 t0 c0 m1 A1 t1 c1 A2 t2 c2 m3 A3 t3 c3 (qTransferCochain0 t0 m1 t1 t2 m3 t3) (yTransferCochain0 t0 m1 t1 t2 m3 t3) (qTransferCochain1 t0 m1 t1 t2 m3 t3) W hR0 hn0 hl0 hR1 hn1 hR2 hn2 hR3 hn3 (transferCochain_small0 t0 m1 t1 t2 m3 t3) (tabL_of hL) (specTransferCochain_ex t0 m1 t1 t2 m3 t3) (implTransferCochain_ex t0 m1 t1 t2 m3 t3)).mono fun e W' ⟨he, hb⟩ => ?_
  subst he
  exact ⟨_, rfl, law_postV (pa := p0 ++ (p1 ++ (p2 ++ (p3)))) (pv := [.cell 0 0]) hW' hb rfl rfl (trodAll_mk4 (Below.trod laidOut_ (by kernel_rfl) (of_decide_eq_true (by kernel_rfl)) h0 hb hlt0) (Below.trod laidOut_ (by kernel_rfl) (of_decide_eq_true (by kernel_rfl)) h1 hb hlt1) (Below.trod laidOut_ (by kernel_rfl) (of_decide_eq_true (by kernel_rfl)) h2 hb hlt2) (Below.trod laidOut_ (by kernel_rfl) (of_decide_eq_true (by kernel_rfl)) h3 hb hlt3)) (vars_read1 enc g_err t_err Tryz.underlying153 (err_keep hb hvE) trivial _) (by simp)⟩

theorem transferCochain_j10 : (Rows.fnExactTransferCochainRow.inPlace == Tryz.prog.inPlace 5) = true := by kernel_rfl
theorem transferCochain_j11 : (Rows.fnExactTransferCochainRow.unfollowed == Tryz.prog.unfollowed 5) = true := by kernel_rfl
theorem transferCochain_j12 : (Rows.fnExactTransferCochainRow.recurses == Tryz.prog.recurses 5) = true := by kernel_rfl
theorem transferCochain_j13 : (Rows.fnExactTransferCochainRow.named == Tryz.prog.varsNamed 5) = true := by kernel_rfl
theorem transferCochain_j5 : namedTie Tryz.prog Rows.fnExactTransferCochainRow.named Rows.fnExactTransferCochainSpec.vars = true := by kernel_rfl
theorem transferCochain_j23 : (Rows.fnExactTransferCochainRow.plainKeys == Tryz.prog.plainKeys) = true := by kernel_rfl
theorem transferCochain_j27 : (Rows.fnExactTransferCochainRow.lifted == Tryz.prog.liftsFinal) = true := by rw [jp_final]; rfl
theorem transferCochain_j28 : (Tryz.prog.make == some Rows.fnExactTransferCochainRow.make) = true := by rw [jp_make]; rfl

theorem transferCochain_closed : joinedFacts Tryz.prog 5 Tryz.f5 Rows.fnExactTransferCochainSpec Rows.fnExactTransferCochainRow = true :=
  joined_parts (by kernel_rfl) jp_laid jp_maps (by kernel_rfl) transferCochain_j5 (by kernel_rfl) jp_stops (by kernel_rfl) jp_knobs transferCochain_j10 transferCochain_j11 transferCochain_j12 transferCochain_j13 (by kernel_rfl) (by kernel_rfl) (by kernel_rfl) (by kernel_rfl) (by kernel_rfl) (by kernel_rfl) (by kernel_rfl) (by kernel_rfl) (by kernel_rfl)
    transferCochain_j23 (by kernel_rfl) jp_heard jp_enter transferCochain_j27 transferCochain_j28 (by kernel_rfl) (by kernel_rfl) (by kernel_rfl) (by kernel_rfl)

theorem transferCochain_named : Tryz.pinned.checked.prog.funcNamed Rows.fnExactTransferCochainRow.func = some 5 := by kernel_rfl

theorem transferCochain_holds : Rows.FnExactTransferCochainSaid :=
  OpenClaim.holds_of_wide 5 Tryz.f5 rfl rfl rfl rfl rfl rfl rfl ⟨rfl, rfl, rfl, rfl, rfl⟩ rfl rfl rfl rfl rfl transferCochain_named Tryz.func5 transferCochain_closed
    (of_decide_eq_true (by kernel_rfl)) (by unfold Func.isWrapper; first | (rw [if_pos (by decide +kernel)]; kernel_rfl) | (rw [if_neg (by decide +kernel)]; exact ⟨rfl, rfl⟩))
    (fun os started H enc _ => transferCochain_lifted os started H enc)

theorem transferCochain_cmain : Tryz.pinned.checked.prog.mainIs = some (Rows.fnExactTransferCochainCard.stood.harness.1, Rows.fnExactTransferCochainCard.stood.harness.2.toList) := by kernel_rfl
theorem transferCochain_cwf : Rows.fnExactTransferCochainRow.wfByText (OpenSpec.ofChange Rows.fnExactTransferCochainSpec) = true := by kernel_rfl
theorem transferCochain_clooks : false = Tryz.pinned.checked.prog.looks [] := by kernel_rfl
theorem transferCochain_cgoes : false = Rows.fnExactTransferCochainRow.goesBy Tryz.pinned.checked.prog := by kernel_rfl

theorem transferCochain_card : Rows.FnExactTransferCochainCardSaid :=
  Claim7.holds_tied_plain_at .later [] [.data, .sentinel] true Rows.fnExactTransferCochainCard.stood.harness false
    transferCochain_holds (fun _ h => by cases h) transferCochain_cwf (fun _ h => by cases h) fnExactTransferCochain_row_tie rfl ⟨rfl, rfl⟩ transferCochain_cmain rfl
    (fun f fn hf hfn => by
      obtain rfl : f = 5 := Option.some.inj (transferCochain_named.symm.trans hf) |>.symm
      obtain rfl : fn = Tryz.f5 := (Option.some.inj (Tryz.func5.symm.trans hfn)).symm
      exact ⟨transferCochain_clooks, fun j t ht => by
        rw [Tryz.params5] at ht
        have hm : t ∈ [24, 48, 25, 27] := by simpa using Array.mem_of_getElem? ht
        have hall : ([24, 48, 25, 27].all fun u => !Tryz.prog.wantsStandIn u) = true := by kernel_rfl
        exact (show Tryz.prog.wantsStandIn t = false by simpa using List.all_eq_true.1 hall t hm)⟩)
    transferCochain_cgoes

end Go.Proofs.YtcdijeeabgmgmaaGreatDoor
