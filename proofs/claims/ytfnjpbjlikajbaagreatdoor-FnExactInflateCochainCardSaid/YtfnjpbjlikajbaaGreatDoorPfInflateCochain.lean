/-
  At every value of each parameter that can be read (a group value, a list of numbers, a module value, a cochain value): FnExactInflateCochain answers true and its arguments read as before: InflateCochain answers as its model does. Condition: the package variables that the row lists lie as the program's text lays them (the card ties them).
-/
import Derived.Test.YtfnjpbjlikajbaaGreatDoorFra
import Derived.Test.YtfnjpbjlikajbaaGreatDoorJp
import Derived.Test.YtfnjpbjlikajbaaGreatDoorLwInflateCochain
import Derived.Test.YtfnjpbjlikajbaaGreatDoorNc
import Derived.Test.YtfnjpbjlikajbaaGreatDoorFrTw
import Derived.Test.YtfnjpbjlikajbaaGreatDoorCards
import Derived.Test.YtfnjpbjlikajbaaGreatDoorTie
namespace Go.Proofs.YtfnjpbjlikajbaaGreatDoor
open Go.ChangeShapes Go.WideShapes Go.ChangeAt Go.RowKit

set_option maxRecDepth 100000 in
theorem inflateCochain_lifted (os : Os) (started : os.Started) (H : Type) (enc : TypeId × Value → H) :
    ReturnsInHanded {} Tryz.checked os 4 .any (fun w args => (Rows.fnExactInflateCochainSpec.pre enc Tryz.prog Tryz.f4 [] false w args ∧ laidMetH Tryz.prog laidTw w) ∧ sizedMet enc Tryz.prog Tryz.f4 (OpenSpec.ofChange Rows.fnExactInflateCochainSpec) false w args)
      (Rows.fnExactInflateCochainSpec.post enc Tryz.prog Tryz.f4 false true false false) := by
  refine returnsInHanded_of_change_and (C := Tryz.checked) (X := fun w _ => laidMetH Tryz.prog laidTw w) (fun _ _ _ hh h => h.of_heap hh) own_ started (by kernel_rfl) Tryz.func4
    (ChangeSpec.witness_shaped (enc := enc) (C := Tryz.checked) (os := os) (X := fun w _ => laidMetH Tryz.prog laidTw w) false (World.doorLaid Tryz.prog 400 os) #[.agg #[.slice none 0 0], .slice none 0 0, .agg #[.int .i64 0, .slice none 0 0], .agg #[.int .i64 0, .slice none 0 0]] 8 rfl (World.shaped_of_RefB (by kernel_rfl) (by kernel_rfl)) (by kernel_rfl) (by kernel_rfl) (by kernel_rfl) (laidTw_met os _)) ?_
  intro W base args ds gs before hval0 hW hcnd _ hL _
  have hval : ∀ (j : Nat) t v, Tryz.f4.params[j]? = some t → args[j]? = some v → Value.okWide Tryz.prog W .any base t v := hval0
  have hW' := hW
  obtain ⟨p, q, hA0, hV, rfl, hfz, hnd⟩ := hW
  have hA : DataW.TrodAll enc Tryz.prog W 0 (fun _ => true) true Tryz.f4.params.toList args.toList ds p := hA0
  rw [Tryz.params4] at hA hval
  obtain ⟨v0, v1, v2, v3, d0, d1, d2, d3, p0, p1, p2, p3, rfl, rfl, rfl, h0, h1, h2, h3⟩ := trodAll_four hA
  obtain ⟨aE, hvE⟩ := errVar_of hL
  have hV' : DataW.TrodVars enc Tryz.prog W (fun _ => true) [errName] gs q := hV
  obtain ⟨rfl, rfl⟩ := hV'.unique (vars_read1 enc g_err t_err Tryz.underlying149 hvE trivial _)
  obtain ⟨A0, t0, c0, rfl, hR0, hn0, hl0, _⟩ := open_group (hval 0 24 v0 rfl rfl) h0
  obtain ⟨A1, t1, c1, rfl, hR1, hn1⟩ := open_list (hval 1 25 v1 rfl rfl) h1
  obtain ⟨m2, A2, t2, c2, rfl, hR2, hn2⟩ := open_module (hval 2 27 v2 rfl rfl) h2
  obtain ⟨m3, A3, t3, c3, rfl, hR3, hn3⟩ := open_cochain (hval 3 29 v3 rfl rfl) h3
  clear hA0 hval0 hV hV'
  simp only at hW'
  have hlt0 : ∀ x ∈ p0, x.block < W.heap.size := fun x hx => hW'.lt x (by simp [hx])
  have hlt1 : ∀ x ∈ p1, x.block < W.heap.size := fun x hx => hW'.lt x (by simp [hx])
  have hlt2 : ∀ x ∈ p2, x.block < W.heap.size := fun x hx => hW'.lt x (by simp [hx])
  have hlt3 : ∀ x ∈ p3, x.block < W.heap.size := fun x hx => hW'.lt x (by simp [hx])
  refine (lawInflateCochain_any A0 t0 c0 A1 t1 c1 m2 A2 t2 c2 m3 A3 t3 c3 (qInflateCochain0 t0 t1 m2 t2 m3 t3) (yInflateCochain0 t0 t1 m2 t2 m3 t3) (qInflateCochain1 t0 t1 m2 t2 m3 t3) (yInflateCochain1 t0 t1 m2 t2 m3 t3) (qInflateCochain2 t0 t1 m2 t2 m3 t3) W hR0 hn0 hl0 hR1 hn1 hR2 hn2 hR3 hn3 (inflateCochain_small0 t0 t1 m2 t2 m3 t3) (inflateCochain_small1 t0 t1 m2 t2 m3 t3) (tabL_of hL) (specInflateCochain_ex t0 t1 m2 t2 m3 t3) (implInflateCochain_ex t0 t1 m2 t2 m3 t3)).mono fun e W' ⟨he, hb⟩ => ?_
  subst he
  exact ⟨_, rfl, law_postV (pa := p0 ++ (p1 ++ (p2 ++ (p3)))) (pv := [.cell 0 0]) hW' hb rfl rfl (trodAll_mk4 (Below.trod laidOut_ (by kernel_rfl) (of_decide_eq_true (by kernel_rfl)) h0 hb hlt0) (Below.trod laidOut_ (by kernel_rfl) (of_decide_eq_true (by kernel_rfl)) h1 hb hlt1) (Below.trod laidOut_ (by kernel_rfl) (of_decide_eq_true (by kernel_rfl)) h2 hb hlt2) (Below.trod laidOut_ (by kernel_rfl) (of_decide_eq_true (by kernel_rfl)) h3 hb hlt3)) (vars_read1 enc g_err t_err Tryz.underlying149 (err_keep hb hvE) trivial _) (by simp)⟩

theorem inflateCochain_j10 : (Rows.fnExactInflateCochainRow.inPlace == Tryz.prog.inPlace 4) = true := by kernel_rfl
theorem inflateCochain_j11 : (Rows.fnExactInflateCochainRow.unfollowed == Tryz.prog.unfollowed 4) = true := by kernel_rfl
theorem inflateCochain_j12 : (Rows.fnExactInflateCochainRow.recurses == Tryz.prog.recurses 4) = true := by kernel_rfl
theorem inflateCochain_j13 : (Rows.fnExactInflateCochainRow.named == Tryz.prog.varsNamed 4) = true := by kernel_rfl
theorem inflateCochain_j5 : namedTie Tryz.prog Rows.fnExactInflateCochainRow.named Rows.fnExactInflateCochainSpec.vars = true := by kernel_rfl
theorem inflateCochain_j23 : (Rows.fnExactInflateCochainRow.plainKeys == Tryz.prog.plainKeys) = true := by kernel_rfl
theorem inflateCochain_j27 : (Rows.fnExactInflateCochainRow.lifted == Tryz.prog.liftsFinal) = true := by rw [jp_final]; rfl
theorem inflateCochain_j28 : (Tryz.prog.make == some Rows.fnExactInflateCochainRow.make) = true := by rw [jp_make]; rfl

theorem inflateCochain_closed : joinedFacts Tryz.prog 4 Tryz.f4 Rows.fnExactInflateCochainSpec Rows.fnExactInflateCochainRow = true :=
  joined_parts (by kernel_rfl) jp_laid jp_maps (by kernel_rfl) inflateCochain_j5 (by kernel_rfl) jp_stops (by kernel_rfl) jp_knobs inflateCochain_j10 inflateCochain_j11 inflateCochain_j12 inflateCochain_j13 (by kernel_rfl) (by kernel_rfl) (by kernel_rfl) (by kernel_rfl) (by kernel_rfl) (by kernel_rfl) (by kernel_rfl) (by kernel_rfl) (by kernel_rfl)
    inflateCochain_j23 (by kernel_rfl) jp_heard jp_enter inflateCochain_j27 inflateCochain_j28 (by kernel_rfl) (by kernel_rfl) (by kernel_rfl) (by kernel_rfl)

theorem inflateCochain_named : Tryz.pinned.checked.prog.funcNamed Rows.fnExactInflateCochainRow.func = some 4 := by kernel_rfl

theorem inflateCochain_holds : Rows.FnExactInflateCochainSaid :=
  OpenClaim.holds_of_wide 4 Tryz.f4 rfl rfl rfl rfl rfl rfl rfl ⟨rfl, rfl, rfl, rfl, rfl⟩ rfl rfl rfl rfl rfl inflateCochain_named Tryz.func4 inflateCochain_closed
    (of_decide_eq_true (by kernel_rfl)) (by unfold Func.isWrapper; first | (rw [if_pos (by decide +kernel)]; kernel_rfl) | (rw [if_neg (by decide +kernel)]; exact ⟨rfl, rfl⟩))
    (fun os started H enc _ => inflateCochain_lifted os started H enc)

theorem inflateCochain_cmain : Tryz.pinned.checked.prog.mainIs = some (Rows.fnExactInflateCochainCard.stood.harness.1, Rows.fnExactInflateCochainCard.stood.harness.2.toList) := by kernel_rfl
theorem inflateCochain_cwf : Rows.fnExactInflateCochainRow.wfByText (OpenSpec.ofChange Rows.fnExactInflateCochainSpec) = true := by kernel_rfl
theorem inflateCochain_clooks : false = Tryz.pinned.checked.prog.looks [] := by kernel_rfl
theorem inflateCochain_cgoes : false = Rows.fnExactInflateCochainRow.goesBy Tryz.pinned.checked.prog := by kernel_rfl

theorem inflateCochain_card : Rows.FnExactInflateCochainCardSaid :=
  Claim7.holds_tied_plain_at .later [] [.data, .sentinel] true Rows.fnExactInflateCochainCard.stood.harness false
    inflateCochain_holds (fun _ h => by cases h) inflateCochain_cwf (fun _ h => by cases h) fnExactInflateCochain_row_tie rfl ⟨rfl, rfl⟩ inflateCochain_cmain rfl
    (fun f fn hf hfn => by
      obtain rfl : f = 4 := Option.some.inj (inflateCochain_named.symm.trans hf) |>.symm
      obtain rfl : fn = Tryz.f4 := (Option.some.inj (Tryz.func4.symm.trans hfn)).symm
      exact ⟨inflateCochain_clooks, fun j t ht => by
        rw [Tryz.params4] at ht
        have hm : t ∈ [24, 25, 27, 29] := by simpa using Array.mem_of_getElem? ht
        have hall : ([24, 25, 27, 29].all fun u => !Tryz.prog.wantsStandIn u) = true := by kernel_rfl
        exact (show Tryz.prog.wantsStandIn t = false by simpa using List.all_eq_true.1 hall t hm)⟩)
    inflateCochain_cgoes

end Go.Proofs.YtfnjpbjlikajbaaGreatDoor
