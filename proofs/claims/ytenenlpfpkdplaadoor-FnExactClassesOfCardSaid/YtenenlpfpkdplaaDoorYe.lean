/- ClassesOf: the program's walk. -/
import Derived.Test.YtenenlpfpkdplaaDoorYc
import Derived.Test.YtenenlpfpkdplaaDoorYt
namespace Go.Proofs.YtenenlpfpkdplaaDoor
open Go.RowKit Go.Shelf

attribute [local go_sem] Oper.semAt_some

theorem Keeps.grewR {n₀ lo n : Nat} {e : TypeId} {v : Value} {xs : List Value} {W w1 w3 : World} (h : Keeps n₀ W w1) (g : w1.ownsRow lo e 1 v n xs) (hl : n₀ ≤ lo) (hs : n₀ ≤ w1.heap.size) (hg : w1.grownBy w3 v.ownBlock) : Keeps n₀ W w3 :=
  ⟨h.1.grown hg hs (fun k e => Nat.le_trans hl (g.lt k e).1), h.2.trans ⟨hg.size, fun k o _ hk ho => (hg.block k (Array.getElem?_eq_some_iff.1 hk).1 (fun e' => by
    rcases g.2 with ⟨rfl, _⟩ | ⟨b, cap, cur, rfl, _, hgb, _⟩
    · simp [Value.ownBlock] at e'
    · obtain rfl : k = b := by simpa [Value.ownBlock] using e'
      rw [hk] at hgb
      cases hgb
      cases ho)).trans hk⟩⟩

set_option maxRecDepth 100000 in
set_option maxHeartbeats 8000000 in
theorem implClassesOf_ex (t0 : List (List Int)) : ∀ (B0 : Option Addr) (d0 : Nat) (W : World), RwsW W B0 t0 → SmallT t0 → TabL W →
    Calls Tryd.prog 55 #[.agg #[.slice B0 t0.length d0]] W fun e W' => ∃ (C0 : Option Addr) (e0 : Nat), e = .returned (.tuple #[.slice C0 (yClassesOf0 t0).length e0, .int .i64 (qClassesOf1 t0)]) ∧ Ex W W' ∧ OwnT W' W.heap.size W'.heap.size C0 (yClassesOf0 t0) := by
  intro B0 d0 w hR hs hT
  have e0 : Ex w (w.alloc (.cells #[.slice B0 t0.length d0] 35)) := (Ex.refl w).alloc _
  have b0 : Has (w.alloc (.cells #[.slice B0 t0.length d0] 35)) (w.heap.size) 35 #[.slice B0 t0.length d0] := (Has.newAt (w := w) (e := 35) (cs := #[.slice B0 t0.length d0]) (k := w.heap.size) (by simp))
  have HC := Lib.hid (implIsGroup_ex B0 t0 d0 _ (hR.ex e0) hs)
  cases hg : grpB t0 with
  | false =>
    have HQ := Lib.hid (cc_no hg)
    rw [hg] at HC
    clear hg hR hs hT
    go_enter Tryd.func55, Tryd.ntmps55
    go_wp2_with fail
    generalize (w.alloc (.cells #[.slice B0 t0.length d0] 35)) = W0 at *
    refine HC.out.mono ?_
    rintro e W1 ⟨rfl, he1⟩
    have HE1 := Lib.hid (e0.trans he1)
    clear b0 e0 he1
    go_wp2_with fail
    go_ret2
    exact ⟨none, 0, by rw [HQ.out.1, HQ.out.2]; rfl, HE1.out, by rw [HQ.out.1]; exact OwnT.nil _ _ _ (Nat.le_refl _)⟩
  | true =>
    have HQ := Lib.hid (cc_yes hg)
    rw [hg] at HC
    have hgr := grpB_iff.1 hg
    have hn8 := hgr.n8
    have HB := Lib.hid (fun l (hl : ∀ a ∈ l, a < t0.length) => ccF_b hgr l hl)
    have HRW := Lib.hid hR
    have HGR := Lib.hid hgr
    have HTB := Lib.hid hT
    obtain ⟨iS, gi, gi0, gi1, gi2⟩ := info_parts infoS
    clear hg hgr hR hs hT
    refine (callsIn_wide (n := 8)).1 ?_
    refine callsIn_of_wp_marks Tryd.func55 rfl trivial ?_ rfl
    simp only [Tryd.ntmps55, List.size_toArray, List.length_cons, List.length_nil, Nat.reduceAdd, Nat.reduceSub, Array.replicate_succ, Array.replicate_zero, List.push_toArray, List.append_toArray, List.nil_append, List.cons_append]
    refine wpIn_wide.2 ?_
    go_wp2_with fail
    generalize (w.alloc (.cells #[.slice B0 t0.length d0] 35)) = W0 at *
    refine HC.out.mono ?_
    rintro e W1 ⟨rfl, he1⟩
    obtain ⟨p, hp⟩ : ∃ p, w.heap.size = p := ⟨_, rfl⟩
    have HP := Lib.hid hp
    rw [hp] at b0 ⊢
    obtain ⟨D, hD⟩ : ∃ D, W1.heap.size = D := ⟨_, rfl⟩
    have hpD : p < D := by have := (b0.ex he1).lt; omega
    have e3 : Ex w ((W1.alloc (.cells #[.slice none 0 0] 22)).alloc (.cells #[.int .u64 0] 78)) := ((e0.trans he1).alloc _).alloc _
    have bG3 := ((b0.ex he1).alloc (.cells #[.slice none 0 0] 22)).alloc (.cells #[.int .u64 0] 78)
    have bV3 := (Has.newAt (w := W1) (e := 22) (cs := #[.slice none 0 0]) hD).alloc (.cells #[.int .u64 0] 78)
    have bM3 : Has ((W1.alloc (.cells #[.slice none 0 0] 22)).alloc (.cells #[.int .u64 0] 78)) (D + 1) 78 #[.int .u64 0] := Has.newAt (by simp [hD])
    have hz3 : ((W1.alloc (.cells #[.slice none 0 0] 22)).alloc (.cells #[.int .u64 0] 78)).heap.size = D + 1 + 1 := by simp [hD]
    have k0 := bG3.cell 0
    clear b0 e0 he1
    go_wp2_with fail
    refine (elementsOf_any B0 t0.length d0 _).mono ?_
    rintro e w' ⟨rfl, rfl⟩
    rw [hz3]
    generalize (W1.alloc (.cells #[.slice none 0 0] 22)).alloc (.cells #[.int .u64 0] 78) = W3 at *
    obtain ⟨W4, hW4⟩ : ∃ W4, W3.alloc (.cells #[.slice B0 t0.length d0] 35) = W4 := ⟨_, rfl⟩
    have bG := bG3.alloc (.cells #[.slice B0 t0.length d0] 35)
    have bV := bV3.alloc (.cells #[.slice B0 t0.length d0] 35)
    have bM := bM3.alloc (.cells #[.slice B0 t0.length d0] 35)
    have bE : Has (W3.alloc (.cells #[.slice B0 t0.length d0] 35)) (D + 1 + 1) 35 #[.slice B0 t0.length d0] := Has.newAt hz3
    have e4 := e3.alloc (.cells #[.slice B0 t0.length d0] 35)
    have hz4 : (W3.alloc (.cells #[.slice B0 t0.length d0] 35)).heap.size = D + 1 + 1 + 1 := by simp [hz3]
    rw [hW4] at bG bV bM bE e4 hz4 ⊢
    clear bG3 bV3 bM3 e3 hz3 k0 hW4
    go_wp2_with fail
    have HE4 := Lib.hid e4
    clear e4
    refine (wpIn_wide (n := 8)).1 ?_
    refine range_top (n := 8) (n₀ := p) (by omega) (gf := 141) (lb := #[.pointer (some ⟨D + 1 + 1, 0, none⟩)]) rfl (enters_of Tryd.func141 (by kernel_rfl) rfl)
      (elements_stops 7 (by omega) (D + 1 + 1) p t0.length d0 _ W4 (by omega) (bE.cell 0) (by omega)) (by omega) (fun _ => rfl)
      (fun pre W => Has W (D + 1) 78 #[.int .u64 ((ccF t0 (pre.map fun x => x.val)).1 : Int)] ∧ (∃ v, Boxed W D 22 v ∧ GrowM W p v ((ccF t0 (pre.map fun x => x.val)).2.map elI) ∧ True) ∧ Has W p 35 #[.slice B0 t0.length d0])
      (fun c' _ W => False)
      (OwnFrom.and (Own.from (has_own _ _ _) _) (OwnFrom.and (Own.from (growM_own p D 22 (fun pre : List (Fin t0.length) => (ccF t0 (pre.map fun x => x.val)).2.map elI) (fun _ _ => True)) _) (Own.from (has_own _ _ (fun _ => #[.slice B0 t0.length d0])) _)))
      (fun _ => ownFrom_pure _ _)
      ⟨bM, ⟨_, bV, GrowM.nil _ _, trivial⟩, bG⟩ ?round ?done ?stop
    case stop =>
      rintro D' c' pre W hD' hpre h
      exact h.elim
    case done =>
      rintro D' xs W hD' rfl ⟨-, ⟨v, bV', hgm, -⟩, -⟩ hKW hK
      rw [fin_val] at hgm
      obtain ⟨Rs, hRs⟩ : ∃ Rs, (ccF t0 (List.range t0.length)).2.map elI = Rs := ⟨_, rfl⟩
      rw [hRs] at hgm HQ
      have hg8 := grownBy_putObj' W D' (.deferred none)
      have hr8 : ∀ r, some D' = some r → ∃ o : Obj, W.heap[r]? = some o ∧ o.isCells = false := fun r e => by cases e; exact ⟨_, hK, rfl⟩
      obtain ⟨A, ca, rfl, hO⟩ := (hgm.grown hg8 hr8).own
      have cv := bV'.cell
      have HO := Lib.hid hO
      have HKW := Lib.hid hKW
      have hE : Ex w W := HE4.out.trans' hKW.1 (by have := HP.out; omega)
      have HEW := Lib.hid (Below.grown hE hg8 hE.size (fun k hk => by cases hk; have := HP.out; omega) : Ex w (W.putObj D' (.deferred none)))
      clear hO hgm hKW hg8 hr8 bV' hE bG bV bM bE hz4
      simp only [Exit.inBlock, Exit.then]
      go_wp2_with fail
      refine ⟨by simp, .inl ⟨_, _, rfl, run_takeDeferred hK, ?_⟩⟩
      exact ⟨.tuple #[.slice A Rs.length ca, .int .i64 0], by simp [results, Tryd.results55, go_sem], A, ca, by rw [HQ.out.1, HQ.out.2], HEW.out, by rw [HQ.out.1, HP.out]; exact HO.out⟩
    case round =>
      clear bG bV bM bE hz4
      intro l x W K hK
      have HK := Lib.hid hK
      clear hK
      gi_wp2
      refine HK.out _ ?_
      clear HK
      rintro l pre W5 hr ⟨hM, ⟨v, hV, hgm, -⟩, hG⟩ hKW _
      obtain ⟨a, ha⟩ := x
      have HSNOC : Hid (ccF t0 ((pre ++ [(⟨a, ha⟩ : Fin t0.length)]).map fun x => x.val) = ccStep t0 (ccF t0 (pre.map fun x => x.val)) a) := Lib.hid (by rw [List.map_append]; exact ccF_snoc _ _ _)
      have hcb := HB.out (pre.map fun x => x.val) (fun y hy => by obtain ⟨x, _, rfl⟩ := List.mem_map.1 hy; exact x.isLt)
      have hpl : pre.length ≤ t0.length := by omega
      obtain ⟨S1, hS1⟩ : ∃ S1, ccF t0 (pre.map fun x => x.val) = S1 := ⟨_, rfl⟩
      rw [hS1] at hM hgm hcb HSNOC
      have hm256 := lt256 hn8 hcb.met
      have hlen := hcb.len
      simp only [List.length_map] at hlen
      obtain ⟨m1, L1⟩ := S1
      dsimp only at hM hgm hm256 hlen
      obtain ⟨Rs, hRs⟩ : ∃ Rs, L1.map elI = Rs := ⟨_, rfl⟩
      have hRl : Rs.length ≤ 8 := by rw [← hRs, List.length_map]; omega
      rw [hRs] at hgm
      obtain ⟨A, ca, rfl, -⟩ := hgm.own
      have ha8 : a < 8 := by omega
      have HPW : Hid (w.heap.size = p) := HP
      have hE : Ex w W5 := HE4.out.trans' hKW.1 (by have := HP.out; omega)
      have HHA := Lib.hid (fun W => has_any m1 a W hm256 ha8)
      have HM := Lib.hid hM
      have HV := Lib.hid (show Has W5 D 22 #[.slice A Rs.length ca] from hV)
      have HGM := Lib.hid hgm
      have HG := Lib.hid hG
      have cM := hM.cell 0
      have hpW : p ≤ W5.heap.size := by have := HV.out.lt; omega
      clear hS1 hcb hKW hr hM hV hgm hG
      cases hq : m1.testBit a with
      | true =>
        have HST := Lib.hid (ccStep_old hq : ccStep t0 (m1, L1) a = (m1, L1))
        rw [hq] at HHA
        clear hq hE
        gi_wp2_with (refine ⟨trivial, ?_⟩; gi_at_call 93; refine (CallsIn.inRound l (callsIn_wide.2 (HHA.out _))).mono ?_; rintro e w' ⟨rfl, rfl⟩)
        exact ⟨Keeps.refl _ _, by rw [HSNOC.out, HST.out]; exact HM.out, by rw [HSNOC.out, HST.out]; exact ⟨_, HV.out, hRs.symm ▸ HGM.out, trivial⟩, HG.out⟩
      | false =>
        have HST := Lib.hid (ccStep_new hq : ccStep t0 (m1, L1) a = (m1 ||| cls t0 a, L1 ++ [cls t0 a]))
        rw [hq] at HHA
        have hz256 := lt256 hn8 (cls_lt HGR.out ha)
        have hzp := cls_pos HGR.out ha
        have HE := Lib.hid hE
        have HCS := Lib.hid (fun W' (he : Ex W5 W') => classSet_any B0 t0 d0 a W' (HRW.out.ex (HE.out.trans he)) HGR.out ha)
        obtain ⟨z, hz⟩ : ∃ z, cls t0 a = z := ⟨_, rfl⟩
        rw [hz] at HST hz256 hzp HCS
        have hbo := bits_orU m1 hm256 z hz256
        have hzl := elI_le z
        have cG := HG.out.cell 0
        clear hq hE hz
        gi_wp2_with (first
          | (refine ⟨trivial, ?_⟩; gi_at_call 93; refine (CallsIn.inRound l (callsIn_wide.2 (HHA.out _))).mono ?_; rintro e w' ⟨rfl, rfl⟩)
          | (refine ⟨trivial, ?_⟩; gi_at_call 94; refine (CallsIn.inRound l (callsIn_wide.2 (HCS.out _ (Ex.refl _)))).mono ?_; rintro e W9 ⟨rfl, he9⟩; have HE9 := Lib.hid he9; have cs := (HM.out.ex he9).cell 0; have fs := (HM.out.ex he9).free 0; clear he9))
        clear cs fs cM cG hbo
        have bM := (HM.out.ex HE9.out).put1 (v := .int .u64 ((m1 ||| z : Nat) : Int))
        have bV := (HV.out.ex HE9.out).far (p := ⟨D + 1, 0, none⟩) (by show D ≠ D + 1; omega) (.int .u64 ((m1 ||| z : Nat) : Int))
        have bG := (HG.out.ex HE9.out).far (p := ⟨D + 1, 0, none⟩) (by show p ≠ D + 1; omega) (.int .u64 ((m1 ||| z : Nat) : Int))
        have bR := (HGM.out.ex HE9.out).set (HM.out.ex HE9.out) (by decide) (by decide) 0 (.int .u64 ((m1 ||| z : Nat) : Int))
        have hKx : Keeps p W5 (W9.setCell ⟨D + 1, 0, none⟩ (.int .u64 ((m1 ||| z : Nat) : Int))) := (Keeps.of_below HE9.out hpW).setCell (p := ⟨D + 1, 0, none⟩) (by show p ≤ D + 1; omega) _
        have hEx : Ex w (W9.setCell ⟨D + 1, 0, none⟩ (.int .u64 ((m1 ||| z : Nat) : Int))) := HE.out.trans' hKx.1 (by have := HPW.out; omega)
        obtain ⟨Wx, hWx⟩ : ∃ Wx, W9.setCell ⟨D + 1, 0, none⟩ (.int .u64 ((m1 ||| z : Nat) : Int)) = Wx := ⟨_, rfl⟩
        rw [hWx] at bM bV bG bR hKx hEx ⊢
        have HMx := Lib.hid bM
        have HVx := Lib.hid bV
        have HGx := Lib.hid bG
        have HRx := Lib.hid bR
        have HKx := Lib.hid hKx
        have HEx := Lib.hid hEx
        have hpx : p ≤ Wx.heap.size := by have := bV.lt; omega
        have HLI := Lib.hid (fun W' (he : Ex Wx W') => setList_g z W' hz256 (HTB.out.ex (HEx.out.trans he)))
        clear bM bV bG bR hKx hEx hWx HM HV HGM HG HCS HHA HE HE9
        refine Late.round (C := fun w' : World => Ex w w' ∧ w'.cell? ⟨D, 0, none⟩ = some (.slice A Rs.length ca)) (fun j => j != 5) (by kernel_rfl) (by rfl) (by rintro ⟨_, _, h⟩; exact h) ⟨HEx.out.trans (Ex.refl Wx).drew, (HVx.out.ex (Ex.refl Wx).drew).cell 0⟩ ?_
        intro hS
        refine Late.take (i := 0) (oi := _) (v := ?_) rfl (by kernel_rfl) (by kernel_rfl) (by kernel_rfl) (by kernel_rfl) (fun _ _ _ h => h) (Or.inl ⟨by rfl, ?_⟩) hS ?_
        rotate_left
        · (intro w hSw; (try dsimp only at hSw); go_simp; first | done | with_reducible rfl)
        simp only [Act.put]
        refine Late.take (i := 1) (oi := _) (v := ?_) rfl (by kernel_rfl) (by kernel_rfl) (by kernel_rfl) (by kernel_rfl) (fun _ _ _ h => h) (Or.inl ⟨by rfl, ?_⟩) hS ?_
        rotate_left
        · (intro w hSw; (try dsimp only at hSw); go_simp; first | done | with_reducible rfl)
        simp only [Act.put]
        refine Late.one (i := 2) (o := _) (by kernel_rfl) rfl (fun K' hK' => ?_)
        rw [if_pos (by rfl)]
        go_simp
        refine (HLI.out _ (Ex.refl Wx).drew).mono ?_
        rintro e w1 ⟨A', c', rfl, hew1, hgi⟩
        have hex1 : Ex Wx w1 := (Ex.refl Wx).drew.trans hew1
        have hdz : Wx.heap.size ≤ Wx.drew.heap.size := (Ex.refl Wx).drew.size
        obtain ⟨g, cg, cs, hv, hlo, hnc, hhas, hget⟩ := row_block hgi.1 hzp
        obtain ⟨rfl, rfl⟩ : A' = some ⟨g, 0, none⟩ ∧ c' = cg := by simpa using hv
        refine hK'.out _ _ (fun _ => ⟨HEx.out.trans hex1, (HVx.out.ex hex1).cell 0⟩) (fun _ => ?_)
        clear hK' K'
        try simp only [Act.put]
        refine Late.one (i := 3) (o := _) (by kernel_rfl) rfl (fun K' hK' => ?_)
        go_simp
        have hx2 := Ex.new w1 (.cells #[.slice (some ⟨g, 0, none⟩) (elI z).length c'] 25)
        have e2 := hex1.trans hx2
        have bV2 := HVx.out.ex e2
        have bM2 := HMx.out.ex e2
        have bG2 := HGx.out.ex e2
        have hh2 := hhas.ex hx2
        have hn2 := cell_one_new w1 (.slice (some ⟨g, 0, none⟩) (elI z).length c') 25
        have hz2 := hx2.size
        have hp2 := hex1.size
        obtain ⟨GG, CC, ho0, hrm0⟩ := HRx.out
        have ho := own_below ho0 e2
        have hrm := hrm0.ex e2
        have hGx : ∀ i, i < Rs.length → GG i ≠ g := fun i hi => by
          have := hrm0.lt hi
          omega
        refine hK'.out _ _ (fun _ => ⟨HEx.out.trans e2, bV2.cell 0⟩) (fun _ => ?_)
        clear hK' K' hgi hew1
        generalize w1.alloc (.cells #[.slice (some ⟨g, 0, none⟩) (elI z).length c'] 25) = w2 at *
        try simp only [Act.put]
        refine Late.one (i := 4) (o := _) (by kernel_rfl) rfl (fun K' hK' => ?_)
        rw [if_pos (by rfl)]
        refine wp_append_own _ _ _ 22 rfl p 25 iS (.slice none 0 0) 1 24 Tryd.underlying22 gi gi0 gi1 gi2 rfl (by decide) _ _ _ rfl ho ⟨w1.heap.size, 0, none⟩ 1 1 [.slice (some ⟨g, 0, none⟩) (elI z).length c'] rfl rfl hn2 (by simp [Value.oneCell']) (by unfold maxLen; omega) (by omega) (by omega) ?_
        intro v' w3 hown3 hgrow3 _
        have HK3 := Lib.hid (Keeps.grewR (HKx.out.trans (Keeps.of_below (n₀ := p) e2 (by omega))) ho (Nat.le_refl _) (by omega) hgrow3)
        have hE3 : Ex w w3 := Ex.grewR (HEx.out.trans e2) ho (by have := HPW.out; omega) hgrow3
        have HV3 := Lib.hid (bV2.grewR (by decide) ho hgrow3)
        have HM3 := Lib.hid (bM2.grewR (by decide) ho hgrow3)
        have HG3 := Lib.hid (bG2.grewR (by decide) ho hgrow3)
        have HR3 := Lib.hid (GrowM.push (r := elI z) ho hrm (by omega) hh2 (fun j hj => by rw [hget j hj]; simp [nth, hj]) hGx hgrow3 hown3)
        obtain ⟨g3, cap3, rfl⟩ := ownsRow_succ hown3
        refine hK'.out _ _ (fun _ => ⟨hE3, HV3.out.cell 0⟩) (fun _ => ?_)
        clear hK' K' hown3 hgrow3 ho hrm ho0 hrm0 bV2 bM2 bG2 hh2 hn2 hE3 hGx hget hhas e2 hex1 hx2
        try simp only [Act.put]
        have c5 := HV3.out.cell 0
        have f5 := HV3.out.free 0
        refine Late.one (i := 5) (o := _) (by kernel_rfl) rfl (fun K' hK' => ?_)
        go_simp
        refine hK'.out _ _ (fun h => by cases h) (fun _ => ?_)
        clear hK' K'
        refine Late.done (by kernel_rfl) ?_ _
        refine ⟨HK3.out.setCell (p := ⟨D, 0, none⟩) (by show p ≤ D; omega) _, ?_, ?_, HG3.out.far (p := ⟨D, 0, none⟩) (by show p ≠ D; omega) _⟩
        · rw [HSNOC.out, HST.out]
          exact HM3.out.far (p := ⟨D, 0, none⟩) (by show D + 1 ≠ D; omega) _
        · rw [HSNOC.out, HST.out]
          refine ⟨_, HV3.out.put1, ?_, trivial⟩
          have h := HR3.out.set HV3.out (by decide) (by decide) 0 (.slice (some ⟨g3, 0, none⟩) (Rs.length + 1) cap3)
          rw [show (L1 ++ [z]).map elI = Rs ++ [elI z] by simp [hRs]]
          exact h

end Go.Proofs.YtenenlpfpkdplaaDoor
