/- DerivedOf: the program's contract. -/
import Derived.Test.YtmmgmbgnlcfabaaDoorDv
namespace Go.Proofs.YtmmgmbgnlcfabaaDoor
open Go.RowKit Go.Shelf

attribute [local go_sem] Oper.semAt_some

theorem fin_snoc {N : Nat} (pre : List (Fin N)) (x : Fin N) : (pre ++ [x]).map (fun x => x.val) = pre.map (fun x => x.val) ++ [x.val] := by simp
theorem fin_all (N : Nat) : (List.finRange N).map (fun x => x.val) = List.range N := by
  apply List.ext_getElem
  · simp
  · intro i h1 h2; simp

set_option maxRecDepth 100000 in
set_option maxHeartbeats 4000000 in
theorem implDerivedOf_any (t0 : List (List Int)) (B0 : Option Addr) (d0 : Nat) (w : World) (hR : RwsW w B0 t0) (hs : SmallT t0) (hT : TabL w) :
    Calls Tryd.prog 35 #[.agg #[.slice B0 t0.length d0]] w fun e W' => ∃ (C0 : Option Addr) (e0 : Nat), e = .returned (.tuple #[.slice C0 (yDerivedOf0 t0).length e0, .int .i64 (qDerivedOf1 t0)]) ∧ Ex w W' ∧ OwnL W' w.heap.size W'.heap.size C0 (yDerivedOf0 t0) := by
  have e0 : Ex w (w.alloc (.cells #[.slice B0 t0.length d0] 29)) := (Ex.refl w).alloc _
  have b0 : Has (w.alloc (.cells #[.slice B0 t0.length d0] 29)) (w.heap.size) 29 #[.slice B0 t0.length d0] := (Has.newAt (w := w) (e := 29) (cs := #[.slice B0 t0.length d0]) (k := w.heap.size) (by simp))
  have HC := Lib.hid (implIsGroup_ex B0 t0 d0 _ (hR.ex e0) hs)
  cases hg : grpB t0 with
  | false =>
    rw [hg] at HC
    have HQ := Lib.hid (dv_no hg)
    clear hg hR hT
    refine (callsIn_wide (n := 20)).1 ?_
    refine callsIn_of_wp_marks Tryd.func35 rfl trivial ?_ rfl
    simp only [Tryd.ntmps35, List.size_toArray, List.length_cons, List.length_nil, Nat.reduceAdd, Nat.reduceSub, Array.replicate_succ, Array.replicate_zero, List.push_toArray, List.append_toArray, List.nil_append, List.cons_append]
    gi_wp2_with fail
    generalize (w.alloc (.cells #[.slice B0 t0.length d0] 29)) = W0 at *
    refine ⟨trivial, (callsIn_wide.2 HC.out).mono ?_⟩
    rintro e W1 ⟨rfl, he1⟩
    have HE1 := Lib.hid (e0.trans he1)
    clear b0 e0 he1
    gi_wp2
    exact ⟨_, results_tmp2 rfl _ _ _, none, 0, by rw [HQ.out.1, HQ.out.2]; rfl, HE1.out, by rw [HQ.out.1]; exact OwnL.nil _ _ _ (Nat.le_refl _)⟩
  | true =>
    rw [hg] at HC
    have HQ := Lib.hid (dv_yes hg)
    have hgr := grpB_iff.1 hg
    obtain ⟨b, o, bb, oo, C, rfl, hQ⟩ := hR.sq hgr
    have HQT := Lib.hid hQ
    have HG := Lib.hid hgr
    have hn8 := hgr.n8
    have HRW := Lib.hid hR
    have hdl := dv_lt hgr
    have HTB := Lib.hid hT
    clear hg hgr hR hs hQ hT
    refine (callsIn_wide (n := 20)).1 ?_
    refine callsIn_of_wp_marks Tryd.func35 rfl trivial ?_ rfl
    simp only [Tryd.ntmps35, List.size_toArray, List.length_cons, List.length_nil, Nat.reduceAdd, Nat.reduceSub, Array.replicate_succ, Array.replicate_zero, List.push_toArray, List.append_toArray, List.nil_append, List.cons_append]
    gi_wp2_with fail
    generalize (w.alloc (.cells #[.slice (some ⟨b, o, none⟩) t0.length d0] 29)) = W0 at *
    refine ⟨trivial, (callsIn_wide.2 HC.out).mono ?_⟩
    rintro e W1 ⟨rfl, he1⟩
    have hz1 := (b0.ex he1).lt
    have HE1 := Lib.hid (e0.trans he1)
    have HB0 := Lib.hid (b0.ex he1)
    clear b0 e0 he1
    have e3 := Ex.new W1 (.cells #[.int .u64 0] 51)
    have c0 := (HB0.out.ex e3).cell 0
    have HS := Lib.hid (Has.new W1 51 #[.int .u64 0])
    gi_wp2_with (refine ⟨trivial, ?_⟩; gi_at_call 64; refine (callsIn_wide.2 (elementsOf_any _ t0.length d0 _)).mono ?_; rintro e w' ⟨rfl, rfl⟩)
    obtain ⟨D, hD⟩ : ∃ D, W1.heap.size = D := ⟨_, rfl⟩
    have e4 := HE1.out.trans (e3.alloc (.cells #[.slice (some ⟨b, o, none⟩) t0.length d0] 29))
    have bS := HS.out.alloc (.cells #[.slice (some ⟨b, o, none⟩) t0.length d0] 29)
    have bE := Has.newAt (w := W1.alloc (.cells #[.int .u64 0] 51)) (e := 29) (cs := #[.slice (some ⟨b, o, none⟩) t0.length d0]) (k := W1.heap.size + 1) (by simp)
    have bG := (HB0.out.ex e3).alloc (.cells #[.slice (some ⟨b, o, none⟩) t0.length d0] 29)
    have hz4 : ((W1.alloc (.cells #[.int .u64 0] 51)).alloc (.cells #[.slice (some ⟨b, o, none⟩) t0.length d0] 29)).heap.size = D + 1 + 1 := by simp [hD]
    rw [hD] at bS bE hz1 ⊢
    clear HB0 HS e3 c0 HE1
    generalize ((W1.alloc (.cells #[.int .u64 0] 51)).alloc (.cells #[.slice (some ⟨b, o, none⟩) t0.length d0] 29)) = W4 at *
    have HE4 := Lib.hid e4
    have HZ4 := Lib.hid hz4
    clear e4 hD
    refine range_topB (n := 20) (n₀ := w.heap.size) (by omega) (gf := 91) (lb := #[.pointer (some ⟨D + 1, 0, none⟩)]) rfl (enters_of Tryd.func91 (by kernel_rfl) rfl)
      (elements_stops 19 (by omega) (D + 1) w.heap.size t0.length d0 _ W4 (by omega) (bE.cell 0) (by omega)) (by omega) (fun _ => rfl) 2 (fun x => .int .i64 (x.val : Int))
      (fun pre W => Has W D 51 #[.int .u64 (tabF (com t0) (List.range t0.length) 0 (pre.map fun x => x.val) : Int)] ∧ Has W w.heap.size 29 #[.slice (some ⟨b, o, none⟩) t0.length d0])
      (fun c' _ W => False)
      (OwnFrom.and (Own.from (has_own _ _ _) _) (Own.from (has_own _ _ _) _))
      (fun _ => ownFrom_pure _ _)
      ⟨bS, bG⟩ ?round ?done ?stop
    case round =>
      clear bS bE bG hz4
      intro l x W K hK
      have HK := Lib.hid hK
      clear hK
      gi_wp2
      refine HK.out _ ?_
      clear HK
      rintro l B1 pre W5 hB1 hle1 hr ⟨bM, bG⟩ hKW bX _
      rw [hB1]
      clear hB1
      obtain ⟨k, hk⟩ := x
      dsimp only at bX
      have HKW := Lib.hid hKW
      have HR := Lib.hid hr
      have hSN : tabF (com t0) (List.range t0.length) 0 ((pre ++ [(⟨k, hk⟩ : Fin t0.length)]).map fun x => x.val) = rowF (com t0) k (tabF (com t0) (List.range t0.length) 0 (pre.map fun x => x.val)) (List.range t0.length) := by rw [fin_snoc]; exact tabF_snoc _ _ _ _
      have hT1 : tabF (com t0) (List.range t0.length) 0 (pre.map fun x => x.val) < 2 ^ t0.length := tabF_lt (fun a ha b hb => com_lt HG.out (by
        obtain ⟨y, _, rfl⟩ := List.mem_map.1 ha
        exact y.isLt) (List.mem_range.1 hb)) (Nat.two_pow_pos _)
      have HSN := Lib.hid hSN
      obtain ⟨T, hTe⟩ : ∃ T, tabF (com t0) (List.range t0.length) 0 (pre.map fun x => x.val) = T := ⟨_, rfl⟩
      rw [hTe] at bM hT1 HSN
      have HT1 := Lib.hid hT1
      clear hKW hr hSN hTe hT1
      have hbox := bG.cell 0
      gi_wp2_with (refine ⟨trivial, ?_⟩; gi_at_call 64; refine (CallsIn.inRound l (callsIn_wide.2 (elementsOf_any _ t0.length d0 _))).mono ?_; rintro e w' ⟨rfl, rfl⟩)
      clear hbox
      have bMA := bM.alloc (.cells #[.slice (some ⟨b, o, none⟩) t0.length d0] 29)
      have bGA := bG.alloc (.cells #[.slice (some ⟨b, o, none⟩) t0.length d0] 29)
      have bXA : Has (W5.alloc (.cells #[.slice (some ⟨b, o, none⟩) t0.length d0] 29)) B1 2 #[.int .i64 (k : Int)] := Has.alloc bX _
      have bEA := Has.new W5 29 #[.slice (some ⟨b, o, none⟩) t0.length d0]
      have hK1 : Keeps w.heap.size W5 (W5.alloc (.cells #[.slice (some ⟨b, o, none⟩) t0.length d0] 29)) := (Keeps.refl _ _).alloc (by have := bG.lt; omega) _
      have hszA : (W5.alloc (.cells #[.slice (some ⟨b, o, none⟩) t0.length d0] 29)).heap.size = W5.heap.size + 1 := by simp
      have hrA : ∃ r, (W5.alloc (.cells #[.slice (some ⟨b, o, none⟩) t0.length d0] 29)).heap[l]? = some (.loop r) := by
        obtain ⟨r, hr⟩ := HR.out
        exact ⟨r, (Below.heap_alloc W5 _ l (Array.getElem?_eq_some_iff.1 hr).1).trans hr⟩
      have hltG := bG.lt
      have HBB := Lib.hid (show D + 1 < B1 by have := HZ4.out; omega)
      clear bM bG bX
      obtain ⟨W6, hW6⟩ : ∃ W6, W5.alloc (.cells #[.slice (some ⟨b, o, none⟩) t0.length d0] 29) = W6 := ⟨_, rfl⟩
      rw [hW6] at bMA bGA bXA bEA hK1 hszA hrA ⊢
      clear hW6
      have HK1 := Lib.hid hK1
      have hE6 : Ex w W6 := HE4.out.trans' (HKW.out.1.trans hK1.1) (Nat.le_refl _)
      have hDz : w.heap.size < D := by omega
      refine range_in (n := 20 - 1 - 1) (n₀ := w.heap.size) (by omega) hrA (gf := 91) (lb := #[.pointer (some ⟨W5.heap.size, 0, none⟩)]) rfl (enters_of Tryd.func91 (by kernel_rfl) rfl)
        (elements_stops (20 - 1 - 1 - 1) (by omega) W5.heap.size w.heap.size t0.length d0 _ W6 (by omega) (bEA.cell 0) (by omega)) (by omega) (fun _ => rfl)
        (fun pre W => Has W D 51 #[.int .u64 (rowF (com t0) k T (pre.map fun x => x.val) : Int)] ∧ Has W w.heap.size 29 #[.slice (some ⟨b, o, none⟩) t0.length d0] ∧ Has W B1 2 #[.int .i64 (k : Int)])
        (fun c' _ W => False)
        (OwnFrom.and (Own.from (has_own _ _ _) _) (OwnFrom.and (Own.from (has_own _ _ _) _) (Own.from (has_own _ _ _) _)))
        (fun _ => ownFrom_pure _ _)
        ⟨bMA, bGA, bXA⟩ ?round2 ?done2 ?stop2
      case done2 =>
        rintro ys W rfl ⟨bM2, bG2, _⟩ hKW2
        rw [fin_all] at bM2
        gi_wp2
        refine ⟨HK1.out.trans hKW2, ?_, bG2⟩
        show Has _ _ _ _
        rw [HSN.out]
        exact bM2
      case stop2 =>
        rintro c' pre' W hpre h
        exact h.elim
      case round2 =>
        clear bMA bGA bXA bEA hK1 hszA hrA
        have HE6 := Lib.hid hE6
        clear hE6
        intro l2 y W K hK
        have HK := Lib.hid hK
        clear hK
        gi_wp2
        refine HK.out _ ?_
        clear HK
        rintro l2 pre2 W7 hr2 ⟨bM2, bG2, bX2⟩ hKW2 _
        obtain ⟨j, hj⟩ := y
        have hE7 : Ex w W7 := HE6.out.trans' hKW2.1 (Nat.le_refl _)
        have hRN : rowF (com t0) k T ((pre2 ++ [(⟨j, hj⟩ : Fin t0.length)]).map fun x => x.val) = rowF (com t0) k T (pre2.map fun x => x.val) ||| 2 ^ com t0 k j := by rw [fin_snoc]; exact rowF_snoc _ _ _ _
        have hRl := lt256 hn8 (rowF_lt (f := com t0) (a := k) (fun b hb => com_lt HG.out hk (by
          obtain ⟨y, _, rfl⟩ := List.mem_map.1 hb
          exact y.isLt)) HT1.out : rowF (com t0) k T (pre2.map fun x => x.val) < 2 ^ t0.length)
        have hcl := con_lt HG.out hj hk
        have hil := (iv_spec HG.out hj).1
        have hx8 : com t0 k j < 8 := by have := com_lt HG.out hk hj; omega
        have HE7 := Lib.hid hE7
        have HCO := Lib.hid (fun W' (he : Ex W7 W') => conjugateOf_any (some ⟨b, o, none⟩) t0 d0 j k W' (HRW.out.ex (HE7.out.trans he)) HG.out hj hk)
        have HIV := Lib.hid (fun W' (he : Ex W7 W') => inverseOf_any (some ⟨b, o, none⟩) t0 d0 j W' (HRW.out.ex (HE7.out.trans he)) HG.out hj)
        have HF := Lib.hid (fun W' (he : Ex W7 W') => (by
          have hq := HQT.out.ex (HE7.out.trans he)
          exact ⟨(Has.ex bM2 he).cell 0, (Has.ex bG2 he).cell 0, (Has.ex bX2 he).cell 0, hq.row_ hcl, by rw [hq.ent_ hcl hil, HG.out.ent hcl hil]; rfl⟩ :
            W'.cell? ⟨D, 0, none⟩ = some (.int .u64 (rowF (com t0) k T (pre2.map fun x => x.val) : Int)) ∧ W'.cell? ⟨w.heap.size, 0, none⟩ = some (.slice (some ⟨b, o, none⟩) t0.length d0) ∧ W'.cell? ⟨B1, 0, none⟩ = some (.int .i64 (k : Int)) ∧
            W'.cell? ⟨b, o + con t0 j k, none⟩ = some (.slice (some ⟨bb (con t0 j k), oo (con t0 j k), none⟩) t0.length (C (con t0 j k))) ∧ W'.cell? ⟨bb (con t0 j k), oo (con t0 j k) + iv t0 j, none⟩ = some (.int .i64 (com t0 k j : Int))))
        have HRN := Lib.hid hRN
        clear hRN hE7
        obtain ⟨x, hx⟩ : ∃ x, com t0 k j = x := ⟨_, rfl⟩
        obtain ⟨cz, hcz⟩ : ∃ cz, con t0 j k = cz := ⟨_, rfl⟩
        obtain ⟨iz, hiz⟩ : ∃ iz, iv t0 j = iz := ⟨_, rfl⟩
        obtain ⟨R, hRe⟩ : ∃ R, rowF (com t0) k T (pre2.map fun x => x.val) = R := ⟨_, rfl⟩
        rw [hx, hcz, hiz, hRe] at HF
        rw [hcz] at HCO hcl
        rw [hiz] at HIV hil
        rw [hx, hRe] at HRN
        rw [hx] at hx8
        rw [hRe] at hRl bM2
        clear hx hcz hiz hRe
        have HBM := Lib.hid bM2
        have HBG := Lib.hid bG2
        have HBX := Lib.hid bX2
        have HK2 := Lib.hid hKW2
        have hzw : w.heap.size ≤ W7.heap.size := HE7.out.size
        clear bM2 bG2 bX2 hKW2
        gi_wp2_with fail
        refine Late.round (C := fun w' : World => Ex W7 w' ∧ (w'.cell? ⟨D, 0, none⟩ = some (.int .u64 (R : Int)) ∧ w'.cell? ⟨w.heap.size, 0, none⟩ = some (.slice (some ⟨b, o, none⟩) t0.length d0) ∧ w'.cell? ⟨B1, 0, none⟩ = some (.int .i64 (k : Int)) ∧
            w'.cell? ⟨b, o + cz, none⟩ = some (.slice (some ⟨bb cz, oo cz, none⟩) t0.length (C cz)) ∧ w'.cell? ⟨bb cz, oo cz + iz, none⟩ = some (.int .i64 (x : Int))))
          (fun j => j != 15) (by kernel_rfl) (by rfl) (by rintro ⟨_, _, h⟩; exact h) ⟨(Ex.refl W7).drew, HF.out _ (Ex.refl W7).drew⟩ ?_
        intro hS
        refine Late.take (i := 0) (oi := _) (v := ?_) rfl (by kernel_rfl) (by kernel_rfl) (by kernel_rfl) (by kernel_rfl) (fun _ _ _ h => h) (Or.inl ⟨by rfl, ?_⟩) hS ?_
        rotate_left
        · (intro w hSw; (try dsimp only at hSw); go_simp; first | done | with_reducible rfl)
        simp only [Act.put]
        refine Late.take (i := 1) (oi := _) (v := ?_) rfl (by kernel_rfl) (by kernel_rfl) (by kernel_rfl) (by kernel_rfl) (fun _ _ _ h => h) (Or.inl ⟨by rfl, ?_⟩) hS ?_
        rotate_left
        · (intro w hSw; (try dsimp only at hSw); go_simp; first | done | with_reducible rfl)
        simp only [Act.put]
        refine Late.take (i := 2) (oi := _) (v := ?_) rfl (by kernel_rfl) (by kernel_rfl) (by kernel_rfl) (by kernel_rfl) (fun _ _ _ h => h) (Or.inl ⟨by rfl, ?_⟩) hS ?_
        rotate_left
        · (intro w hSw; (try dsimp only at hSw); go_simp; first | done | with_reducible rfl)
        simp only [Act.put]
        refine Late.take (i := 3) (oi := _) (v := ?_) rfl (by kernel_rfl) (by kernel_rfl) (by kernel_rfl) (by kernel_rfl) (fun _ _ _ h => h) (Or.inl ⟨by rfl, ?_⟩) hS ?_
        rotate_left
        · (intro w hSw; (try dsimp only at hSw); go_simp; first | done | with_reducible rfl)
        simp only [Act.put]
        refine Late.take (i := 4) (oi := _) (v := ?_) rfl (by kernel_rfl) (by kernel_rfl) (by kernel_rfl) (by kernel_rfl) (fun _ _ _ h => h) (Or.inl ⟨by rfl, ?_⟩) hS ?_
        rotate_left
        · (intro w hSw; (try dsimp only at hSw); go_simp; first | done | with_reducible rfl)
        simp only [Act.put]
        refine Late.take (i := 5) (oi := _) (v := ?_) rfl (by kernel_rfl) (by kernel_rfl) (by kernel_rfl) (by kernel_rfl) (fun _ _ _ h => h) (Or.inl ⟨by rfl, ?_⟩) hS ?_
        rotate_left
        · (intro w hSw; (try dsimp only at hSw); go_simp; first | done | with_reducible rfl)
        simp only [Act.put]
        refine Late.take (i := 9) (oi := _) (v := ?_) rfl (by kernel_rfl) (by kernel_rfl) (by kernel_rfl) (by kernel_rfl) (fun _ _ _ h => h) (Or.inl ⟨by rfl, ?_⟩) hS ?_
        rotate_left
        · (intro w hSw; (try dsimp only at hSw); go_simp; first | done | with_reducible rfl)
        simp only [Act.put]
        refine Late.take (i := 10) (oi := _) (v := ?_) rfl (by kernel_rfl) (by kernel_rfl) (by kernel_rfl) (by kernel_rfl) (fun _ _ _ h => h) (Or.inl ⟨by rfl, ?_⟩) hS ?_
        rotate_left
        · (intro w hSw; (try dsimp only at hSw); go_simp; first | done | with_reducible rfl)
        simp only [Act.put]
        refine Late.one (i := 6) (o := _) (by kernel_rfl) rfl (fun K' hK' => ?_)
        rw [if_pos (by rfl)]
        go_simp
        refine (HCO.out _ hS.1).mono ?_
        rintro e w1 ⟨rfl, hew1⟩
        have hS1 := And.intro (hS.1.trans hew1) (HF.out _ (hS.1.trans hew1))
        refine hK'.out _ _ (fun _ => hS1) (fun _ => ?_)
        clear hK' K'
        refine Late.take (i := 7) (oi := _) (v := ?_) rfl (by kernel_rfl) (by kernel_rfl) (by kernel_rfl) (by kernel_rfl) (fun _ _ _ h => h) (Or.inl ⟨by rfl, ?_⟩) hS1 ?_
        rotate_left
        · (intro w hSw; (try dsimp only at hSw); go_simp; first | done | with_reducible rfl)
        simp only [Act.put]
        refine Late.take (i := 8) (oi := _) (v := ?_) rfl (by kernel_rfl) (by kernel_rfl) (by kernel_rfl) (by kernel_rfl) (fun _ _ _ h => h) (Or.inl ⟨by rfl, ?_⟩) hS1 ?_
        rotate_left
        · (intro w hSw; (try dsimp only at hSw); go_simp; first | done | with_reducible rfl)
        simp only [Act.put]
        refine Late.one (i := 11) (o := _) (by kernel_rfl) rfl (fun K' hK' => ?_)
        rw [if_pos (by rfl)]
        go_simp
        refine (HIV.out _ hS1.1).mono ?_
        rintro e w2 ⟨rfl, hew2⟩
        have hS2 := And.intro (hS1.1.trans hew2) (HF.out _ (hS1.1.trans hew2))
        refine hK'.out _ _ (fun _ => hS2) (fun _ => ?_)
        clear hK' K'
        refine Late.take (i := 12) (oi := _) (v := ?_) rfl (by kernel_rfl) (by kernel_rfl) (by kernel_rfl) (by kernel_rfl) (fun _ _ _ h => h) (Or.inl ⟨by rfl, ?_⟩) hS2 ?_
        rotate_left
        · (intro w hSw; (try dsimp only at hSw); go_simp; first | done | with_reducible rfl)
        simp only [Act.put]
        refine Late.take (i := 13) (oi := _) (v := ?_) rfl (by kernel_rfl) (by kernel_rfl) (by kernel_rfl) (by kernel_rfl) (fun _ _ _ h => h) (Or.inl ⟨by rfl, ?_⟩) hS2 ?_
        rotate_left
        · (intro w hSw; (try dsimp only at hSw); go_simp; first | done | with_reducible rfl)
        simp only [Act.put]
        refine Late.one (i := 14) (o := _) (by kernel_rfl) rfl (fun K' hK' => ?_)
        rw [if_pos (by rfl)]
        go_simp
        refine (with_any R x _ hRl hx8).mono ?_
        rintro e w' ⟨rfl, rfl⟩
        refine hK'.out _ _ (fun _ => hS2) (fun _ => ?_)
        clear hK' K'
        have c0 := (HBM.out.ex hS2.1).cell 0
        have f0 := (HBM.out.ex hS2.1).free 0
        refine Late.one (i := 15) (o := _) (by kernel_rfl) rfl (fun K' hK' => ?_)
        go_simp
        refine hK'.out _ _ (fun h => by cases h) (fun _ => ?_)
        clear hK' K'
        refine Late.done (by kernel_rfl) ?_ _
        exact ⟨(Keeps.of_below hS2.1 hzw).setCell (p := ⟨D, 0, none⟩) (by show w.heap.size ≤ D; omega) _, by show Has _ _ _ _; rw [HRN.out]; exact (HBM.out.ex hS2.1).put1,
          (HBG.out.ex hS2.1).far (p := ⟨D, 0, none⟩) (by show w.heap.size ≠ D; omega) _, (HBX.out.ex hS2.1).far (p := ⟨D, 0, none⟩) (by show B1 ≠ D; have := HBB.out; omega) _⟩
    case done =>
      rintro D' xs W hD' rfl ⟨bM, bG⟩ hKW hK
      rw [fin_all] at bM
      have bD : Has W D 51 #[.int .u64 (derS t0 : Int)] := bM
      have hEW : Ex w W := HE4.out.trans' hKW.1 (by omega)
      have HSM := Lib.hid (subgroupMadeBy_any (some ⟨b, o, none⟩) t0 d0 (derS t0) W (HRW.out.ex hEW) HG.out (derS_lt HG.out) (HTB.out.ex hEW))
      have HSL := Lib.hid (fun W' (he : Ex W W') => setList_any (clo t0 (derS t0 ||| 1)) W' hdl (HTB.out.ex (hEW.trans he)))
      obtain ⟨v, hv⟩ : ∃ v, clo t0 (derS t0 ||| 1) = v := ⟨_, rfl⟩
      rw [hv] at HSM HSL HQ
      obtain ⟨u, hu⟩ : ∃ u, derS t0 = u := ⟨_, rfl⟩
      rw [hu] at HSM bD
      clear hv hu bM
      have cs := bD.cell 0
      have cg := bG.cell 0
      have HEW := Lib.hid hEW
      have HKD := Lib.hid hK
      have hzD := (Array.getElem?_eq_some_iff.1 hK).1
      clear bD bG hKW hEW hK
      gi_wp2_with (first
        | (refine ⟨trivial, ?_⟩; gi_at_call 48; refine (callsIn_wide.2 HSM.out).mono ?_; rintro e W8 ⟨rfl, he8⟩; have HE8 := Lib.hid he8; clear he8)
        | (refine ⟨trivial, ?_⟩; gi_at_call 42; refine (callsIn_wide.2 (HSL.out _ HE8.out)).mono ?_; rintro e W9 ⟨A', c', rfl, he9, ho9⟩; have HE9 := Lib.hid (HE8.out.trans he9); have HO9 := Lib.hid ho9; have HZ8 := Lib.hid HE8.out.size; clear he9 ho9))
      have hK9 : W9.heap[D']? = some (.deferred (some [])) := (HE9.out.below.block D' hzD).trans HKD.out
      refine ⟨by simp, .inl ⟨_, _, rfl, run_takeDeferred hK9, ?_⟩⟩
      have hg8 := grownBy_putObj' W9 D' (.deferred none)
      have hE9 := HEW.out.trans HE9.out
      have hz9 := HE9.out.size
      refine ⟨_, results_tmp2 rfl _ _ _, A', c', by rw [HQ.out.1, HQ.out.2]; rfl, Below.grown hE9 hg8 hE9.size (fun k hk => by cases hk; omega), ?_⟩
      rw [HQ.out.1]
      have hsz : (W9.putObj D' (.deferred none)).heap.size = W9.heap.size := by simp [World.putObj]
      exact (HO9.out.keep (by rw [hsz]; exact Nat.le_refl _) (fun b hb hb' => hg8.block b hb' (fun e => by cases e; have := HZ8.out; omega))).mono (Nat.le_trans HEW.out.size HZ8.out) (by rw [hsz]; exact Nat.le_refl _) (by rw [hsz]; exact Nat.le_refl _)
    case stop =>
      rintro D c' pre W hD hpre h
      exact h.elim

theorem implDerivedOf_ex (t0 : List (List Int)) : ∀ (B0 : Option Addr) (d0 : Nat) (W : World), RwsW W B0 t0 → SmallT t0 → TabL W →
    Calls Tryd.prog 35 #[.agg #[.slice B0 t0.length d0]] W fun e W' => ∃ (C0 : Option Addr) (e0 : Nat), e = .returned (.tuple #[.slice C0 (yDerivedOf0 t0).length e0, .int .i64 (qDerivedOf1 t0)]) ∧ Ex W W' ∧ OwnL W' W.heap.size W'.heap.size C0 (yDerivedOf0 t0) :=
  fun B0 d0 W hR hs hT => implDerivedOf_any t0 B0 d0 W hR hs hT

end Go.Proofs.YtmmgmbgnlcfabaaDoor
