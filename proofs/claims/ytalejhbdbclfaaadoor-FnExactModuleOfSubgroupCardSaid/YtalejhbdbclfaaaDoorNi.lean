/- Normal subgroups: the program's side. -/
import Derived.Test.YtalejhbdbclfaaaDoorNr
import Derived.Test.YtalejhbdbclfaaaDoorCj
namespace Go.Proofs.YtalejhbdbclfaaaDoor
open Go.RowKit Go.Shelf

attribute [local go_sem] Oper.semAt_some

theorem bit_testU : ∀ s : Nat, s < 256 → ∀ a : Nat, a < 8 → (bits BinOp.and IntKind.u64 ((s : Int) / 2 ^ a) 1 == 1) = s.testBit a := by decide +kernel

set_option maxHeartbeats 400000 in
theorem has_any (s a : Nat) (w : World) (hs : s < 256) (ha : a < 8) :
    Calls Tryd.prog 170 #[.int .u64 (s : Int), .int .i64 (a : Int)] w fun e w' => e = .returned (.bool (s.testBit a)) ∧ w = w' := by
  have hb := bit_testU s hs a ha
  obtain ⟨q, hq⟩ : ∃ q, s.testBit a = q := ⟨_, rfl⟩
  rw [hq] at hb ⊢
  clear hq
  go_enter Tryd.func170, Tryd.ntmps170
  go_wp2
  go_ret
  first
    | exact ⟨rfl, rfl⟩
    | exact ⟨by rw [← hb]; rfl, rfl⟩

set_option maxRecDepth 100000 in
set_option maxHeartbeats 1000000 in
theorem isSubgroup_any (A : Option Addr) (t : List (List Int)) (c s : Nat) (w : World) (hR : RwsW w A t) (hg : IsGrp t) (hs : s < 2 ^ t.length) (hT : TabL w) :
    Calls Tryd.prog 108 #[.agg #[.slice A t.length c], .int .u64 (s : Int)] w fun e w' => e = .returned (.bool (subB t s)) ∧ Ex w w' := by
  have e0 : Ex w (w.alloc (.cells #[.slice A t.length c] 27)) := (Ex.refl w).alloc _
  have b0 : Has (w.alloc (.cells #[.slice A t.length c] 27)) (w.heap.size) 27 #[.slice A t.length c] := (Has.newAt (w := w) (e := 27) (cs := #[.slice A t.length c]) (k := w.heap.size) (by simp))
  have hs256 := lt256 hg.n8 hs
  have HWP := Lib.hid (withProducts_any A t c s (w.alloc (.cells #[.slice A t.length c] 27)) (hR.ex e0) hg hs (hT.ex e0))
  have HE0 := Lib.hid e0
  cases hb : s.testBit 0 with
  | false =>
    have HH := Lib.hid (hb ▸ has_any s 0 (w.alloc (.cells #[.slice A t.length c] 27)) hs256 (by omega))
    have HQ : Hid (subB t s = false) := Lib.hid (by rw [subB, hb]; rfl)
    clear hR hg hs hT hb b0 e0 HWP
    go_enter Tryd.func108, Tryd.ntmps108
    go_wp2_with fail
    generalize (w.alloc (.cells #[.slice A t.length c] 27)) = W0 at *
    refine HH.out.mono ?_
    rintro e w' ⟨rfl, rfl⟩
    clear HH
    go_wp2_with fail
    go_ret
    exact ⟨by rw [HQ.out]; rfl, HE0.out⟩
  | true =>
    have HH := Lib.hid (hb ▸ has_any s 0 (w.alloc (.cells #[.slice A t.length c] 27)) hs256 (by omega))
    have HQ : Hid (subB t s = ((stp t s : Int) == (s : Int))) := Lib.hid (by
      rw [subB, hb, Bool.true_and, Bool.eq_iff_iff]
      simp only [beq_iff_eq, Int.natCast_inj])
    have c0 := b0.cell 0
    obtain ⟨S, hS⟩ : ∃ S, stp t s = S := ⟨_, rfl⟩
    rw [hS] at HQ HWP
    obtain ⟨q, hq⟩ : ∃ q, ((S : Int) == (s : Int)) = q := ⟨_, rfl⟩
    rw [hq] at HQ
    clear hR hg hs hT hb b0 e0 hS
    go_enter Tryd.func108, Tryd.ntmps108
    go_wp2_with fail
    generalize (w.alloc (.cells #[.slice A t.length c] 27)) = W0 at *
    refine HH.out.mono ?_
    rintro e w' ⟨rfl, rfl⟩
    clear HH
    go_wp2_with fail
    refine HWP.out.mono ?_
    rintro e W2 ⟨rfl, he2⟩
    have HE2 := Lib.hid he2
    clear he2 HWP
    go_wp2_with fail
    go_ret
    exact ⟨by rw [HQ.out]; rfl, HE0.out.trans HE2.out⟩

set_option maxRecDepth 100000 in
set_option maxHeartbeats 4000000 in
theorem isNormalSubgroup_any (A : Option Addr) (t : List (List Int)) (c s : Nat) (w : World) (hR : RwsW w A t) (hg : IsGrp t) (hs : s < 2 ^ t.length) (hT : TabL w) (hsub : subB t s = true) :
    Calls Tryd.prog 195 #[.agg #[.slice A t.length c], .int .u64 (s : Int)] w fun e w' => e = .returned (.bool (norB t s)) ∧ Ex w w' := by
  have hn8 := hg.n8
  have hs256 := lt256 hn8 hs
  have HG := Lib.hid hg
  have HRW := Lib.hid hR
  have HSL := Lib.hid hs
  have HTB := Lib.hid hT
  have hTl := hT.lt
  have HSG := Lib.hid (fun W (he : Ex w W) => hsub ▸ isSubgroup_any A t c s W (hR.ex he) hg hs (hT.ex he))
  clear hR hg hs hT hsub
  refine (callsIn_wide (n := 20)).1 ?_
  refine callsIn_of_wp_marks Tryd.func195 rfl trivial ?_ rfl
  simp only [Tryd.ntmps195, List.size_toArray, List.length_cons, List.length_nil, Nat.reduceAdd, Nat.reduceSub, Array.replicate_succ, Array.replicate_zero, List.push_toArray, List.append_toArray, List.nil_append, List.cons_append]
  have e0 : Ex w (((w.alloc (.cells #[.slice A t.length c] 27)).alloc (.cells #[.int .u64 (s : Int)] 129)).alloc (.cells #[.bool false] 4)) := (((Ex.refl w).alloc _).alloc _).alloc _
  have b0 : Has (((w.alloc (.cells #[.slice A t.length c] 27)).alloc (.cells #[.int .u64 (s : Int)] 129)).alloc (.cells #[.bool false] 4)) (w.heap.size) 27 #[.slice A t.length c] := (((Has.newAt (w := w) (e := 27) (cs := #[.slice A t.length c]) (k := w.heap.size) (by simp)).alloc _).alloc _)
  have b1 : Has (((w.alloc (.cells #[.slice A t.length c] 27)).alloc (.cells #[.int .u64 (s : Int)] 129)).alloc (.cells #[.bool false] 4)) (w.heap.size + 1) 129 #[.int .u64 (s : Int)] := ((Has.newAt (w := (w.alloc (.cells #[.slice A t.length c] 27))) (e := 129) (cs := #[.int .u64 (s : Int)]) (k := w.heap.size + 1) (by simp)).alloc _)
  have b2 : Has (((w.alloc (.cells #[.slice A t.length c] 27)).alloc (.cells #[.int .u64 (s : Int)] 129)).alloc (.cells #[.bool false] 4)) (w.heap.size + 1 + 1) 4 #[.bool false] := (Has.newAt (w := ((w.alloc (.cells #[.slice A t.length c] 27)).alloc (.cells #[.int .u64 (s : Int)] 129))) (e := 4) (cs := #[.bool false]) (k := w.heap.size + 1 + 1) (by simp))
  gi_wp2_with fail
  have hsz : (((w.alloc (.cells #[.slice A t.length c] 27)).alloc (.cells #[.int .u64 (s : Int)] 129)).alloc (.cells #[.bool false] 4)).heap.size = w.heap.size + 1 + 1 + 1 := by simp
  generalize (((w.alloc (.cells #[.slice A t.length c] 27)).alloc (.cells #[.int .u64 (s : Int)] 129)).alloc (.cells #[.bool false] 4)) = W0 at *
  refine ⟨trivial, (callsIn_wide.2 (HSG.out W0 e0)).mono ?_⟩
  rintro e W1 ⟨rfl, he1⟩
  have HE1 := Lib.hid (e0.trans he1)
  have HB0 := Lib.hid (b0.ex he1)
  have HB1 := Lib.hid (b1.ex he1)
  have HB2 := Lib.hid (b2.ex he1)
  have hzz : w.heap.size + 1 + 1 + 1 ≤ W1.heap.size := by have := he1.size; omega
  clear b0 b1 b2 e0 he1 hsz HSG
  have c1 := HB1.out.cell 0
  gi_wp2_with (refine ⟨trivial, ?_⟩; gi_at_call 173; refine (callsIn_wide.2 (setAll_any s _)).mono ?_; rintro e w' ⟨rfl, rfl⟩)
  clear c1
  obtain ⟨D, hD⟩ : ∃ D, W1.heap.size = D := ⟨_, rfl⟩
  have e4 := HE1.out.alloc (.cells #[.int .u64 (s : Int)] 129)
  have bE := Has.newAt (w := W1) (e := 129) (cs := #[.int .u64 (s : Int)]) (k := D) hD
  have bG := HB0.out.alloc (.cells #[.int .u64 (s : Int)] 129)
  have bS := HB1.out.alloc (.cells #[.int .u64 (s : Int)] 129)
  have bR := HB2.out.alloc (.cells #[.int .u64 (s : Int)] 129)
  have hz4 : (W1.alloc (.cells #[.int .u64 (s : Int)] 129)).heap.size = D + 1 := by simp [hD]
  rw [hD] at hzz ⊢
  clear HB0 HB1 HB2 HE1
  generalize (W1.alloc (.cells #[.int .u64 (s : Int)] 129)) = W4 at *
  have HE4 := Lib.hid e4
  have HZ4 := Lib.hid hz4
  have hT4 := HTB.out.ex e4
  clear e4 hD
  refine range_topB (n := 20) (n₀ := w.heap.size) (by omega) (gf := 202) (lb := #[.pointer (some ⟨D, 0, none⟩)]) rfl (enters_of Tryd.func202 (by kernel_rfl) rfl)
    (all_stops 19 (by omega) D w.heap.size s W4 hs256 (by omega) (bE.cell 0) hT4 hTl) (by omega) (fun _ => rfl) 2 (fun x => .int .i64 (x.1 : Int))
    (fun pre W => ((∀ x ∈ pre, ∀ c : Fin t.length, s.testBit (con t x.1 c.val) = true) ∧ Has W (w.heap.size + 1 + 1) 4 #[.bool false]) ∧ Has W w.heap.size 27 #[.slice A t.length c] ∧ Has W (w.heap.size + 1) 129 #[.int .u64 (s : Int)])
    (fun c' _ W => (c' = .ret ∧ ¬ NorP t s) ∧ Has W (w.heap.size + 1 + 1) 4 #[.bool false])
    (OwnFrom.and (OwnFrom.and (ownFrom_pure _ _) (Own.from (has_own _ _ _) _)) (OwnFrom.and (Own.from (has_own _ _ _) _) (Own.from (has_own _ _ _) _)))
    (fun _ => OwnFrom.and (ownFrom_pure _ _) (Own.from (has_own _ _ _) _))
    ⟨⟨by simp, bR⟩, bG, bS⟩ ?round ?done ?stop
  case round =>
    clear bE bG bS bR hz4 hT4
    intro l x W K hK
    have HK := Lib.hid hK
    clear hK
    gi_wp2
    refine HK.out _ ?_
    clear HK
    rintro l B1 pre W5 hB1 hle1 hr ⟨⟨hp, bR⟩, bG, bS⟩ hKW bX _
    rw [hB1]
    clear hB1
    obtain ⟨a, ha⟩ := x
    dsimp only at bX
    have HKW := Lib.hid hKW
    have HR := Lib.hid hr
    have HP := Lib.hid hp
    have haN := el_lt HSL.out ha
    clear hKW hr hp
    have hbox := bG.cell 0
    gi_wp2_with (refine ⟨trivial, ?_⟩; gi_at_call 159; refine (CallsIn.inRound l (callsIn_wide.2 (elementsOf_any _ t.length c _))).mono ?_; rintro e w' ⟨rfl, rfl⟩)
    clear hbox
    have bRA := bR.alloc (.cells #[.slice A t.length c] 27)
    have bGA := bG.alloc (.cells #[.slice A t.length c] 27)
    have bSA := bS.alloc (.cells #[.slice A t.length c] 27)
    have bXA : Has (W5.alloc (.cells #[.slice A t.length c] 27)) B1 2 #[.int .i64 (a : Int)] := Has.alloc bX _
    have bEA := Has.new W5 27 #[.slice A t.length c]
    have hK1 : Keeps w.heap.size W5 (W5.alloc (.cells #[.slice A t.length c] 27)) := (Keeps.refl _ _).alloc (by have := bG.lt; omega) _
    have hszA : (W5.alloc (.cells #[.slice A t.length c] 27)).heap.size = W5.heap.size + 1 := by simp
    have hrA : ∃ r, (W5.alloc (.cells #[.slice A t.length c] 27)).heap[l]? = some (.loop r) := by
      obtain ⟨r, hr⟩ := HR.out
      exact ⟨r, (Below.heap_alloc W5 _ l (Array.getElem?_eq_some_iff.1 hr).1).trans hr⟩
    have hltG := bG.lt
    clear bR bG bS bX
    obtain ⟨W6, hW6⟩ : ∃ W6, W5.alloc (.cells #[.slice A t.length c] 27) = W6 := ⟨_, rfl⟩
    rw [hW6] at bRA bGA bSA bXA bEA hK1 hszA hrA ⊢
    clear hW6
    have HK1 := Lib.hid hK1
    have hE6 : Ex w W6 := HE4.out.trans' (HKW.out.1.trans hK1.1) (Nat.le_refl _)
    refine range_in (n := 20 - 1 - 1) (n₀ := w.heap.size) (by omega) hrA (gf := 198) (lb := #[.pointer (some ⟨W5.heap.size, 0, none⟩)]) rfl (enters_of Tryd.func198 (by kernel_rfl) rfl)
      (elements_stops (20 - 1 - 1 - 1) (by omega) W5.heap.size w.heap.size t.length c _ W6 (by omega) (bEA.cell 0) (by omega)) (by omega) (fun _ => rfl)
      (fun pre W => ((∀ x ∈ pre, s.testBit (con t a x.val) = true) ∧ Has W (w.heap.size + 1 + 1) 4 #[.bool false]) ∧ Has W w.heap.size 27 #[.slice A t.length c] ∧ Has W (w.heap.size + 1) 129 #[.int .u64 (s : Int)] ∧ Has W B1 2 #[.int .i64 (a : Int)])
      (fun c' _ W => (c' = .ret ∧ ¬ NorP t s) ∧ Has W (w.heap.size + 1 + 1) 4 #[.bool false])
      (OwnFrom.and (OwnFrom.and (ownFrom_pure _ _) (Own.from (has_own _ _ _) _)) (OwnFrom.and (Own.from (has_own _ _ _) _) (OwnFrom.and (Own.from (has_own _ _ _) _) (Own.from (has_own _ _ _) _))))
      (fun _ => OwnFrom.and (ownFrom_pure _ _) (Own.from (has_own _ _ _) _))
      ⟨⟨by simp, bRA⟩, bGA, bSA, bXA⟩ ?round2 ?done2 ?stop2
    case done2 =>
      rintro ys W rfl ⟨⟨hq, bR2⟩, bG2, bS2, _⟩ hKW2
      have HQ2 := Lib.hid hq
      clear hq
      gi_wp2
      exact ⟨HK1.out.trans hKW2, ⟨fun y hy => (List.mem_append.1 hy).elim (HP.out y) (fun e => by simp at e; subst e; exact fun c => HQ2.out c (List.mem_finRange c)), bR2⟩, bG2, bS2⟩
    case stop2 =>
      rintro c' pre' W hpre ⟨⟨rfl, hx⟩, bR2⟩ hKW2
      have HX := Lib.hid hx
      clear hx
      gi_wp2
      exact ⟨HK1.out.trans hKW2, ⟨rfl, HX.out⟩, bR2⟩
    case round2 =>
      clear bRA bGA bSA bXA bEA hK1 hszA hrA
      have HE6 := Lib.hid hE6
      clear hE6
      intro l2 y W K hK
      have HK := Lib.hid hK
      clear hK
      gi_wp2
      refine HK.out _ ?_
      clear HK
      rintro l2 pre2 W7 hr2 ⟨⟨hp2, bR2⟩, bG2, bS2, bX2⟩ hKW2 _
      obtain ⟨j, hj⟩ := y
      have hE7 : Ex w W7 := HE6.out.trans' hKW2.1 (Nat.le_refl _)
      have HE7 := Lib.hid hE7
      have hcl := con_lt HG.out haN hj
      have HCO := Lib.hid (fun W' (he : Ex W7 W') => conjugateOf_any A t c a j W' (HRW.out.ex (HE7.out.trans he)) HG.out haN hj)
      have HF := Lib.hid (fun W' (he : Ex W7 W') => (⟨(Has.ex bS2 he).cell 0, (Has.ex bG2 he).cell 0, (Has.ex bX2 he).cell 0⟩ :
          W'.cell? ⟨w.heap.size + 1, 0, none⟩ = some (.int .u64 (s : Int)) ∧ W'.cell? ⟨w.heap.size, 0, none⟩ = some (.slice A t.length c) ∧ W'.cell? ⟨B1, 0, none⟩ = some (.int .i64 (a : Int))))
      obtain ⟨z, hz⟩ : ∃ z, con t a j = z := ⟨_, rfl⟩
      have HZ := Lib.hid hz
      rw [hz] at HCO hcl
      have hz8 : z < 8 := by omega
      have HP2 := Lib.hid hp2
      have HBR := Lib.hid bR2
      have HBG := Lib.hid bG2
      have HBS := Lib.hid bS2
      have HBX := Lib.hid bX2
      have hzw : w.heap.size ≤ W7.heap.size := HE7.out.size
      have HHA := Lib.hid (fun W' => has_any s z W' hs256 hz8)
      obtain ⟨q, hq⟩ : ∃ q, s.testBit z = q := ⟨_, rfl⟩
      rw [hq] at HHA
      have HBQ := Lib.hid hq
      clear hz hp2 bR2 bG2 bS2 bX2 hKW2 hE7 hq
      gi_wp2_with fail
      refine Late.round (C := fun w' : World => Ex W7 w' ∧ (w'.cell? ⟨w.heap.size + 1, 0, none⟩ = some (.int .u64 (s : Int)) ∧ w'.cell? ⟨w.heap.size, 0, none⟩ = some (.slice A t.length c) ∧ w'.cell? ⟨B1, 0, none⟩ = some (.int .i64 (a : Int))))
        (fun _ => true) (by kernel_rfl) (by rfl) (by rintro ⟨_, _, h⟩; exact h) ⟨(Ex.refl W7).drew, HF.out _ (Ex.refl W7).drew⟩ ?_
      intro hS
      refine Late.take (i := 0) (oi := _) (v := ?_) rfl (by kernel_rfl) (by kernel_rfl) (by kernel_rfl) (by kernel_rfl) (fun _ _ _ h => h) (Or.inl ⟨by rfl, ?_⟩) hS ?_
      rotate_left
      · (intro w hSw; (try dsimp only at hSw); go_simp; first | done | with_reducible rfl)
      simp only [Act.put]
      refine Late.take (i := 1) (oi := _) (v := ?_) rfl (by kernel_rfl) (by kernel_rfl) (by kernel_rfl) (by kernel_rfl) (fun _ _ _ h => h) (Or.inl ⟨by rfl, ?_⟩) hS ?_
      rotate_left
      · (intro w hSw; (try dsimp only at hSw); go_simp; first | done | with_reducible rfl)
      simp only [Act.put]
      refine Late.take (i := 2) (oi := _) (v := ?_) rfl (by kernel_rfl) (by kernel_rfl) (by kernel_rfl) (by kernel_rfl) (fun _ _ _ h => h) (Or.inl ⟨by rfl, ?_⟩) hS ?_
      rotate_left
      · (intro w hSw; (try dsimp only at hSw); go_simp; first | done | with_reducible rfl)
      simp only [Act.put]
      refine Late.take (i := 3) (oi := _) (v := ?_) rfl (by kernel_rfl) (by kernel_rfl) (by kernel_rfl) (by kernel_rfl) (fun _ _ _ h => h) (Or.inl ⟨by rfl, ?_⟩) hS ?_
      rotate_left
      · (intro w hSw; (try dsimp only at hSw); go_simp; first | done | with_reducible rfl)
      simp only [Act.put]
      refine Late.one (i := 4) (o := _) (by kernel_rfl) rfl (fun K' hK' => ?_)
      rw [if_pos (by rfl)]
      go_simp
      refine (HCO.out _ hS.1).mono ?_
      rintro e w1 ⟨rfl, he1⟩
      have hS1 := And.intro (hS.1.trans he1) (HF.out _ (hS.1.trans he1))
      refine hK'.out _ _ (fun _ => hS1) (fun _ => ?_)
      clear hK' K'
      refine Late.one (i := 5) (o := _) (by kernel_rfl) rfl (fun K' hK' => ?_)
      rw [if_pos (by rfl)]
      go_simp
      refine (HHA.out _).mono ?_
      rintro e w' ⟨rfl, rfl⟩
      refine hK'.out _ _ (fun _ => hS1) (fun _ => ?_)
      clear hK' K'
      refine Late.take (i := 6) (oi := _) (v := ?_) rfl (by kernel_rfl) (by kernel_rfl) (by kernel_rfl) (by kernel_rfl) (fun _ _ _ h => h) (Or.inl ⟨by rfl, ?_⟩) hS1 ?_
      rotate_left
      · (intro w hSw; (try dsimp only at hSw); go_simp; first | done | with_reducible rfl)
      simp only [Act.put]
      refine Late.done (by kernel_rfl) ?_ _
      have HS1 := Lib.hid hS1.1
      have hres := (HBR.out.ex hS1.1).cell 0
      have hfre := (HBR.out.ex hS1.1).free 0
      clear hS hS1 he1
      cases q with
      | true =>
        gi_wp2_with fail
        exact ⟨Keeps.of_below HS1.out hzw, ⟨fun y hy => (List.mem_append.1 hy).elim (HP2.out y) (fun e => by simp at e; subst e; show s.testBit (con t a j) = true; rw [HZ.out]; exact HBQ.out), HBR.out.ex HS1.out⟩, HBG.out.ex HS1.out, HBS.out.ex HS1.out, HBX.out.ex HS1.out⟩
      | false =>
        gi_wp2_with fail
        exact ⟨(Keeps.of_below HS1.out hzw).setCell (p := ⟨w.heap.size + 1 + 1, 0, none⟩) (by show w.heap.size ≤ w.heap.size + 1 + 1; omega) _, ⟨rfl, fun h => by
          have h2 := h a ha j hj
          rw [HZ.out, HBQ.out] at h2
          cases h2⟩, (HBR.out.ex HS1.out).put1⟩
  case done =>
    rintro D' xs W hD' hxs ⟨⟨hp, bR1⟩, _⟩ hKW hK
    have hres := bR1.cell 0
    have hfre := bR1.free 0
    have HN : Hid (norB t s = true) := Lib.hid (norB_true fun b hb c hc => by
      obtain ⟨y, hy, rfl⟩ := List.mem_map.1 (hxs.symm ▸ hb : b ∈ xs.map fun x => x.1)
      exact hp y hy ⟨c, hc⟩)
    have HKW := Lib.hid hKW
    clear hp hKW
    gi_wp2
    have hK' := (KeepsOthers.setCell W ⟨w.heap.size + 1 + 1, 0, none⟩ (.bool true)).same D' _ hK rfl
    refine ⟨by simp, .inl ⟨_, _, rfl, run_takeDeferred hK', ?_⟩⟩
    have hc5 := cell_kept (show (W.setCell ⟨w.heap.size + 1 + 1, 0, none⟩ (.bool true)).cell? ⟨w.heap.size + 1 + 1, 0, none⟩ = some (.bool true) from (bR1.put1 (v := .bool true)).cell 0) (grownBy_putObj' _ D' (.deferred none)) (fun r e => by cases e; exact ⟨_, hK', rfl⟩)
    refine ⟨.bool true, ?_, by rw [HN.out], (((Ex.below HE4.out).trans HKW.out.1).setCell (p := ⟨w.heap.size + 1 + 1, 0, none⟩) (by show w.heap.size ≤ w.heap.size + 1 + 1; omega) _).trans (belowK_b (w := w) (Nat.le_refl _) _ D' _ _ (by omega) hK' rfl rfl)⟩
    simp [results, Tryd.f195, go_sem, hc5]
  case stop =>
    rintro D' c' pre W hD' hpre ⟨⟨rfl, hx⟩, bR1⟩ hKW hK
    have HN := Lib.hid (norB_false hx)
    have HKW := Lib.hid hKW
    clear hx hKW
    gi_wp2
    refine ⟨by simp, .inl ⟨_, _, rfl, run_takeDeferred hK, ?_⟩⟩
    have hc5 := cell_kept (show W.cell? ⟨w.heap.size + 1 + 1, 0, none⟩ = some (.bool false) from bR1.cell 0) (grownBy_putObj' _ D' (.deferred none)) (fun r e => by cases e; exact ⟨_, hK, rfl⟩)
    refine ⟨.bool false, ?_, by rw [HN.out], ((Ex.below HE4.out).trans HKW.out.1).trans (belowK_b (w := w) (Nat.le_refl _) W D' _ _ (by omega) hK rfl rfl)⟩
    simp [results, Tryd.f195, go_sem, hc5]

end Go.Proofs.YtalejhbdbclfaaaDoor
