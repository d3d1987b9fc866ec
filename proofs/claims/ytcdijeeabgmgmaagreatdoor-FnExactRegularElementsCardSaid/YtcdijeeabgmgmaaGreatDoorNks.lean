/- Ci Cj Ni Sb Nk in one text. -/
import Derived.Deep.RegionHeld3
import Derived.Test.YtcdijeeabgmgmaaGreatDoorNrm
import Derived.Test.YtcdijeeabgmgmaaGreatDoorSm
import Derived.Test.YtcdijeeabgmgmaaGreatDoorIsg
import Derived.Test.YtcdijeeabgmgmaaGreatDoorBa
/- Sets of elements, by the program. -/
namespace Go.Proofs.YtcdijeeabgmgmaaGreatDoor
open Go.RowKit Go.Shelf

attribute [local go_sem] Oper.semAt_some

theorem isElement_ex (A : Option Addr) (n c : Nat) (a : Int) (w : World) (hn : n ≤ 1048576) :
    Calls Tryz.prog 154 #[.agg #[.slice A n c], .int .i64 a] w fun e w' => e = .returned (.bool (decide (0 ≤ a ∧ a < n))) ∧ Ex w w' := isElement_any A n c a w hn

set_option maxRecDepth 100000 in
set_option maxHeartbeats 1000000 in
theorem isElementSet_any (A L : Option Addr) (xs : List Int) (N c c' : Nat) (w : World) (hX : IntsW w L xs) (hN : N ≤ 8) (hx : xs.length ≤ 1048576) :
    Calls Tryz.prog 147 #[.agg #[.slice A N c], .slice L xs.length c'] w fun e w' => e = .returned (.bool (setB N xs)) ∧ Ex w w' := by
  have e0 : Ex w (w.alloc (.cells #[.slice A N c] 32)) := (Ex.refl w).alloc _
  have b0 : Has (w.alloc (.cells #[.slice A N c] 32)) (w.heap.size) 32 #[.slice A N c] := (Has.newAt (w := w) (e := 32) (cs := #[.slice A N c]) (k := w.heap.size) (by simp))
  have HX := Lib.hid (hX.ex e0)
  have HE0 := Lib.hid e0
  have HB0 := Lib.hid b0
  have hN1 : N ≤ 1048576 := by omega
  clear hX
  go_enter Tryz.func147, Tryz.ntmps147
  go_wp2_with fail
  generalize (w.alloc (.cells #[.slice A N c] 32)) = W0 at *
  clear e0 b0
  go_loopw [9] (fun i wr => ∃ k : Nat, k ≤ xs.length ∧ i = .int .i64 (k : Int) ∧ Hid (∀ j, j < k → 0 ≤ nth xs j ∧ nth xs j < N) ∧ Hid (ascP xs k) ∧ Hid (Ex W0 wr)) (fun i _ => xs.length - (intOf i).toNat)
  case atStart => exact ⟨0, Nat.zero_le _, rfl, Lib.hid fun j hj => absurd hj (by omega), Lib.hid fun i h0 h1 => absurd h1 (by omega), Lib.hid (Ex.refl _)⟩
  case round =>
    obtain ⟨k, hk, rfl, HR, HA, HE⟩ := hrel
    by_cases hlt : k < xs.length
    · obtain ⟨bx, ox, rfl, hbx, hcx⟩ := (HX.out.ex HE.out).ints.at_ hlt
      have c0 := (HB0.out.ex HE.out).cell 0
      by_cases hr : 0 ≤ nth xs k ∧ nth xs k < (N : Int)
      · have HRK := Lib.hid hr
        have hd : decide (0 ≤ nth xs k ∧ nth xs k < (N : Int)) = true := by simp [hr]
        have HIE := Lib.hid (fun W => hd ▸ isElement_ex A N c (nth xs k) W hN1)
        have HR2 : Hid (∀ j, j < k + 1 → 0 ≤ nth xs j ∧ nth xs j < N) := Lib.hid (fun j hj => by
          rcases Nat.lt_or_ge j k with h | h
          · exact HR.out j h
          · obtain rfl : j = k := by omega
            exact HRK.out)
        clear hr hd
        by_cases h0 : 0 < k
        · obtain ⟨j, rfl⟩ : ∃ j, k = j + 1 := ⟨k - 1, by omega⟩
          have hcy : wr.cell? ⟨bx, ox + j, none⟩ = some (.int .i64 (nth xs j)) := by
            obtain ⟨by_, oy, ey, _, hy⟩ := (HX.out.ex HE.out).ints.at_ (show j < xs.length by omega)
            cases ey
            exact hy
          have hgt : decide ((0 : Int) < ((j + 1 : Nat) : Int)) = true := decide_eq_true (by omega)
          by_cases hq : nth xs j < nth xs (j + 1)
          · have hge : decide (nth xs (j + 1) ≤ nth xs j) = false := by simp; omega
            have HAS := Lib.hid hq
            clear hq
            go_wp2_with (go_at_call 154; refine (HIE.out _).mono ?_; rintro e w5 ⟨rfl, he5⟩; have hcy5 := ((he5.below.cell (p := ⟨bx, ox + j, none⟩) hbx).trans hcy); have HE5 := Lib.hid (HE.out.trans he5))
            go_roundw
            case rel => exact ⟨j + 1 + 1, by omega, by go_num, HR2, Lib.hid (fun i h0 h1 => by
              rcases Nat.lt_or_ge i (j + 1) with h | h
              · exact HA.out i h0 h
              · obtain rfl : i = j + 1 := by omega
                exact HAS.out), HE5⟩
            case measure => simp [intOf]; omega
          · have hge : decide (nth xs (j + 1) ≤ nth xs j) = true := by simp; omega
            have HAS := Lib.hid (setB_asc (N := N) (i := j + 1) (by omega) hlt hq)
            clear hq
            go_wp2_with (go_at_call 154; refine (HIE.out _).mono ?_; rintro e w5 ⟨rfl, he5⟩; have hcy5 := ((he5.below.cell (p := ⟨bx, ox + j, none⟩) hbx).trans hcy); have HE5 := Lib.hid (HE.out.trans he5))
            go_ret
            exact ⟨by rw [HAS.out]; rfl, HE0.out.trans HE5.out⟩
        · obtain rfl : k = 0 := by omega
          simp only [Nat.add_zero] at hcx
          go_wp2_with (go_at_call 154; refine (HIE.out _).mono ?_; rintro e w5 ⟨rfl, he5⟩; have HE5 := Lib.hid (HE.out.trans he5))
          go_roundw
          case rel => exact ⟨1, by omega, by go_num, HR2, Lib.hid (fun i h0 h1 => absurd h1 (by omega)), HE5⟩
          case measure => simp [intOf]; omega
      · have hd : decide (0 ≤ nth xs k ∧ nth xs k < (N : Int)) = false := decide_eq_false hr
        have HIE := Lib.hid (fun W => hd ▸ isElement_ex A N c (nth xs k) W hN1)
        have HAS := Lib.hid (setB_rng (N := N) hlt hr)
        clear hr hd
        go_wp2_with (go_at_call 154; refine (HIE.out _).mono ?_; rintro e w5 ⟨rfl, he5⟩; have HE5 := Lib.hid (HE.out.trans he5))
        go_ret
        exact ⟨by rw [HAS.out]; rfl, HE0.out.trans HE5.out⟩
    · obtain rfl : k = xs.length := by omega
      have HS := Lib.hid (setB_true.2 ⟨HR.out, HA.out⟩)
      go_wp2_with fail
      go_ret
      exact ⟨by rw [HS.out]; rfl, HE0.out.trans HE.out⟩

set_option maxRecDepth 100000 in
set_option maxHeartbeats 1000000 in
theorem setOf_any (L : Option Addr) (xs : List Int) (c N : Nat) (w : World) (hX : IntsW w L xs) (hx : xs.length ≤ 1048576) (hN : N ≤ 8) (hr : ∀ i, i < xs.length → 0 ≤ nth xs i ∧ nth xs i < N) :
    Calls Tryz.prog 92 #[.slice L xs.length c] w fun e w' => e = .returned (.int .u64 (bitsK xs xs.length : Int)) ∧ w = w' := by
  have HX := Lib.hid hX
  have HR := Lib.hid hr
  have HL := Lib.hid (fun k hk => lt256 hN (bitsK_lt hr k hk))
  clear hX hr
  go_enter Tryz.func92, Tryz.ntmps92
  go_wp2_with fail
  go_loop [3, 8] (fun s i => ∃ k : Nat, k ≤ xs.length ∧ i = .int .i64 (k : Int) ∧ s = .int .u64 (bitsK xs k : Int)) (fun _ i => xs.length - (intOf i).toNat)
  case atStart => exact ⟨0, Nat.zero_le _, rfl, rfl⟩
  case round =>
    obtain ⟨k, hk, rfl, rfl⟩ := hrel
    by_cases hlt : k < xs.length
    · obtain ⟨bx, ox, rfl, hbx, hcx⟩ := HX.out.ints.at_ hlt
      have hxr := HR.out k hlt
      obtain ⟨x, hx2⟩ : ∃ x : Nat, nth xs k = (x : Int) := ⟨(nth xs k).toNat, by omega⟩
      have hl2 := HL.out k hk
      have HBK : Hid (bitsK xs (k + 1) = bitsK xs k ||| 2 ^ x) := Lib.hid (by simp [bitsK, hx2])
      rw [hx2] at hcx hxr
      have hx8 : x < 8 := by omega
      obtain ⟨s, hs⟩ : ∃ s, bitsK xs k = s := ⟨_, rfl⟩
      rw [hs] at hl2 HBK ⊢
      clear hs hx2
      go_wp2_with (go_at_call 75; refine (with_any s x _ hl2 hx8).mono ?_; rintro e w' ⟨rfl, rfl⟩)
      go_round
      case rel => exact ⟨k + 1, by omega, by go_num, by rw [HBK.out]⟩
      case measure => simp [intOf]; omega
    · obtain rfl : k = xs.length := by omega
      go_wp2_with fail
      go_ret
      exact ⟨rfl, rfl⟩

end Go.Proofs.YtcdijeeabgmgmaaGreatDoor

/- Closed sets, by the program. -/
namespace Go.Proofs.YtcdijeeabgmgmaaGreatDoor
open Go.RowKit Go.Shelf

attribute [local go_sem] Oper.semAt_some

theorem map_snoc {s : Nat} (pre : List {a : Nat // a ∈ elN s}) (x : {a : Nat // a ∈ elN s}) : (pre ++ [x]).map (fun x => x.1) = pre.map (fun x => x.1) ++ [x.1] := by simp

set_option maxRecDepth 100000 in
set_option maxHeartbeats 2000000 in
theorem withProducts_any (A : Option Addr) (t : List (List Int)) (c s : Nat) (w : World) (hR : RwsW w A t) (hg : IsGrp t) (hs : s < 2 ^ t.length) (hT : TabL w) :
    Calls Tryz.prog 155 #[.agg #[.slice A t.length c], .int .u64 (s : Int)] w fun e w' => e = .returned (.int .u64 (stp t s : Int)) ∧ Ex w w' := by
  obtain ⟨b, o, bb, oo, C, rfl, hQ⟩ := hR.sq hg
  have hn8 := hg.n8
  have hs256 := lt256 hn8 hs
  have HG := Lib.hid hg
  have HQ := Lib.hid hQ
  have HSL := Lib.hid hs
  have HTB := Lib.hid hT
  have hTl := hT.lt
  clear hQ hR hg hs hT
  refine (callsIn_wide (n := 20)).1 ?_
  refine callsIn_of_wp_marks Tryz.func155 rfl trivial ?_ rfl
  simp only [Tryz.ntmps155, List.size_toArray, List.length_cons, List.length_nil, Nat.reduceAdd, Nat.reduceSub, Array.replicate_succ, Array.replicate_zero, List.push_toArray, List.append_toArray, List.nil_append, List.cons_append]
  gi_wp2_with (refine ⟨trivial, ?_⟩; gi_at_call 77; refine (callsIn_wide.2 (setAll_any s _)).mono ?_; rintro e w' ⟨rfl, rfl⟩)
  have e0 : Ex w ((((w.alloc (.cells #[.slice (some ⟨b, o, none⟩) t.length c] 32)).alloc (.cells #[.int .u64 (s : Int)] 66)).alloc (.cells #[.int .u64 (s : Int)] 66)).alloc (.cells #[.int .u64 (s : Int)] 66)) := ((((Ex.refl w).alloc _).alloc _).alloc _).alloc _
  have b0 : Has ((((w.alloc (.cells #[.slice (some ⟨b, o, none⟩) t.length c] 32)).alloc (.cells #[.int .u64 (s : Int)] 66)).alloc (.cells #[.int .u64 (s : Int)] 66)).alloc (.cells #[.int .u64 (s : Int)] 66)) (w.heap.size) 32 #[.slice (some ⟨b, o, none⟩) t.length c] := ((((Has.newAt (w := w) (e := 32) (cs := #[.slice (some ⟨b, o, none⟩) t.length c]) (k := w.heap.size) (by simp)).alloc _).alloc _).alloc _)
  have b1 : Has ((((w.alloc (.cells #[.slice (some ⟨b, o, none⟩) t.length c] 32)).alloc (.cells #[.int .u64 (s : Int)] 66)).alloc (.cells #[.int .u64 (s : Int)] 66)).alloc (.cells #[.int .u64 (s : Int)] 66)) (w.heap.size + 1) 66 #[.int .u64 (s : Int)] := (((Has.newAt (w := (w.alloc (.cells #[.slice (some ⟨b, o, none⟩) t.length c] 32))) (e := 66) (cs := #[.int .u64 (s : Int)]) (k := w.heap.size + 1) (by simp)).alloc _).alloc _)
  have b2 : Has ((((w.alloc (.cells #[.slice (some ⟨b, o, none⟩) t.length c] 32)).alloc (.cells #[.int .u64 (s : Int)] 66)).alloc (.cells #[.int .u64 (s : Int)] 66)).alloc (.cells #[.int .u64 (s : Int)] 66)) (w.heap.size + 1 + 1) 66 #[.int .u64 (s : Int)] := ((Has.newAt (w := ((w.alloc (.cells #[.slice (some ⟨b, o, none⟩) t.length c] 32)).alloc (.cells #[.int .u64 (s : Int)] 66))) (e := 66) (cs := #[.int .u64 (s : Int)]) (k := w.heap.size + 1 + 1) (by simp)).alloc _)
  have b3 : Has ((((w.alloc (.cells #[.slice (some ⟨b, o, none⟩) t.length c] 32)).alloc (.cells #[.int .u64 (s : Int)] 66)).alloc (.cells #[.int .u64 (s : Int)] 66)).alloc (.cells #[.int .u64 (s : Int)] 66)) (w.heap.size + 1 + 1 + 1) 66 #[.int .u64 (s : Int)] := (Has.newAt (w := (((w.alloc (.cells #[.slice (some ⟨b, o, none⟩) t.length c] 32)).alloc (.cells #[.int .u64 (s : Int)] 66)).alloc (.cells #[.int .u64 (s : Int)] 66))) (e := 66) (cs := #[.int .u64 (s : Int)]) (k := w.heap.size + 1 + 1 + 1) (by simp))
  have hsz : ((((w.alloc (.cells #[.slice (some ⟨b, o, none⟩) t.length c] 32)).alloc (.cells #[.int .u64 (s : Int)] 66)).alloc (.cells #[.int .u64 (s : Int)] 66)).alloc (.cells #[.int .u64 (s : Int)] 66)).heap.size = w.heap.size + 1 + 1 + 1 + 1 := by simp
  have hTW := HTB.out.ex e0
  generalize ((((w.alloc (.cells #[.slice (some ⟨b, o, none⟩) t.length c] 32)).alloc (.cells #[.int .u64 (s : Int)] 66)).alloc (.cells #[.int .u64 (s : Int)] 66)).alloc (.cells #[.int .u64 (s : Int)] 66)) = W0 at *
  have HE0 := Lib.hid e0
  have HSZ := Lib.hid hsz
  refine range_topB (n := 20) (n₀ := w.heap.size) (by omega) (gf := 112) (lb := #[.pointer (some ⟨w.heap.size + 1 + 1 + 1, 0, none⟩)]) rfl (enters_of Tryz.func112 (by kernel_rfl) rfl)
    (all_stops 19 (by omega) (w.heap.size + 1 + 1 + 1) w.heap.size s W0 hs256 (by omega) (b3.cell 0) hTW hTl) (by omega) (fun _ => rfl) 2 (fun x => .int .i64 (x.1 : Int))
    (fun pre W => Has W (w.heap.size + 1 + 1) 66 #[.int .u64 (tabS t (elN s) s (pre.map fun x => x.1) : Int)] ∧ Has W w.heap.size 32 #[.slice (some ⟨b, o, none⟩) t.length c] ∧ Has W (w.heap.size + 1) 66 #[.int .u64 (s : Int)])
    (fun c' _ W => False)
    (OwnFrom.and (Own.from (has_own _ _ _) _) (OwnFrom.and (Own.from (has_own _ _ _) _) (Own.from (has_own _ _ _) _)))
    (fun _ => ownFrom_pure _ _)
    ⟨b2, b0, b1⟩ ?round ?done ?stop
  case round =>
    clear b0 b1 b2 b3 e0 hsz hTW
    intro l x W K hK
    have HK := Lib.hid hK
    clear hK
    gi_wp2
    refine HK.out _ ?_
    clear HK
    rintro l B1 pre W1 hB1 hle1 hr ⟨bM, bG, bS⟩ hKW bX _
    rw [hB1]
    clear hB1
    obtain ⟨a, ha⟩ := x
    dsimp only at bX
    have HKW := Lib.hid hKW
    have HR := Lib.hid hr
    have haN := el_lt HSL.out ha
    have hSN : tabS t (elN s) s ((pre ++ [(⟨a, ha⟩ : {a : Nat // a ∈ elN s})]).map fun x => x.1) = rowS t a (tabS t (elN s) s (pre.map fun x => x.1)) (elN s) := by rw [map_snoc]; exact tabS_snoc _ _ _ _
    have hT1 : tabS t (elN s) s (pre.map fun x => x.1) < 2 ^ t.length := tabS_lt HG.out (fun x hx => el_lt HSL.out hx) (fun x hx => by
      obtain ⟨y, _, rfl⟩ := List.mem_map.1 hx
      exact el_lt HSL.out y.2) HSL.out
    have HSN := Lib.hid hSN
    obtain ⟨T, hTe⟩ : ∃ T, tabS t (elN s) s (pre.map fun x => x.1) = T := ⟨_, rfl⟩
    rw [hTe] at bM hT1 HSN
    have HT1 := Lib.hid hT1
    clear hKW hr hSN hTe hT1
    have hboxS := bS.cell 0
    gi_wp2_with (refine ⟨trivial, ?_⟩; gi_at_call 77; refine (CallsIn.inRound l (callsIn_wide.2 (setAll_any s _))).mono ?_; rintro e w' ⟨rfl, rfl⟩)
    clear hboxS
    have bMA := bM.alloc (.cells #[.int .u64 (s : Int)] 66)
    have bGA := bG.alloc (.cells #[.int .u64 (s : Int)] 66)
    have bSA := bS.alloc (.cells #[.int .u64 (s : Int)] 66)
    have bXA : Has (W1.alloc (.cells #[.int .u64 (s : Int)] 66)) B1 2 #[.int .i64 (a : Int)] := Has.alloc bX _
    have bEA := Has.new W1 66 #[.int .u64 (s : Int)]
    have hK1 : Keeps w.heap.size W1 (W1.alloc (.cells #[.int .u64 (s : Int)] 66)) := (Keeps.refl _ _).alloc (by have := bG.lt; omega) _
    have hszA : (W1.alloc (.cells #[.int .u64 (s : Int)] 66)).heap.size = W1.heap.size + 1 := by simp
    have hrA : ∃ r, (W1.alloc (.cells #[.int .u64 (s : Int)] 66)).heap[l]? = some (.loop r) := by
      obtain ⟨r, hr⟩ := HR.out
      exact ⟨r, (Below.heap_alloc W1 _ l (Array.getElem?_eq_some_iff.1 hr).1).trans hr⟩
    have hltG := bG.lt
    have HBB := Lib.hid (show w.heap.size + 1 + 1 < B1 by have := HSZ.out; omega)
    clear bM bG bS bX
    obtain ⟨W2, hW2⟩ : ∃ W2, W1.alloc (.cells #[.int .u64 (s : Int)] 66) = W2 := ⟨_, rfl⟩
    rw [hW2] at bMA bGA bSA bXA bEA hK1 hszA hrA ⊢
    clear hW2
    have HK1 := Lib.hid hK1
    have hE2 : Ex w W2 := HE0.out.trans' (HKW.out.1.trans hK1.1) (Nat.le_refl _)
    have hT2 := HTB.out.ex hE2
    refine range_in (n := 20 - 1 - 1) (n₀ := w.heap.size) (by omega) hrA (gf := 112) (lb := #[.pointer (some ⟨W1.heap.size, 0, none⟩)]) rfl (enters_of Tryz.func112 (by kernel_rfl) rfl)
      (all_stops (20 - 1 - 1 - 1) (by omega) W1.heap.size w.heap.size s W2 hs256 (by omega) (bEA.cell 0) hT2 hTl) (by omega) (fun _ => rfl)
      (fun pre W => Has W (w.heap.size + 1 + 1) 66 #[.int .u64 (rowS t a T (pre.map fun x => x.1) : Int)] ∧ Has W w.heap.size 32 #[.slice (some ⟨b, o, none⟩) t.length c] ∧ Has W (w.heap.size + 1) 66 #[.int .u64 (s : Int)] ∧ Has W B1 2 #[.int .i64 (a : Int)])
      (fun c' _ W => False)
      (OwnFrom.and (Own.from (has_own _ _ _) _) (OwnFrom.and (Own.from (has_own _ _ _) _) (OwnFrom.and (Own.from (has_own _ _ _) _) (Own.from (has_own _ _ _) _))))
      (fun _ => ownFrom_pure _ _)
      ⟨bMA, bGA, bSA, bXA⟩ ?round2 ?done2 ?stop2
    case done2 =>
      rintro ys W hys ⟨bM2, bG2, bS2, _⟩ hKW2
      rw [hys] at bM2
      gi_wp2
      refine ⟨HK1.out.trans hKW2, ?_, bG2, bS2⟩
      show Has _ _ _ _
      rw [HSN.out]
      exact bM2
    case stop2 =>
      rintro c' pre' W hpre h
      exact h.elim
    case round2 =>
      clear bMA bGA bSA bXA bEA hK1 hszA hrA hT2
      have HE2 := Lib.hid hE2
      clear hE2
      intro l2 y W K hK
      have HK := Lib.hid hK
      clear hK
      gi_wp2
      refine HK.out _ ?_
      clear HK
      rintro l2 pre2 W3 hr2 ⟨bM2, bG2, bS2, bX2⟩ hKW2 _
      obtain ⟨d, hd⟩ := y
      have hdN := el_lt HSL.out hd
      have hE3 : Ex w W3 := HE2.out.trans' hKW2.1 (Nat.le_refl _)
      have hq := HQ.out.ex hE3
      have hra := hq.row_ haN
      have hea : W3.cell? ⟨bb a, oo a + d, none⟩ = some (.int .i64 (mul t a d : Int)) := by rw [hq.ent_ haN hdN, HG.out.ent haN hdN]
      have hm8 : mul t a d < 8 := by have := HG.out.mul_lt haN hdN; omega
      have hRN : rowS t a T ((pre2 ++ [(⟨d, hd⟩ : {a : Nat // a ∈ elN s})]).map fun x => x.1) = rowS t a T (pre2.map fun x => x.1) ||| 2 ^ mul t a d := by rw [map_snoc]; exact rowS_snoc _ _ _ _
      have hRl := lt256 hn8 (rowS_lt HG.out haN (fun x hx => by
        obtain ⟨y, _, rfl⟩ := List.mem_map.1 hx
        exact el_lt HSL.out y.2) HT1.out : rowS t a T (pre2.map fun x => x.1) < 2 ^ t.length)
      have HRN := Lib.hid hRN
      clear hRN hq hE3
      obtain ⟨R, hRe⟩ : ∃ R, rowS t a T (pre2.map fun x => x.1) = R := ⟨_, rfl⟩
      obtain ⟨z, hz⟩ : ∃ z, mul t a d = z := ⟨_, rfl⟩
      rw [hRe] at bM2 hRl HRN
      rw [hz] at hea hm8 HRN
      clear hRe hz
      have HBM := Lib.hid bM2
      have HBG := Lib.hid bG2
      have HBS := Lib.hid bS2
      have HBX := Lib.hid bX2
      have HK2 := Lib.hid hKW2
      have m0 : W3.drew.cell? ⟨w.heap.size + 1 + 1, 0, none⟩ = some (.int .u64 (R : Int)) := bM2.cell 0
      have g0 : W3.drew.cell? ⟨w.heap.size, 0, none⟩ = some (.slice (some ⟨b, o, none⟩) t.length c) := bG2.cell 0
      have x0 : W3.drew.cell? ⟨B1, 0, none⟩ = some (.int .i64 (a : Int)) := bX2.cell 0
      have f0 := bM2.free 0
      have hra' : W3.drew.cell? ⟨b, o + a, none⟩ = some (.slice (some ⟨bb a, oo a, none⟩) t.length (C a)) := hra
      have hea' : W3.drew.cell? ⟨bb a, oo a + d, none⟩ = some (.int .i64 (z : Int)) := hea
      clear bM2 bG2 bS2 bX2 hKW2 hra hea
      gi_wp2_with fail
      refine Late.round (C := fun w' : World => w'.cell? ⟨w.heap.size + 1 + 1, 0, none⟩ = some (.int .u64 (R : Int)) ∧ w'.cell? ⟨w.heap.size, 0, none⟩ = some (.slice (some ⟨b, o, none⟩) t.length c) ∧ w'.cell? ⟨B1, 0, none⟩ = some (.int .i64 (a : Int)) ∧ w'.cell? ⟨b, o + a, none⟩ = some (.slice (some ⟨bb a, oo a, none⟩) t.length (C a)) ∧ w'.cell? ⟨bb a, oo a + d, none⟩ = some (.int .i64 (z : Int)))
        (fun j => j != 10) (by kernel_rfl) (by rfl) (by rintro ⟨_, _, h⟩; exact h) ⟨m0, g0, x0, hra', hea'⟩ ?_
      intro hS
      refine Late.take (i := 0) (oi := _) (v := ?_) rfl (by kernel_rfl) (by kernel_rfl) (by kernel_rfl) (by kernel_rfl) (fun _ _ _ h => h) (Or.inl ⟨by rfl, ?_⟩) hS ?_
      rotate_left
      · (intro w hSw; (try dsimp only at hSw); go_simp; first | done | with_reducible rfl)
      simp only [Act.put]
      refine Late.take (i := 1) (oi := _) (v := ?_) rfl (by kernel_rfl) (by kernel_rfl) (by kernel_rfl) (by kernel_rfl) (fun _ _ _ h => h) (Or.inl ⟨by rfl, ?_⟩) hS ?_
      rotate_left
      · (intro w hSw; (try dsimp only at hSw); go_simp; first | done | with_reducible rfl)
      simp only [Act.put]
      refine Late.take (i := 2) (oi := _) (v := ?_) rfl (by kernel_rfl) (by kernel_rfl) (by kernel_rfl) (by kernel_rfl) (fun _ _ _ h => h) (Or.inl ⟨by rfl, ?_⟩) hS ?_
      rotate_left
      · (intro w hSw; (try dsimp only at hSw); go_simp; first | done | with_reducible rfl)
      simp only [Act.put]
      refine Late.take (i := 3) (oi := _) (v := ?_) rfl (by kernel_rfl) (by kernel_rfl) (by kernel_rfl) (by kernel_rfl) (fun _ _ _ h => h) (Or.inl ⟨by rfl, ?_⟩) hS ?_
      rotate_left
      · (intro w hSw; (try dsimp only at hSw); go_simp; first | done | with_reducible rfl)
      simp only [Act.put]
      refine Late.take (i := 4) (oi := _) (v := ?_) rfl (by kernel_rfl) (by kernel_rfl) (by kernel_rfl) (by kernel_rfl) (fun _ _ _ h => h) (Or.inl ⟨by rfl, ?_⟩) hS ?_
      rotate_left
      · (intro w hSw; (try dsimp only at hSw); go_simp; first | done | with_reducible rfl)
      simp only [Act.put]
      refine Late.take (i := 5) (oi := _) (v := ?_) rfl (by kernel_rfl) (by kernel_rfl) (by kernel_rfl) (by kernel_rfl) (fun _ _ _ h => h) (Or.inl ⟨by rfl, ?_⟩) hS ?_
      rotate_left
      · (intro w hSw; (try dsimp only at hSw); go_simp; first | done | with_reducible rfl)
      simp only [Act.put]
      refine Late.take (i := 6) (oi := _) (v := ?_) rfl (by kernel_rfl) (by kernel_rfl) (by kernel_rfl) (by kernel_rfl) (fun _ _ _ h => h) (Or.inl ⟨by rfl, ?_⟩) hS ?_
      rotate_left
      · (intro w hSw; (try dsimp only at hSw); go_simp; first | done | with_reducible rfl)
      simp only [Act.put]
      refine Late.take (i := 7) (oi := _) (v := ?_) rfl (by kernel_rfl) (by kernel_rfl) (by kernel_rfl) (by kernel_rfl) (fun _ _ _ h => h) (Or.inl ⟨by rfl, ?_⟩) hS ?_
      rotate_left
      · (intro w hSw; (try dsimp only at hSw); go_simp; first | done | with_reducible rfl)
      simp only [Act.put]
      refine Late.take (i := 8) (oi := _) (v := ?_) rfl (by kernel_rfl) (by kernel_rfl) (by kernel_rfl) (by kernel_rfl) (fun _ _ _ h => h) (Or.inl ⟨by rfl, ?_⟩) hS ?_
      rotate_left
      · (intro w hSw; (try dsimp only at hSw); go_simp; first | done | with_reducible rfl)
      simp only [Act.put]
      refine Late.one (i := 9) (o := _) (by kernel_rfl) rfl (fun K' hK' => ?_)
      rw [if_pos (by rfl)]
      go_simp
      refine (with_any R z _ hRl hm8).mono ?_
      rintro e w' ⟨rfl, rfl⟩
      refine hK'.out _ _ (fun _ => hS) (fun _ => ?_)
      clear hK' K'
      refine Late.one (i := 10) (o := _) (by kernel_rfl) rfl (fun K' hK' => ?_)
      go_simp
      refine hK'.out _ _ (fun h => by cases h) (fun _ => ?_)
      clear hK' K'
      refine Late.done (by kernel_rfl) ?_ _
      exact ⟨((Keeps.refl _ W3).setCell (p := ⟨w.heap.size + 1 + 1, 0, none⟩) (by show w.heap.size ≤ w.heap.size + 1 + 1; omega) _).drewN 1, by show Has _ _ _ _; rw [HRN.out]; exact Has.drewN HBM.out.put1 1, Has.drewN (HBG.out.far (p := ⟨w.heap.size + 1 + 1, 0, none⟩) (by show w.heap.size ≠ w.heap.size + 1 + 1; omega) _) 1,
        Has.drewN (HBS.out.far (p := ⟨w.heap.size + 1 + 1, 0, none⟩) (by show w.heap.size + 1 ≠ w.heap.size + 1 + 1; omega) _) 1, Has.drewN (HBX.out.far (p := ⟨w.heap.size + 1 + 1, 0, none⟩) (by show B1 ≠ w.heap.size + 1 + 1; have := HBB.out; omega) _) 1⟩
  case done =>
    rintro D xs W hD hxs ⟨bM, _⟩ hKW hK
    rw [hxs] at bM
    have hm := bM.cell 0
    have HKW := Lib.hid hKW
    clear hKW bM
    gi_wp2
    refine ⟨by simp, .inl ⟨_, _, rfl, run_takeDeferred hK, ?_⟩⟩
    exact ⟨_, results_tmp rfl _ _ _, rfl, ((Ex.below e0).trans HKW.out.1).trans (belowK_b (w := w) (Nat.le_refl _) W D _ _ (by omega) hK rfl rfl)⟩
  case stop =>
    rintro D c' pre W hD hpre h
    exact h.elim

end Go.Proofs.YtcdijeeabgmgmaaGreatDoor

/- Normal subgroups: the program's side. -/
namespace Go.Proofs.YtcdijeeabgmgmaaGreatDoor
open Go.RowKit Go.Shelf

attribute [local go_sem] Oper.semAt_some

theorem bit_testU : ∀ s : Nat, s < 256 → ∀ a : Nat, a < 8 → (bits BinOp.and IntKind.u64 ((s : Int) / 2 ^ a) 1 == 1) = s.testBit a := by decide +kernel

set_option maxHeartbeats 400000 in
theorem has_any (s a : Nat) (w : World) (hs : s < 256) (ha : a < 8) :
    Calls Tryz.prog 46 #[.int .u64 (s : Int), .int .i64 (a : Int)] w fun e w' => e = .returned (.bool (s.testBit a)) ∧ w = w' := by
  have hb := bit_testU s hs a ha
  obtain ⟨q, hq⟩ : ∃ q, s.testBit a = q := ⟨_, rfl⟩
  rw [hq] at hb ⊢
  clear hq
  go_enter Tryz.func46, Tryz.ntmps46
  go_wp2
  go_ret
  first
    | exact ⟨rfl, rfl⟩
    | exact ⟨by rw [← hb]; rfl, rfl⟩

set_option maxRecDepth 100000 in
set_option maxHeartbeats 1000000 in
theorem isSubgroup_any (A : Option Addr) (t : List (List Int)) (c s : Nat) (w : World) (hR : RwsW w A t) (hg : IsGrp t) (hs : s < 2 ^ t.length) (hT : TabL w) :
    Calls Tryz.prog 148 #[.agg #[.slice A t.length c], .int .u64 (s : Int)] w fun e w' => e = .returned (.bool (subB t s)) ∧ Ex w w' := by
  have e0 : Ex w (w.alloc (.cells #[.slice A t.length c] 32)) := (Ex.refl w).alloc _
  have b0 : Has (w.alloc (.cells #[.slice A t.length c] 32)) (w.heap.size) 32 #[.slice A t.length c] := (Has.newAt (w := w) (e := 32) (cs := #[.slice A t.length c]) (k := w.heap.size) (by simp))
  have hs256 := lt256 hg.n8 hs
  have HWP := Lib.hid (withProducts_any A t c s (w.alloc (.cells #[.slice A t.length c] 32)) (hR.ex e0) hg hs (hT.ex e0))
  have HE0 := Lib.hid e0
  cases hb : s.testBit 0 with
  | false =>
    have HH := Lib.hid (hb ▸ has_any s 0 (w.alloc (.cells #[.slice A t.length c] 32)) hs256 (by omega))
    have HQ : Hid (subB t s = false) := Lib.hid (by rw [subB, hb]; rfl)
    clear hR hg hs hT hb b0 e0 HWP
    go_enter Tryz.func148, Tryz.ntmps148
    go_wp2_with fail
    generalize (w.alloc (.cells #[.slice A t.length c] 32)) = W0 at *
    refine HH.out.mono ?_
    rintro e w' ⟨rfl, rfl⟩
    clear HH
    go_wp2_with fail
    go_ret
    exact ⟨by rw [HQ.out]; rfl, HE0.out⟩
  | true =>
    have HH := Lib.hid (hb ▸ has_any s 0 (w.alloc (.cells #[.slice A t.length c] 32)) hs256 (by omega))
    have HQ : Hid (subB t s = ((stp t s : Int) == (s : Int))) := Lib.hid (by
      rw [subB, hb, Bool.true_and, Bool.eq_iff_iff]
      simp only [beq_iff_eq, Int.natCast_inj])
    have c0 := b0.cell 0
    obtain ⟨S, hS⟩ : ∃ S, stp t s = S := ⟨_, rfl⟩
    rw [hS] at HQ HWP
    obtain ⟨q, hq⟩ : ∃ q, ((S : Int) == (s : Int)) = q := ⟨_, rfl⟩
    rw [hq] at HQ
    clear hR hg hs hT hb b0 e0 hS
    go_enter Tryz.func148, Tryz.ntmps148
    go_wp2_with fail
    generalize (w.alloc (.cells #[.slice A t.length c] 32)) = W0 at *
    refine HH.out.mono ?_
    rintro e w' ⟨rfl, rfl⟩
    clear HH
    go_wp2_with fail
    refine HWP.out.mono ?_
    rintro e W2 ⟨rfl, he2⟩
    have HE2 := Lib.hid he2
    clear he2 HWP
    go_wp2_with fail
    go_ret
    exact ⟨by rw [HQ.out]; rfl, HE0.out.trans HE2.out⟩

end Go.Proofs.YtcdijeeabgmgmaaGreatDoor

/- SubgroupOf: both contracts. -/
namespace Go.Proofs.YtcdijeeabgmgmaaGreatDoor
open Go.RowKit Go.Shelf

attribute [local go_sem] Oper.semAt_some

noncomputable def ySubgroupOf0 (t : List (List Int)) (xs : List Int) : List Int := if setC t xs = 0 then elI (clo t (bitsK xs xs.length ||| 1)) else []
noncomputable def qSubgroupOf1 (t : List (List Int)) (xs : List Int) : Int := setC t xs
theorem setC_cases (t : List (List Int)) (xs : List Int) : (grpB t = false ∧ setC t xs = 1) ∨ (grpB t = true ∧ setB t.length xs = false ∧ setC t xs = 2) ∨ (grpB t = true ∧ setB t.length xs = true ∧ setC t xs = 0) := by
  cases h : grpB t
  · exact .inl ⟨rfl, setC_no h⟩
  · cases h2 : setB t.length xs
    · exact .inr (.inl ⟨rfl, rfl, setC_out h h2⟩)
    · exact .inr (.inr ⟨rfl, rfl, setC_yes h h2⟩)
theorem sb_err {t : List (List Int)} {xs : List Int} {k : Int} (h : setC t xs = k) (hk : k ≠ 0) : ySubgroupOf0 t xs = [] ∧ qSubgroupOf1 t xs = k := by simp [ySubgroupOf0, qSubgroupOf1, h, hk]
theorem sb_yes {t : List (List Int)} {xs : List Int} (h : setC t xs = 0) : ySubgroupOf0 t xs = elI (clo t (bitsK xs xs.length ||| 1)) ∧ qSubgroupOf1 t xs = 0 := by simp [ySubgroupOf0, qSubgroupOf1, h]
theorem subgroupOf_small0 (t : List (List Int)) (xs : List Int) : (ySubgroupOf0 t xs).length ≤ 1048576 := by
  rcases setC_cases t xs with ⟨_, h⟩ | ⟨_, _, h⟩ | ⟨hg, hb, h⟩
  · rw [(sb_err h (by decide)).1]; simp
  · rw [(sb_err h (by decide)).1]; simp
  · rw [(sb_yes h).1, elI_len]
    have hgr := grpB_iff.1 hg
    have h1 := bitsK_lt (setB_true.1 hb).1 xs.length (Nat.le_refl _)
    have : (elN (clo t (bitsK xs xs.length ||| 1))).length ≤ 8 := elN_len _ (lt256 hgr.n8 (clo_lt hgr (or_lt (x := 0) h1 hgr.n1)))
    omega

end Go.Proofs.YtcdijeeabgmgmaaGreatDoor

/- IsNormal: both contracts. -/
namespace Go.Proofs.YtcdijeeabgmgmaaGreatDoor
open Go.RowKit Go.Shelf

attribute [local go_sem] Oper.semAt_some

noncomputable def qIsNormal0 (t : List (List Int)) (xs : List Int) : Bool := if setC t xs = 0 ∧ subB t (bitsK xs xs.length) = true then norB t (bitsK xs xs.length) else false
noncomputable def qIsNormal1 (t : List (List Int)) (xs : List Int) : Int := if setC t xs = 0 then (if subB t (bitsK xs xs.length) = true then 0 else 5) else setC t xs
section
variable {t : List (List Int)} {xs : List Int}
theorem nk_err {k : Int} (h : setC t xs = k) (hk : k ≠ 0) : qIsNormal0 t xs = false ∧ qIsNormal1 t xs = k := by simp [qIsNormal0, qIsNormal1, h, hk]
theorem nk_state (h : setC t xs = 0) (h2 : subB t (bitsK xs xs.length) = false) : qIsNormal0 t xs = false ∧ qIsNormal1 t xs = 5 := by simp [qIsNormal0, qIsNormal1, h, h2]
theorem nk_yes (h : setC t xs = 0) (h2 : subB t (bitsK xs xs.length) = true) : qIsNormal0 t xs = norB t (bitsK xs xs.length) ∧ qIsNormal1 t xs = 0 := by simp [qIsNormal0, qIsNormal1, h, h2]
end

end Go.Proofs.YtcdijeeabgmgmaaGreatDoor
