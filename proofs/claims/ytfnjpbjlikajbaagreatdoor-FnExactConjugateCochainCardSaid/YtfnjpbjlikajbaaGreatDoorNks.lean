/- Ci Cj Ni Sb Nk in one text. -/
import Derived.Deep.RegionHeld3
import Derived.Test.YtfnjpbjlikajbaaGreatDoorNrm
import Derived.Test.YtfnjpbjlikajbaaGreatDoorSm
import Derived.Test.YtfnjpbjlikajbaaGreatDoorIsg
import Derived.Test.YtfnjpbjlikajbaaGreatDoorBa
/- Sets of elements, by the program. -/
namespace Go.Proofs.YtfnjpbjlikajbaaGreatDoor
open Go.RowKit Go.Shelf

attribute [local go_sem] Oper.semAt_some

theorem isElement_ex (A : Option Addr) (n c : Nat) (a : Int) (w : World) (hn : n ≤ 1048576) :
    Calls Tryz.prog 125 #[.agg #[.slice A n c], .int .i64 a] w fun e w' => e = .returned (.bool (decide (0 ≤ a ∧ a < n))) ∧ Ex w w' := isElement_any A n c a w hn

set_option maxRecDepth 100000 in
set_option maxHeartbeats 1000000 in
theorem isElementSet_any (A L : Option Addr) (xs : List Int) (N c c' : Nat) (w : World) (hX : IntsW w L xs) (hN : N ≤ 8) (hx : xs.length ≤ 1048576) :
    Calls Tryz.prog 83 #[.agg #[.slice A N c], .slice L xs.length c'] w fun e w' => e = .returned (.bool (setB N xs)) ∧ Ex w w' := by
  have e0 : Ex w (w.alloc (.cells #[.slice A N c] 36)) := (Ex.refl w).alloc _
  have b0 : Has (w.alloc (.cells #[.slice A N c] 36)) (w.heap.size) 36 #[.slice A N c] := (Has.newAt (w := w) (e := 36) (cs := #[.slice A N c]) (k := w.heap.size) (by simp))
  have HX := Lib.hid (hX.ex e0)
  have HE0 := Lib.hid e0
  have HB0 := Lib.hid b0
  have hN1 : N ≤ 1048576 := by omega
  clear hX
  go_enter Tryz.func83, Tryz.ntmps83
  go_wp2_with fail
  generalize (w.alloc (.cells #[.slice A N c] 36)) = W0 at *
  clear e0 b0
  go_loopw [9] (fun i wr => ∃ k : Nat, k ≤ xs.length ∧ i = .int .i64 (k : Int) ∧ Hid (∀ j, j < k → 0 ≤ nth xs j ∧ nth xs j < N) ∧ Hid (ascP xs k) ∧ Hid (Ex W0 wr)) (fun i _ => xs.length - (intOf i).toNat)
  case atStart => exact ⟨0, Nat.zero_le _, rfl, Lib.hid fun j hj => absurd hj (by omega), Lib.hid fun i h0 h1 => absurd h1 (by omega), Lib.hid (Ex.refl _)⟩
  case round =>
    obtain ⟨k, hk, rfl, HR, HA, HE⟩ := hrel
    by_cases hlt : k < xs.length
    · obtain ⟨bx, ox, rfl, hbx, hcx⟩ := (HX.out.ex HE.out).ints.at_ hlt
      have c0 := (HB0.out.ex HE.out).cell 0
      by_cases hr : 0 ≤ nth xs k ∧ nth xs k < (N : Int)
      · have HRK := Lib.hid hr
        have hd : decide (0 ≤ nth xs k ∧ nth xs k < (N : Int)) = true := by simp [hr]
        have HIE := Lib.hid (fun W => hd ▸ isElement_ex A N c (nth xs k) W hN1)
        have HR2 : Hid (∀ j, j < k + 1 → 0 ≤ nth xs j ∧ nth xs j < N) := Lib.hid (fun j hj => by
          rcases Nat.lt_or_ge j k with h | h
          · exact HR.out j h
          · obtain rfl : j = k := by omega
            exact HRK.out)
        clear hr hd
        by_cases h0 : 0 < k
        · obtain ⟨j, rfl⟩ : ∃ j, k = j + 1 := ⟨k - 1, by omega⟩
          have hcy : wr.cell? ⟨bx, ox + j, none⟩ = some (.int .i64 (nth xs j)) := by
            obtain ⟨by_, oy, ey, _, hy⟩ := (HX.out.ex HE.out).ints.at_ (show j < xs.length by omega)
            cases ey
            exact hy
          have hgt : decide ((0 : Int) < ((j + 1 : Nat) : Int)) = true := decide_eq_true (by omega)
          by_cases hq : nth xs j < nth xs (j + 1)
          · have hge : decide (nth xs (j + 1) ≤ nth xs j) = false := by simp; omega
            have HAS := Lib.hid hq
            clear hq
            go_wp2_with (go_at_call 125; refine (HIE.out _).mono ?_; rintro e w5 ⟨rfl, he5⟩; have hcy5 := ((he5.below.cell (p := ⟨bx, ox + j, none⟩) hbx).trans hcy); have HE5 := Lib.hid (HE.out.trans he5))
            go_roundw
            case rel => exact ⟨j + 1 + 1, by omega, by go_num, HR2, Lib.hid (fun i h0 h1 => by
              rcases Nat.lt_or_ge i (j + 1) with h | h
              · exact HA.out i h0 h
              · obtain rfl : i = j + 1 := by omega
                exact HAS.out), HE5⟩
            case measure => simp [intOf]; omega
          · have hge : decide (nth xs (j + 1) ≤ nth xs j) = true := by simp; omega
            have HAS := Lib.hid (setB_asc (N := N) (i := j + 1) (by omega) hlt hq)
            clear hq
            go_wp2_with (go_at_call 125; refine (HIE.out _).mono ?_; rintro e w5 ⟨rfl, he5⟩; have hcy5 := ((he5.below.cell (p := ⟨bx, ox + j, none⟩) hbx).trans hcy); have HE5 := Lib.hid (HE.out.trans he5))
            go_ret
            exact ⟨by rw [HAS.out]; rfl, HE0.out.trans HE5.out⟩
        · obtain rfl : k = 0 := by omega
          simp only [Nat.add_zero] at hcx
          go_wp2_with (go_at_call 125; refine (HIE.out _).mono ?_; rintro e w5 ⟨rfl, he5⟩; have HE5 := Lib.hid (HE.out.trans he5))
          go_roundw
          case rel => exact ⟨1, by omega, by go_num, HR2, Lib.hid (fun i h0 h1 => absurd h1 (by omega)), HE5⟩
          case measure => simp [intOf]; omega
      · have hd : decide (0 ≤ nth xs k ∧ nth xs k < (N : Int)) = false := decide_eq_false hr
        have HIE := Lib.hid (fun W => hd ▸ isElement_ex A N c (nth xs k) W hN1)
        have HAS := Lib.hid (setB_rng (N := N) hlt hr)
        clear hr hd
        go_wp2_with (go_at_call 125; refine (HIE.out _).mono ?_; rintro e w5 ⟨rfl, he5⟩; have HE5 := Lib.hid (HE.out.trans he5))
        go_ret
        exact ⟨by rw [HAS.out]; rfl, HE0.out.trans HE5.out⟩
    · obtain rfl : k = xs.length := by omega
      have HS := Lib.hid (setB_true.2 ⟨HR.out, HA.out⟩)
      go_wp2_with fail
      go_ret
      exact ⟨by rw [HS.out]; rfl, HE0.out.trans HE.out⟩

set_option maxRecDepth 100000 in
set_option maxHeartbeats 1000000 in
theorem setOf_any (L : Option Addr) (xs : List Int) (c N : Nat) (w : World) (hX : IntsW w L xs) (hx : xs.length ≤ 1048576) (hN : N ≤ 8) (hr : ∀ i, i < xs.length → 0 ≤ nth xs i ∧ nth xs i < N) :
    Calls Tryz.prog 86 #[.slice L xs.length c] w fun e w' => e = .returned (.int .u64 (bitsK xs xs.length : Int)) ∧ w = w' := by
  have HX := Lib.hid hX
  have HR := Lib.hid hr
  have HL := Lib.hid (fun k hk => lt256 hN (bitsK_lt hr k hk))
  clear hX hr
  go_enter Tryz.func86, Tryz.ntmps86
  go_wp2_with fail
  go_loop [3, 8] (fun s i => ∃ k : Nat, k ≤ xs.length ∧ i = .int .i64 (k : Int) ∧ s = .int .u64 (bitsK xs k : Int)) (fun _ i => xs.length - (intOf i).toNat)
  case atStart => exact ⟨0, Nat.zero_le _, rfl, rfl⟩
  case round =>
    obtain ⟨k, hk, rfl, rfl⟩ := hrel
    by_cases hlt : k < xs.length
    · obtain ⟨bx, ox, rfl, hbx, hcx⟩ := HX.out.ints.at_ hlt
      have hxr := HR.out k hlt
      obtain ⟨x, hx2⟩ : ∃ x : Nat, nth xs k = (x : Int) := ⟨(nth xs k).toNat, by omega⟩
      have hl2 := HL.out k hk
      have HBK : Hid (bitsK xs (k + 1) = bitsK xs k ||| 2 ^ x) := Lib.hid (by simp [bitsK, hx2])
      rw [hx2] at hcx hxr
      have hx8 : x < 8 := by omega
      obtain ⟨s, hs⟩ : ∃ s, bitsK xs k = s := ⟨_, rfl⟩
      rw [hs] at hl2 HBK ⊢
      clear hs hx2
      go_wp2_with (go_at_call 128; refine (with_any s x _ hl2 hx8).mono ?_; rintro e w' ⟨rfl, rfl⟩)
      go_round
      case rel => exact ⟨k + 1, by omega, by go_num, by rw [HBK.out]⟩
      case measure => simp [intOf]; omega
    · obtain rfl : k = xs.length := by omega
      go_wp2_with fail
      go_ret
      exact ⟨rfl, rfl⟩

end Go.Proofs.YtfnjpbjlikajbaaGreatDoor

/- Closed sets, by the program. -/
namespace Go.Proofs.YtfnjpbjlikajbaaGreatDoor
open Go.RowKit Go.Shelf

attribute [local go_sem] Oper.semAt_some

theorem map_snoc {s : Nat} (pre : List {a : Nat // a ∈ elN s}) (x : {a : Nat // a ∈ elN s}) : (pre ++ [x]).map (fun x => x.1) = pre.map (fun x => x.1) ++ [x.1] := by simp

set_option maxRecDepth 100000 in
set_option maxHeartbeats 2000000 in
theorem withProducts_any (A : Option Addr) (t : List (List Int)) (c s : Nat) (w : World) (hR : RwsW w A t) (hg : IsGrp t) (hs : s < 2 ^ t.length) (hT : TabL w) :
    Calls Tryz.prog 127 #[.agg #[.slice A t.length c], .int .u64 (s : Int)] w fun e w' => e = .returned (.int .u64 (stp t s : Int)) ∧ Ex w w' := by
  obtain ⟨b, o, bb, oo, C, rfl, hQ⟩ := hR.sq hg
  have hn8 := hg.n8
  have hs256 := lt256 hn8 hs
  have HG := Lib.hid hg
  have HQ := Lib.hid hQ
  have HSL := Lib.hid hs
  have HTB := Lib.hid hT
  have hTl := hT.lt
  clear hQ hR hg hs hT
  refine (callsIn_wide (n := 20)).1 ?_
  refine callsIn_of_wp_marks Tryz.func127 rfl trivial ?_ rfl
  simp only [Tryz.ntmps127, List.size_toArray, List.length_cons, List.length_nil, Nat.reduceAdd, Nat.reduceSub, Array.replicate_succ, Array.replicate_zero, List.push_toArray, List.append_toArray, List.nil_append, List.cons_append]
  gi_wp2_with (refine ⟨trivial, ?_⟩; gi_at_call 132; refine (callsIn_wide.2 (setAll_any s _)).mono ?_; rintro e w' ⟨rfl, rfl⟩)
  have e0 : Ex w ((((w.alloc (.cells #[.slice (some ⟨b, o, none⟩) t.length c] 36)).alloc (.cells #[.int .u64 (s : Int)] 112)).alloc (.cells #[.int .u64 (s : Int)] 112)).alloc (.cells #[.int .u64 (s : Int)] 112)) := ((((Ex.refl w).alloc _).alloc _).alloc _).alloc _
  have b0 : Has ((((w.alloc (.cells #[.slice (some ⟨b, o, none⟩) t.length c] 36)).alloc (.cells #[.int .u64 (s : Int)] 112)).alloc (.cells #[.int .u64 (s : Int)] 112)).alloc (.cells #[.int .u64 (s : Int)] 112)) (w.heap.size) 36 #[.slice (some ⟨b, o, none⟩) t.length c] := ((((Has.newAt (w := w) (e := 36) (cs := #[.slice (some ⟨b, o, none⟩) t.length c]) (k := w.heap.size) (by simp)).alloc _).alloc _).alloc _)
  have b1 : Has ((((w.alloc (.cells #[.slice (some ⟨b, o, none⟩) t.length c] 36)).alloc (.cells #[.int .u64 (s : Int)] 112)).alloc (.cells #[.int .u64 (s : Int)] 112)).alloc (.cells #[.int .u64 (s : Int)] 112)) (w.heap.size + 1) 112 #[.int .u64 (s : Int)] := (((Has.newAt (w := (w.alloc (.cells #[.slice (some ⟨b, o, none⟩) t.length c] 36))) (e := 112) (cs := #[.int .u64 (s : Int)]) (k := w.heap.size + 1) (by simp)).alloc _).alloc _)
  have b2 : Has ((((w.alloc (.cells #[.slice (some ⟨b, o, none⟩) t.length c] 36)).alloc (.cells #[.int .u64 (s : Int)] 112)).alloc (.cells #[.int .u64 (s : Int)] 112)).alloc (.cells #[.int .u64 (s : Int)] 112)) (w.heap.size + 1 + 1) 112 #[.int .u64 (s : Int)] := ((Has.newAt (w := ((w.alloc (.cells #[.slice (some ⟨b, o, none⟩) t.length c] 36)).alloc (.cells #[.int .u64 (s : Int)] 112))) (e := 112) (cs := #[.int .u64 (s : Int)]) (k := w.heap.size + 1 + 1) (by simp)).alloc _)
  have b3 : Has ((((w.alloc (.cells #[.slice (some ⟨b, o, none⟩) t.length c] 36)).alloc (.cells #[.int .u64 (s : Int)] 112)).alloc (.cells #[.int .u64 (s : Int)] 112)).alloc (.cells #[.int .u64 (s : Int)] 112)) (w.heap.size + 1 + 1 + 1) 112 #[.int .u64 (s : Int)] := (Has.newAt (w := (((w.alloc (.cells #[.slice (some ⟨b, o, none⟩) t.length c] 36)).alloc (.cells #[.int .u64 (s : Int)] 112)).alloc (.cells #[.int .u64 (s : Int)] 112))) (e := 112) (cs := #[.int .u64 (s : Int)]) (k := w.heap.size + 1 + 1 + 1) (by simp))
  have hsz : ((((w.alloc (.cells #[.slice (some ⟨b, o, none⟩) t.length c] 36)).alloc (.cells #[.int .u64 (s : Int)] 112)).alloc (.cells #[.int .u64 (s : Int)] 112)).alloc (.cells #[.int .u64 (s : Int)] 112)).heap.size = w.heap.size + 1 + 1 + 1 + 1 := by simp
  have hTW := HTB.out.ex e0
  generalize ((((w.alloc (.cells #[.slice (some ⟨b, o, none⟩) t.length c] 36)).alloc (.cells #[.int .u64 (s : Int)] 112)).alloc (.cells #[.int .u64 (s : Int)] 112)).alloc (.cells #[.int .u64 (s : Int)] 112)) = W0 at *
  have HE0 := Lib.hid e0
  have HSZ := Lib.hid hsz
  refine range_topB (n := 20) (n₀ := w.heap.size) (by omega) (gf := 141) (lb := #[.pointer (some ⟨w.heap.size + 1 + 1 + 1, 0, none⟩)]) rfl (enters_of Tryz.func141 (by kernel_rfl) rfl)
    (all_stops 19 (by omega) (w.heap.size + 1 + 1 + 1) w.heap.size s W0 hs256 (by omega) (b3.cell 0) hTW hTl) (by omega) (fun _ => rfl) 2 (fun x => .int .i64 (x.1 : Int))
    (fun pre W => Has W (w.heap.size + 1 + 1) 112 #[.int .u64 (tabS t (elN s) s (pre.map fun x => x.1) : Int)] ∧ Has W w.heap.size 36 #[.slice (some ⟨b, o, none⟩) t.length c] ∧ Has W (w.heap.size + 1) 112 #[.int .u64 (s : Int)])
    (fun c' _ W => False)
    (OwnFrom.and (Own.from (has_own _ _ _) _) (OwnFrom.and (Own.from (has_own _ _ _) _) (Own.from (has_own _ _ _) _)))
    (fun _ => ownFrom_pure _ _)
    ⟨b2, b0, b1⟩ ?round ?done ?stop
  case round =>
    clear b0 b1 b2 b3 e0 hsz hTW
    intro l x W K hK
    have HK := Lib.hid hK
    clear hK
    gi_wp2
    refine HK.out _ ?_
    clear HK
    rintro l B1 pre W1 hB1 hle1 hr ⟨bM, bG, bS⟩ hKW bX _
    rw [hB1]
    clear hB1
    obtain ⟨a, ha⟩ := x
    dsimp only at bX
    have HKW := Lib.hid hKW
    have HR := Lib.hid hr
    have haN := el_lt HSL.out ha
    have hSN : tabS t (elN s) s ((pre ++ [(⟨a, ha⟩ : {a : Nat // a ∈ elN s})]).map fun x => x.1) = rowS t a (tabS t (elN s) s (pre.map fun x => x.1)) (elN s) := by rw [map_snoc]; exact tabS_snoc _ _ _ _
    have hT1 : tabS t (elN s) s (pre.map fun x => x.1) < 2 ^ t.length := tabS_lt HG.out (fun x hx => el_lt HSL.out hx) (fun x hx => by
      obtain ⟨y, _, rfl⟩ := List.mem_map.1 hx
      exact el_lt HSL.out y.2) HSL.out
    have HSN := Lib.hid hSN
    obtain ⟨T, hTe⟩ : ∃ T, tabS t (elN s) s (pre.map fun x => x.1) = T := ⟨_, rfl⟩
    rw [hTe] at bM hT1 HSN
    have HT1 := Lib.hid hT1
    clear hKW hr hSN hTe hT1
    have hboxS := bS.cell 0
    gi_wp2_with (refine ⟨trivial, ?_⟩; gi_at_call 132; refine (CallsIn.inRound l (callsIn_wide.2 (setAll_any s _))).mono ?_; rintro e w' ⟨rfl, rfl⟩)
    clear hboxS
    have bMA := bM.alloc (.cells #[.int .u64 (s : Int)] 112)
    have bGA := bG.alloc (.cells #[.int .u64 (s : Int)] 112)
    have bSA := bS.alloc (.cells #[.int .u64 (s : Int)] 112)
    have bXA : Has (W1.alloc (.cells #[.int .u64 (s : Int)] 112)) B1 2 #[.int .i64 (a : Int)] := Has.alloc bX _
    have bEA := Has.new W1 112 #[.int .u64 (s : Int)]
    have hK1 : Keeps w.heap.size W1 (W1.alloc (.cells #[.int .u64 (s : Int)] 112)) := (Keeps.refl _ _).alloc (by have := bG.lt; omega) _
    have hszA : (W1.alloc (.cells #[.int .u64 (s : Int)] 112)).heap.size = W1.heap.size + 1 := by simp
    have hrA : ∃ r, (W1.alloc (.cells #[.int .u64 (s : Int)] 112)).heap[l]? = some (.loop r) := by
      obtain ⟨r, hr⟩ := HR.out
      exact ⟨r, (Below.heap_alloc W1 _ l (Array.getElem?_eq_some_iff.1 hr).1).trans hr⟩
    have hltG := bG.lt
    have HBB := Lib.hid (show w.heap.size + 1 + 1 < B1 by have := HSZ.out; omega)
    clear bM bG bS bX
    obtain ⟨W2, hW2⟩ : ∃ W2, W1.alloc (.cells #[.int .u64 (s : Int)] 112) = W2 := ⟨_, rfl⟩
    rw [hW2] at bMA bGA bSA bXA bEA hK1 hszA hrA ⊢
    clear hW2
    have HK1 := Lib.hid hK1
    have hE2 : Ex w W2 := HE0.out.trans' (HKW.out.1.trans hK1.1) (Nat.le_refl _)
    have hT2 := HTB.out.ex hE2
    refine range_in (n := 20 - 1 - 1) (n₀ := w.heap.size) (by omega) hrA (gf := 141) (lb := #[.pointer (some ⟨W1.heap.size, 0, none⟩)]) rfl (enters_of Tryz.func141 (by kernel_rfl) rfl)
      (all_stops (20 - 1 - 1 - 1) (by omega) W1.heap.size w.heap.size s W2 hs256 (by omega) (bEA.cell 0) hT2 hTl) (by omega) (fun _ => rfl)
      (fun pre W => Has W (w.heap.size + 1 + 1) 112 #[.int .u64 (rowS t a T (pre.map fun x => x.1) : Int)] ∧ Has W w.heap.size 36 #[.slice (some ⟨b, o, none⟩) t.length c] ∧ Has W (w.heap.size + 1) 112 #[.int .u64 (s : Int)] ∧ Has W B1 2 #[.int .i64 (a : Int)])
      (fun c' _ W => False)
      (OwnFrom.and (Own.from (has_own _ _ _) _) (OwnFrom.and (Own.from (has_own _ _ _) _) (OwnFrom.and (Own.from (has_own _ _ _) _) (Own.from (has_own _ _ _) _))))
      (fun _ => ownFrom_pure _ _)
      ⟨bMA, bGA, bSA, bXA⟩ ?round2 ?done2 ?stop2
    case done2 =>
      rintro ys W hys ⟨bM2, bG2, bS2, _⟩ hKW2
      rw [hys] at bM2
      gi_wp2
      refine ⟨HK1.out.trans hKW2, ?_, bG2, bS2⟩
      show Has _ _ _ _
      rw [HSN.out]
      exact bM2
    case stop2 =>
      rintro c' pre' W hpre h
      exact h.elim
    case round2 =>
      clear bMA bGA bSA bXA bEA hK1 hszA hrA hT2
      have HE2 := Lib.hid hE2
      clear hE2
      intro l2 y W K hK
      have HK := Lib.hid hK
      clear hK
      gi_wp2
      refine HK.out _ ?_
      clear HK
      rintro l2 pre2 W3 hr2 ⟨bM2, bG2, bS2, bX2⟩ hKW2 _
      obtain ⟨d, hd⟩ := y
      have hdN := el_lt HSL.out hd
      have hE3 : Ex w W3 := HE2.out.trans' hKW2.1 (Nat.le_refl _)
      have hq := HQ.out.ex hE3
      have hra := hq.row_ haN
      have hea : W3.cell? ⟨bb a, oo a + d, none⟩ = some (.int .i64 (mul t a d : Int)) := by rw [hq.ent_ haN hdN, HG.out.ent haN hdN]
      have hm8 : mul t a d < 8 := by have := HG.out.mul_lt haN hdN; omega
      have hRN : rowS t a T ((pre2 ++ [(⟨d, hd⟩ : {a : Nat // a ∈ elN s})]).map fun x => x.1) = rowS t a T (pre2.map fun x => x.1) ||| 2 ^ mul t a d := by rw [map_snoc]; exact rowS_snoc _ _ _ _
      have hRl := lt256 hn8 (rowS_lt HG.out haN (fun x hx => by
        obtain ⟨y, _, rfl⟩ := List.mem_map.1 hx
        exact el_lt HSL.out y.2) HT1.out : rowS t a T (pre2.map fun x => x.1) < 2 ^ t.length)
      have HRN := Lib.hid hRN
      clear hRN hq hE3
      obtain ⟨R, hRe⟩ : ∃ R, rowS t a T (pre2.map fun x => x.1) = R := ⟨_, rfl⟩
      obtain ⟨z, hz⟩ : ∃ z, mul t a d = z := ⟨_, rfl⟩
      rw [hRe] at bM2 hRl HRN
      rw [hz] at hea hm8 HRN
      clear hRe hz
      have HBM := Lib.hid bM2
      have HBG := Lib.hid bG2
      have HBS := Lib.hid bS2
      have HBX := Lib.hid bX2
      have HK2 := Lib.hid hKW2
      have m0 : W3.drew.cell? ⟨w.heap.size + 1 + 1, 0, none⟩ = some (.int .u64 (R : Int)) := bM2.cell 0
      have g0 : W3.drew.cell? ⟨w.heap.size, 0, none⟩ = some (.slice (some ⟨b, o, none⟩) t.length c) := bG2.cell 0
      have x0 : W3.drew.cell? ⟨B1, 0, none⟩ = some (.int .i64 (a : Int)) := bX2.cell 0
      have f0 := bM2.free 0
      have hra' : W3.drew.cell? ⟨b, o + a, none⟩ = some (.slice (some ⟨bb a, oo a, none⟩) t.length (C a)) := hra
      have hea' : W3.drew.cell? ⟨bb a, oo a + d, none⟩ = some (.int .i64 (z : Int)) := hea
      clear bM2 bG2 bS2 bX2 hKW2 hra hea
      gi_wp2_with fail
      refine Late.round (C := fun w' : World => w'.cell? ⟨w.heap.size + 1 + 1, 0, none⟩ = some (.int .u64 (R : Int)) ∧ w'.cell? ⟨w.heap.size, 0, none⟩ = some (.slice (some ⟨b, o, none⟩) t.length c) ∧ w'.cell? ⟨B1, 0, none⟩ = some (.int .i64 (a : Int)) ∧ w'.cell? ⟨b, o + a, none⟩ = some (.slice (some ⟨bb a, oo a, none⟩) t.length (C a)) ∧ w'.cell? ⟨bb a, oo a + d, none⟩ = some (.int .i64 (z : Int)))
        (fun j => j != 10) (by kernel_rfl) (by rfl) (by rintro ⟨_, _, h⟩; exact h) ⟨m0, g0, x0, hra', hea'⟩ ?_
      intro hS
      refine Late.take (i := 0) (oi := _) (v := ?_) rfl (by kernel_rfl) (by kernel_rfl) (by kernel_rfl) (by kernel_rfl) (fun _ _ _ h => h) (Or.inl ⟨by rfl, ?_⟩) hS ?_
      rotate_left
      · (intro w hSw; (try dsimp only at hSw); go_simp; first | done | with_reducible rfl)
      simp only [Act.put]
      refine Late.take (i := 1) (oi := _) (v := ?_) rfl (by kernel_rfl) (by kernel_rfl) (by kernel_rfl) (by kernel_rfl) (fun _ _ _ h => h) (Or.inl ⟨by rfl, ?_⟩) hS ?_
      rotate_left
      · (intro w hSw; (try dsimp only at hSw); go_simp; first | done | with_reducible rfl)
      simp only [Act.put]
      refine Late.take (i := 2) (oi := _) (v := ?_) rfl (by kernel_rfl) (by kernel_rfl) (by kernel_rfl) (by kernel_rfl) (fun _ _ _ h => h) (Or.inl ⟨by rfl, ?_⟩) hS ?_
      rotate_left
      · (intro w hSw; (try dsimp only at hSw); go_simp; first | done | with_reducible rfl)
      simp only [Act.put]
      refine Late.take (i := 3) (oi := _) (v := ?_) rfl (by kernel_rfl) (by kernel_rfl) (by kernel_rfl) (by kernel_rfl) (fun _ _ _ h => h) (Or.inl ⟨by rfl, ?_⟩) hS ?_
      rotate_left
      · (intro w hSw; (try dsimp only at hSw); go_simp; first | done | with_reducible rfl)
      simp only [Act.put]
      refine Late.take (i := 4) (oi := _) (v := ?_) rfl (by kernel_rfl) (by kernel_rfl) (by kernel_rfl) (by kernel_rfl) (fun _ _ _ h => h) (Or.inl ⟨by rfl, ?_⟩) hS ?_
      rotate_left
      · (intro w hSw; (try dsimp only at hSw); go_simp; first | done | with_reducible rfl)
      simp only [Act.put]
      refine Late.take (i := 5) (oi := _) (v := ?_) rfl (by kernel_rfl) (by kernel_rfl) (by kernel_rfl) (by kernel_rfl) (fun _ _ _ h => h) (Or.inl ⟨by rfl, ?_⟩) hS ?_
      rotate_left
      · (intro w hSw; (try dsimp only at hSw); go_simp; first | done | with_reducible rfl)
      simp only [Act.put]
      refine Late.take (i := 6) (oi := _) (v := ?_) rfl (by kernel_rfl) (by kernel_rfl) (by kernel_rfl) (by kernel_rfl) (fun _ _ _ h => h) (Or.inl ⟨by rfl, ?_⟩) hS ?_
      rotate_left
      · (intro w hSw; (try dsimp only at hSw); go_simp; first | done | with_reducible rfl)
      simp only [Act.put]
      refine Late.take (i := 7) (oi := _) (v := ?_) rfl (by kernel_rfl) (by kernel_rfl) (by kernel_rfl) (by kernel_rfl) (fun _ _ _ h => h) (Or.inl ⟨by rfl, ?_⟩) hS ?_
      rotate_left
      · (intro w hSw; (try dsimp only at hSw); go_simp; first | done | with_reducible rfl)
      simp only [Act.put]
      refine Late.take (i := 8) (oi := _) (v := ?_) rfl (by kernel_rfl) (by kernel_rfl) (by kernel_rfl) (by kernel_rfl) (fun _ _ _ h => h) (Or.inl ⟨by rfl, ?_⟩) hS ?_
      rotate_left
      · (intro w hSw; (try dsimp only at hSw); go_simp; first | done | with_reducible rfl)
      simp only [Act.put]
      refine Late.one (i := 9) (o := _) (by kernel_rfl) rfl (fun K' hK' => ?_)
      rw [if_pos (by rfl)]
      go_simp
      refine (with_any R z _ hRl hm8).mono ?_
      rintro e w' ⟨rfl, rfl⟩
      refine hK'.out _ _ (fun _ => hS) (fun _ => ?_)
      clear hK' K'
      refine Late.one (i := 10) (o := _) (by kernel_rfl) rfl (fun K' hK' => ?_)
      go_simp
      refine hK'.out _ _ (fun h => by cases h) (fun _ => ?_)
      clear hK' K'
      refine Late.done (by kernel_rfl) ?_ _
      exact ⟨((Keeps.refl _ W3).setCell (p := ⟨w.heap.size + 1 + 1, 0, none⟩) (by show w.heap.size ≤ w.heap.size + 1 + 1; omega) _).drewN 1, by show Has _ _ _ _; rw [HRN.out]; exact Has.drewN HBM.out.put1 1, Has.drewN (HBG.out.far (p := ⟨w.heap.size + 1 + 1, 0, none⟩) (by show w.heap.size ≠ w.heap.size + 1 + 1; omega) _) 1,
        Has.drewN (HBS.out.far (p := ⟨w.heap.size + 1 + 1, 0, none⟩) (by show w.heap.size + 1 ≠ w.heap.size + 1 + 1; omega) _) 1, Has.drewN (HBX.out.far (p := ⟨w.heap.size + 1 + 1, 0, none⟩) (by show B1 ≠ w.heap.size + 1 + 1; have := HBB.out; omega) _) 1⟩
  case done =>
    rintro D xs W hD hxs ⟨bM, _⟩ hKW hK
    rw [hxs] at bM
    have hm := bM.cell 0
    have HKW := Lib.hid hKW
    clear hKW bM
    gi_wp2
    refine ⟨by simp, .inl ⟨_, _, rfl, run_takeDeferred hK, ?_⟩⟩
    exact ⟨_, results_tmp rfl _ _ _, rfl, ((Ex.below e0).trans HKW.out.1).trans (belowK_b (w := w) (Nat.le_refl _) W D _ _ (by omega) hK rfl rfl)⟩
  case stop =>
    rintro D c' pre W hD hpre h
    exact h.elim

end Go.Proofs.YtfnjpbjlikajbaaGreatDoor

/- Normal subgroups: the program's side. -/
namespace Go.Proofs.YtfnjpbjlikajbaaGreatDoor
open Go.RowKit Go.Shelf

attribute [local go_sem] Oper.semAt_some

theorem bit_testU : ∀ s : Nat, s < 256 → ∀ a : Nat, a < 8 → (bits BinOp.and IntKind.u64 ((s : Int) / 2 ^ a) 1 == 1) = s.testBit a := by decide +kernel

set_option maxHeartbeats 400000 in
theorem has_any (s a : Nat) (w : World) (hs : s < 256) (ha : a < 8) :
    Calls Tryz.prog 126 #[.int .u64 (s : Int), .int .i64 (a : Int)] w fun e w' => e = .returned (.bool (s.testBit a)) ∧ w = w' := by
  have hb := bit_testU s hs a ha
  obtain ⟨q, hq⟩ : ∃ q, s.testBit a = q := ⟨_, rfl⟩
  rw [hq] at hb ⊢
  clear hq
  go_enter Tryz.func126, Tryz.ntmps126
  go_wp2
  go_ret
  first
    | exact ⟨rfl, rfl⟩
    | exact ⟨by rw [← hb]; rfl, rfl⟩

set_option maxRecDepth 100000 in
set_option maxHeartbeats 1000000 in
theorem isSubgroup_any (A : Option Addr) (t : List (List Int)) (c s : Nat) (w : World) (hR : RwsW w A t) (hg : IsGrp t) (hs : s < 2 ^ t.length) (hT : TabL w) :
    Calls Tryz.prog 85 #[.agg #[.slice A t.length c], .int .u64 (s : Int)] w fun e w' => e = .returned (.bool (subB t s)) ∧ Ex w w' := by
  have e0 : Ex w (w.alloc (.cells #[.slice A t.length c] 36)) := (Ex.refl w).alloc _
  have b0 : Has (w.alloc (.cells #[.slice A t.length c] 36)) (w.heap.size) 36 #[.slice A t.length c] := (Has.newAt (w := w) (e := 36) (cs := #[.slice A t.length c]) (k := w.heap.size) (by simp))
  have hs256 := lt256 hg.n8 hs
  have HWP := Lib.hid (withProducts_any A t c s (w.alloc (.cells #[.slice A t.length c] 36)) (hR.ex e0) hg hs (hT.ex e0))
  have HE0 := Lib.hid e0
  cases hb : s.testBit 0 with
  | false =>
    have HH := Lib.hid (hb ▸ has_any s 0 (w.alloc (.cells #[.slice A t.length c] 36)) hs256 (by omega))
    have HQ : Hid (subB t s = false) := Lib.hid (by rw [subB, hb]; rfl)
    clear hR hg hs hT hb b0 e0 HWP
    go_enter Tryz.func85, Tryz.ntmps85
    go_wp2_with fail
    generalize (w.alloc (.cells #[.slice A t.length c] 36)) = W0 at *
    refine HH.out.mono ?_
    rintro e w' ⟨rfl, rfl⟩
    clear HH
    go_wp2_with fail
    go_ret
    exact ⟨by rw [HQ.out]; rfl, HE0.out⟩
  | true =>
    have HH := Lib.hid (hb ▸ has_any s 0 (w.alloc (.cells #[.slice A t.length c] 36)) hs256 (by omega))
    have HQ : Hid (subB t s = ((stp t s : Int) == (s : Int))) := Lib.hid (by
      rw [subB, hb, Bool.true_and, Bool.eq_iff_iff]
      simp only [beq_iff_eq, Int.natCast_inj])
    have c0 := b0.cell 0
    obtain ⟨S, hS⟩ : ∃ S, stp t s = S := ⟨_, rfl⟩
    rw [hS] at HQ HWP
    obtain ⟨q, hq⟩ : ∃ q, ((S : Int) == (s : Int)) = q := ⟨_, rfl⟩
    rw [hq] at HQ
    clear hR hg hs hT hb b0 e0 hS
    go_enter Tryz.func85, Tryz.ntmps85
    go_wp2_with fail
    generalize (w.alloc (.cells #[.slice A t.length c] 36)) = W0 at *
    refine HH.out.mono ?_
    rintro e w' ⟨rfl, rfl⟩
    clear HH
    go_wp2_with fail
    refine HWP.out.mono ?_
    rintro e W2 ⟨rfl, he2⟩
    have HE2 := Lib.hid he2
    clear he2 HWP
    go_wp2_with fail
    go_ret
    exact ⟨by rw [HQ.out]; rfl, HE0.out.trans HE2.out⟩

set_option maxRecDepth 100000 in
set_option maxHeartbeats 4000000 in
theorem isNormalSubgroup_any (A : Option Addr) (t : List (List Int)) (c s : Nat) (w : World) (hR : RwsW w A t) (hg : IsGrp t) (hs : s < 2 ^ t.length) (hT : TabL w) (hsub : subB t s = true) :
    Calls Tryz.prog 93 #[.agg #[.slice A t.length c], .int .u64 (s : Int)] w fun e w' => e = .returned (.bool (norB t s)) ∧ Ex w w' := by
  have hn8 := hg.n8
  have hs256 := lt256 hn8 hs
  have HG := Lib.hid hg
  have HRW := Lib.hid hR
  have HSL := Lib.hid hs
  have HTB := Lib.hid hT
  have hTl := hT.lt
  have HSG := Lib.hid (fun W (he : Ex w W) => hsub ▸ isSubgroup_any A t c s W (hR.ex he) hg hs (hT.ex he))
  clear hR hg hs hT hsub
  refine (callsIn_wide (n := 20)).1 ?_
  refine callsIn_of_wp_marks Tryz.func93 rfl trivial ?_ rfl
  simp only [Tryz.ntmps93, List.size_toArray, List.length_cons, List.length_nil, Nat.reduceAdd, Nat.reduceSub, Array.replicate_succ, Array.replicate_zero, List.push_toArray, List.append_toArray, List.nil_append, List.cons_append]
  have e0 : Ex w (((w.alloc (.cells #[.slice A t.length c] 36)).alloc (.cells #[.int .u64 (s : Int)] 112)).alloc (.cells #[.bool false] 4)) := (((Ex.refl w).alloc _).alloc _).alloc _
  have b0 : Has (((w.alloc (.cells #[.slice A t.length c] 36)).alloc (.cells #[.int .u64 (s : Int)] 112)).alloc (.cells #[.bool false] 4)) (w.heap.size) 36 #[.slice A t.length c] := (((Has.newAt (w := w) (e := 36) (cs := #[.slice A t.length c]) (k := w.heap.size) (by simp)).alloc _).alloc _)
  have b1 : Has (((w.alloc (.cells #[.slice A t.length c] 36)).alloc (.cells #[.int .u64 (s : Int)] 112)).alloc (.cells #[.bool false] 4)) (w.heap.size + 1) 112 #[.int .u64 (s : Int)] := ((Has.newAt (w := (w.alloc (.cells #[.slice A t.length c] 36))) (e := 112) (cs := #[.int .u64 (s : Int)]) (k := w.heap.size + 1) (by simp)).alloc _)
  have b2 : Has (((w.alloc (.cells #[.slice A t.length c] 36)).alloc (.cells #[.int .u64 (s : Int)] 112)).alloc (.cells #[.bool false] 4)) (w.heap.size + 1 + 1) 4 #[.bool false] := (Has.newAt (w := ((w.alloc (.cells #[.slice A t.length c] 36)).alloc (.cells #[.int .u64 (s : Int)] 112))) (e := 4) (cs := #[.bool false]) (k := w.heap.size + 1 + 1) (by simp))
  gi_wp2_with fail
  have hsz : (((w.alloc (.cells #[.slice A t.length c] 36)).alloc (.cells #[.int .u64 (s : Int)] 112)).alloc (.cells #[.bool false] 4)).heap.size = w.heap.size + 1 + 1 + 1 := by simp
  generalize (((w.alloc (.cells #[.slice A t.length c] 36)).alloc (.cells #[.int .u64 (s : Int)] 112)).alloc (.cells #[.bool false] 4)) = W0 at *
  refine ⟨trivial, (callsIn_wide.2 (HSG.out W0 e0)).mono ?_⟩
  rintro e W1 ⟨rfl, he1⟩
  have HE1 := Lib.hid (e0.trans he1)
  have HB0 := Lib.hid (b0.ex he1)
  have HB1 := Lib.hid (b1.ex he1)
  have HB2 := Lib.hid (b2.ex he1)
  have hzz : w.heap.size + 1 + 1 + 1 ≤ W1.heap.size := by have := he1.size; omega
  clear b0 b1 b2 e0 he1 hsz HSG
  have c1 := HB1.out.cell 0
  gi_wp2_with (refine ⟨trivial, ?_⟩; gi_at_call 132; refine (callsIn_wide.2 (setAll_any s _)).mono ?_; rintro e w' ⟨rfl, rfl⟩)
  clear c1
  obtain ⟨D, hD⟩ : ∃ D, W1.heap.size = D := ⟨_, rfl⟩
  have e4 := HE1.out.alloc (.cells #[.int .u64 (s : Int)] 112)
  have bE := Has.newAt (w := W1) (e := 112) (cs := #[.int .u64 (s : Int)]) (k := D) hD
  have bG := HB0.out.alloc (.cells #[.int .u64 (s : Int)] 112)
  have bS := HB1.out.alloc (.cells #[.int .u64 (s : Int)] 112)
  have bR := HB2.out.alloc (.cells #[.int .u64 (s : Int)] 112)
  have hz4 : (W1.alloc (.cells #[.int .u64 (s : Int)] 112)).heap.size = D + 1 := by simp [hD]
  rw [hD] at hzz ⊢
  clear HB0 HB1 HB2 HE1
  generalize (W1.alloc (.cells #[.int .u64 (s : Int)] 112)) = W4 at *
  have HE4 := Lib.hid e4
  have HZ4 := Lib.hid hz4
  have hT4 := HTB.out.ex e4
  clear e4 hD
  refine range_topB (n := 20) (n₀ := w.heap.size) (by omega) (gf := 141) (lb := #[.pointer (some ⟨D, 0, none⟩)]) rfl (enters_of Tryz.func141 (by kernel_rfl) rfl)
    (all_stops 19 (by omega) D w.heap.size s W4 hs256 (by omega) (bE.cell 0) hT4 hTl) (by omega) (fun _ => rfl) 2 (fun x => .int .i64 (x.1 : Int))
    (fun pre W => ((∀ x ∈ pre, ∀ c : Fin t.length, s.testBit (con t x.1 c.val) = true) ∧ Has W (w.heap.size + 1 + 1) 4 #[.bool false]) ∧ Has W w.heap.size 36 #[.slice A t.length c] ∧ Has W (w.heap.size + 1) 112 #[.int .u64 (s : Int)])
    (fun c' _ W => (c' = .ret ∧ ¬ NorP t s) ∧ Has W (w.heap.size + 1 + 1) 4 #[.bool false])
    (OwnFrom.and (OwnFrom.and (ownFrom_pure _ _) (Own.from (has_own _ _ _) _)) (OwnFrom.and (Own.from (has_own _ _ _) _) (Own.from (has_own _ _ _) _)))
    (fun _ => OwnFrom.and (ownFrom_pure _ _) (Own.from (has_own _ _ _) _))
    ⟨⟨by simp, bR⟩, bG, bS⟩ ?round ?done ?stop
  case round =>
    clear bE bG bS bR hz4 hT4
    intro l x W K hK
    have HK := Lib.hid hK
    clear hK
    gi_wp2
    refine HK.out _ ?_
    clear HK
    rintro l B1 pre W5 hB1 hle1 hr ⟨⟨hp, bR⟩, bG, bS⟩ hKW bX _
    rw [hB1]
    clear hB1
    obtain ⟨a, ha⟩ := x
    dsimp only at bX
    have HKW := Lib.hid hKW
    have HR := Lib.hid hr
    have HP := Lib.hid hp
    have haN := el_lt HSL.out ha
    clear hKW hr hp
    have hbox := bG.cell 0
    gi_wp2_with (refine ⟨trivial, ?_⟩; gi_at_call 131; refine (CallsIn.inRound l (callsIn_wide.2 (elementsOf_any _ t.length c _))).mono ?_; rintro e w' ⟨rfl, rfl⟩)
    clear hbox
    have bRA := bR.alloc (.cells #[.slice A t.length c] 36)
    have bGA := bG.alloc (.cells #[.slice A t.length c] 36)
    have bSA := bS.alloc (.cells #[.slice A t.length c] 36)
    have bXA : Has (W5.alloc (.cells #[.slice A t.length c] 36)) B1 2 #[.int .i64 (a : Int)] := Has.alloc bX _
    have bEA := Has.new W5 36 #[.slice A t.length c]
    have hK1 : Keeps w.heap.size W5 (W5.alloc (.cells #[.slice A t.length c] 36)) := (Keeps.refl _ _).alloc (by have := bG.lt; omega) _
    have hszA : (W5.alloc (.cells #[.slice A t.length c] 36)).heap.size = W5.heap.size + 1 := by simp
    have hrA : ∃ r, (W5.alloc (.cells #[.slice A t.length c] 36)).heap[l]? = some (.loop r) := by
      obtain ⟨r, hr⟩ := HR.out
      exact ⟨r, (Below.heap_alloc W5 _ l (Array.getElem?_eq_some_iff.1 hr).1).trans hr⟩
    have hltG := bG.lt
    clear bR bG bS bX
    obtain ⟨W6, hW6⟩ : ∃ W6, W5.alloc (.cells #[.slice A t.length c] 36) = W6 := ⟨_, rfl⟩
    rw [hW6] at bRA bGA bSA bXA bEA hK1 hszA hrA ⊢
    clear hW6
    have HK1 := Lib.hid hK1
    have hE6 : Ex w W6 := HE4.out.trans' (HKW.out.1.trans hK1.1) (Nat.le_refl _)
    refine range_in (n := 20 - 1 - 1) (n₀ := w.heap.size) (by omega) hrA (gf := 140) (lb := #[.pointer (some ⟨W5.heap.size, 0, none⟩)]) rfl (enters_of Tryz.func140 (by kernel_rfl) rfl)
      (elements_stops (20 - 1 - 1 - 1) (by omega) W5.heap.size w.heap.size t.length c _ W6 (by omega) (bEA.cell 0) (by omega)) (by omega) (fun _ => rfl)
      (fun pre W => ((∀ x ∈ pre, s.testBit (con t a x.val) = true) ∧ Has W (w.heap.size + 1 + 1) 4 #[.bool false]) ∧ Has W w.heap.size 36 #[.slice A t.length c] ∧ Has W (w.heap.size + 1) 112 #[.int .u64 (s : Int)] ∧ Has W B1 2 #[.int .i64 (a : Int)])
      (fun c' _ W => (c' = .ret ∧ ¬ NorP t s) ∧ Has W (w.heap.size + 1 + 1) 4 #[.bool false])
      (OwnFrom.and (OwnFrom.and (ownFrom_pure _ _) (Own.from (has_own _ _ _) _)) (OwnFrom.and (Own.from (has_own _ _ _) _) (OwnFrom.and (Own.from (has_own _ _ _) _) (Own.from (has_own _ _ _) _))))
      (fun _ => OwnFrom.and (ownFrom_pure _ _) (Own.from (has_own _ _ _) _))
      ⟨⟨by simp, bRA⟩, bGA, bSA, bXA⟩ ?round2 ?done2 ?stop2
    case done2 =>
      rintro ys W rfl ⟨⟨hq, bR2⟩, bG2, bS2, _⟩ hKW2
      have HQ2 := Lib.hid hq
      clear hq
      gi_wp2
      exact ⟨HK1.out.trans hKW2, ⟨fun y hy => (List.mem_append.1 hy).elim (HP.out y) (fun e => by simp at e; subst e; exact fun c => HQ2.out c (List.mem_finRange c)), bR2⟩, bG2, bS2⟩
    case stop2 =>
      rintro c' pre' W hpre ⟨⟨rfl, hx⟩, bR2⟩ hKW2
      have HX := Lib.hid hx
      clear hx
      gi_wp2
      exact ⟨HK1.out.trans hKW2, ⟨rfl, HX.out⟩, bR2⟩
    case round2 =>
      clear bRA bGA bSA bXA bEA hK1 hszA hrA
      have HE6 := Lib.hid hE6
      clear hE6
      intro l2 y W K hK
      have HK := Lib.hid hK
      clear hK
      gi_wp2
      refine HK.out _ ?_
      clear HK
      rintro l2 pre2 W7 hr2 ⟨⟨hp2, bR2⟩, bG2, bS2, bX2⟩ hKW2 _
      obtain ⟨j, hj⟩ := y
      have hE7 : Ex w W7 := HE6.out.trans' hKW2.1 (Nat.le_refl _)
      have HE7 := Lib.hid hE7
      have hcl := con_lt HG.out haN hj
      have HCO := Lib.hid (fun W' (he : Ex W7 W') => conjugateOf_any A t c a j W' (HRW.out.ex (HE7.out.trans he)) HG.out haN hj)
      have HF := Lib.hid (fun W' (he : Ex W7 W') => (⟨(Has.ex bS2 he).cell 0, (Has.ex bG2 he).cell 0, (Has.ex bX2 he).cell 0⟩ :
          W'.cell? ⟨w.heap.size + 1, 0, none⟩ = some (.int .u64 (s : Int)) ∧ W'.cell? ⟨w.heap.size, 0, none⟩ = some (.slice A t.length c) ∧ W'.cell? ⟨B1, 0, none⟩ = some (.int .i64 (a : Int))))
      obtain ⟨z, hz⟩ : ∃ z, con t a j = z := ⟨_, rfl⟩
      have HZ := Lib.hid hz
      rw [hz] at HCO hcl
      have hz8 : z < 8 := by omega
      have HP2 := Lib.hid hp2
      have HBR := Lib.hid bR2
      have HBG := Lib.hid bG2
      have HBS := Lib.hid bS2
      have HBX := Lib.hid bX2
      have hzw : w.heap.size ≤ W7.heap.size := HE7.out.size
      have HHA := Lib.hid (fun W' => has_any s z W' hs256 hz8)
      obtain ⟨q, hq⟩ : ∃ q, s.testBit z = q := ⟨_, rfl⟩
      rw [hq] at HHA
      have HBQ := Lib.hid hq
      clear hz hp2 bR2 bG2 bS2 bX2 hKW2 hE7 hq
      gi_wp2_with fail
      refine Late.round (C := fun w' : World => Ex W7 w' ∧ (w'.cell? ⟨w.heap.size + 1, 0, none⟩ = some (.int .u64 (s : Int)) ∧ w'.cell? ⟨w.heap.size, 0, none⟩ = some (.slice A t.length c) ∧ w'.cell? ⟨B1, 0, none⟩ = some (.int .i64 (a : Int))))
        (fun _ => true) (by kernel_rfl) (by rfl) (by rintro ⟨_, _, h⟩; exact h) ⟨(Ex.refl W7).drew, HF.out _ (Ex.refl W7).drew⟩ ?_
      intro hS
      refine Late.take (i := 0) (oi := _) (v := ?_) rfl (by kernel_rfl) (by kernel_rfl) (by kernel_rfl) (by kernel_rfl) (fun _ _ _ h => h) (Or.inl ⟨by rfl, ?_⟩) hS ?_
      rotate_left
      · (intro w hSw; (try dsimp only at hSw); go_simp; first | done | with_reducible rfl)
      simp only [Act.put]
      refine Late.take (i := 1) (oi := _) (v := ?_) rfl (by kernel_rfl) (by kernel_rfl) (by kernel_rfl) (by kernel_rfl) (fun _ _ _ h => h) (Or.inl ⟨by rfl, ?_⟩) hS ?_
      rotate_left
      · (intro w hSw; (try dsimp only at hSw); go_simp; first | done | with_reducible rfl)
      simp only [Act.put]
      refine Late.take (i := 2) (oi := _) (v := ?_) rfl (by kernel_rfl) (by kernel_rfl) (by kernel_rfl) (by kernel_rfl) (fun _ _ _ h => h) (Or.inl ⟨by rfl, ?_⟩) hS ?_
      rotate_left
      · (intro w hSw; (try dsimp only at hSw); go_simp; first | done | with_reducible rfl)
      simp only [Act.put]
      refine Late.take (i := 3) (oi := _) (v := ?_) rfl (by kernel_rfl) (by kernel_rfl) (by kernel_rfl) (by kernel_rfl) (fun _ _ _ h => h) (Or.inl ⟨by rfl, ?_⟩) hS ?_
      rotate_left
      · (intro w hSw; (try dsimp only at hSw); go_simp; first | done | with_reducible rfl)
      simp only [Act.put]
      refine Late.one (i := 4) (o := _) (by kernel_rfl) rfl (fun K' hK' => ?_)
      rw [if_pos (by rfl)]
      go_simp
      refine (HCO.out _ hS.1).mono ?_
      rintro e w1 ⟨rfl, he1⟩
      have hS1 := And.intro (hS.1.trans he1) (HF.out _ (hS.1.trans he1))
      refine hK'.out _ _ (fun _ => hS1) (fun _ => ?_)
      clear hK' K'
      refine Late.one (i := 5) (o := _) (by kernel_rfl) rfl (fun K' hK' => ?_)
      rw [if_pos (by rfl)]
      go_simp
      refine (HHA.out _).mono ?_
      rintro e w' ⟨rfl, rfl⟩
      refine hK'.out _ _ (fun _ => hS1) (fun _ => ?_)
      clear hK' K'
      refine Late.take (i := 6) (oi := _) (v := ?_) rfl (by kernel_rfl) (by kernel_rfl) (by kernel_rfl) (by kernel_rfl) (fun _ _ _ h => h) (Or.inl ⟨by rfl, ?_⟩) hS1 ?_
      rotate_left
      · (intro w hSw; (try dsimp only at hSw); go_simp; first | done | with_reducible rfl)
      simp only [Act.put]
      refine Late.done (by kernel_rfl) ?_ _
      have HS1 := Lib.hid hS1.1
      have hres := (HBR.out.ex hS1.1).cell 0
      have hfre := (HBR.out.ex hS1.1).free 0
      clear hS hS1 he1
      cases q with
      | true =>
        gi_wp2_with fail
        exact ⟨Keeps.of_below HS1.out hzw, ⟨fun y hy => (List.mem_append.1 hy).elim (HP2.out y) (fun e => by simp at e; subst e; show s.testBit (con t a j) = true; rw [HZ.out]; exact HBQ.out), HBR.out.ex HS1.out⟩, HBG.out.ex HS1.out, HBS.out.ex HS1.out, HBX.out.ex HS1.out⟩
      | false =>
        gi_wp2_with fail
        exact ⟨(Keeps.of_below HS1.out hzw).setCell (p := ⟨w.heap.size + 1 + 1, 0, none⟩) (by show w.heap.size ≤ w.heap.size + 1 + 1; omega) _, ⟨rfl, fun h => by
          have h2 := h a ha j hj
          rw [HZ.out, HBQ.out] at h2
          cases h2⟩, (HBR.out.ex HS1.out).put1⟩
  case done =>
    rintro D' xs W hD' hxs ⟨⟨hp, bR1⟩, _⟩ hKW hK
    have hres := bR1.cell 0
    have hfre := bR1.free 0
    have HN : Hid (norB t s = true) := Lib.hid (norB_true fun b hb c hc => by
      obtain ⟨y, hy, rfl⟩ := List.mem_map.1 (hxs.symm ▸ hb : b ∈ xs.map fun x => x.1)
      exact hp y hy ⟨c, hc⟩)
    have HKW := Lib.hid hKW
    clear hp hKW
    gi_wp2
    have hK' := (KeepsOthers.setCell W ⟨w.heap.size + 1 + 1, 0, none⟩ (.bool true)).same D' _ hK rfl
    refine ⟨by simp, .inl ⟨_, _, rfl, run_takeDeferred hK', ?_⟩⟩
    have hc5 := cell_kept (show (W.setCell ⟨w.heap.size + 1 + 1, 0, none⟩ (.bool true)).cell? ⟨w.heap.size + 1 + 1, 0, none⟩ = some (.bool true) from (bR1.put1 (v := .bool true)).cell 0) (grownBy_putObj' _ D' (.deferred none)) (fun r e => by cases e; exact ⟨_, hK', rfl⟩)
    refine ⟨.bool true, ?_, by rw [HN.out], (((Ex.below HE4.out).trans HKW.out.1).setCell (p := ⟨w.heap.size + 1 + 1, 0, none⟩) (by show w.heap.size ≤ w.heap.size + 1 + 1; omega) _).trans (belowK_b (w := w) (Nat.le_refl _) _ D' _ _ (by omega) hK' rfl rfl)⟩
    simp [results, Tryz.f93, go_sem, hc5]
  case stop =>
    rintro D' c' pre W hD' hpre ⟨⟨rfl, hx⟩, bR1⟩ hKW hK
    have HN := Lib.hid (norB_false hx)
    have HKW := Lib.hid hKW
    clear hx hKW
    gi_wp2
    refine ⟨by simp, .inl ⟨_, _, rfl, run_takeDeferred hK, ?_⟩⟩
    have hc5 := cell_kept (show W.cell? ⟨w.heap.size + 1 + 1, 0, none⟩ = some (.bool false) from bR1.cell 0) (grownBy_putObj' _ D' (.deferred none)) (fun r e => by cases e; exact ⟨_, hK, rfl⟩)
    refine ⟨.bool false, ?_, by rw [HN.out], ((Ex.below HE4.out).trans HKW.out.1).trans (belowK_b (w := w) (Nat.le_refl _) W D' _ _ (by omega) hK rfl rfl)⟩
    simp [results, Tryz.f93, go_sem, hc5]

end Go.Proofs.YtfnjpbjlikajbaaGreatDoor

/- SubgroupOf: both contracts. -/
namespace Go.Proofs.YtfnjpbjlikajbaaGreatDoor
open Go.RowKit Go.Shelf

attribute [local go_sem] Oper.semAt_some

noncomputable def ySubgroupOf0 (t : List (List Int)) (xs : List Int) : List Int := if setC t xs = 0 then elI (clo t (bitsK xs xs.length ||| 1)) else []
noncomputable def qSubgroupOf1 (t : List (List Int)) (xs : List Int) : Int := setC t xs
theorem setC_cases (t : List (List Int)) (xs : List Int) : (grpB t = false ∧ setC t xs = 1) ∨ (grpB t = true ∧ setB t.length xs = false ∧ setC t xs = 2) ∨ (grpB t = true ∧ setB t.length xs = true ∧ setC t xs = 0) := by
  cases h : grpB t
  · exact .inl ⟨rfl, setC_no h⟩
  · cases h2 : setB t.length xs
    · exact .inr (.inl ⟨rfl, rfl, setC_out h h2⟩)
    · exact .inr (.inr ⟨rfl, rfl, setC_yes h h2⟩)
theorem sb_err {t : List (List Int)} {xs : List Int} {k : Int} (h : setC t xs = k) (hk : k ≠ 0) : ySubgroupOf0 t xs = [] ∧ qSubgroupOf1 t xs = k := by simp [ySubgroupOf0, qSubgroupOf1, h, hk]
theorem sb_yes {t : List (List Int)} {xs : List Int} (h : setC t xs = 0) : ySubgroupOf0 t xs = elI (clo t (bitsK xs xs.length ||| 1)) ∧ qSubgroupOf1 t xs = 0 := by simp [ySubgroupOf0, qSubgroupOf1, h]
theorem subgroupOf_small0 (t : List (List Int)) (xs : List Int) : (ySubgroupOf0 t xs).length ≤ 1048576 := by
  rcases setC_cases t xs with ⟨_, h⟩ | ⟨_, _, h⟩ | ⟨hg, hb, h⟩
  · rw [(sb_err h (by decide)).1]; simp
  · rw [(sb_err h (by decide)).1]; simp
  · rw [(sb_yes h).1, elI_len]
    have hgr := grpB_iff.1 hg
    have h1 := bitsK_lt (setB_true.1 hb).1 xs.length (Nat.le_refl _)
    have : (elN (clo t (bitsK xs xs.length ||| 1))).length ≤ 8 := elN_len _ (lt256 hgr.n8 (clo_lt hgr (or_lt (x := 0) h1 hgr.n1)))
    omega

end Go.Proofs.YtfnjpbjlikajbaaGreatDoor

/- IsNormal: both contracts. -/
namespace Go.Proofs.YtfnjpbjlikajbaaGreatDoor
open Go.RowKit Go.Shelf

attribute [local go_sem] Oper.semAt_some

noncomputable def qIsNormal0 (t : List (List Int)) (xs : List Int) : Bool := if setC t xs = 0 ∧ subB t (bitsK xs xs.length) = true then norB t (bitsK xs xs.length) else false
noncomputable def qIsNormal1 (t : List (List Int)) (xs : List Int) : Int := if setC t xs = 0 then (if subB t (bitsK xs xs.length) = true then 0 else 5) else setC t xs
section
variable {t : List (List Int)} {xs : List Int}
theorem nk_err {k : Int} (h : setC t xs = k) (hk : k ≠ 0) : qIsNormal0 t xs = false ∧ qIsNormal1 t xs = k := by simp [qIsNormal0, qIsNormal1, h, hk]
theorem nk_state (h : setC t xs = 0) (h2 : subB t (bitsK xs xs.length) = false) : qIsNormal0 t xs = false ∧ qIsNormal1 t xs = 5 := by simp [qIsNormal0, qIsNormal1, h, h2]
theorem nk_yes (h : setC t xs = 0) (h2 : subB t (bitsK xs xs.length) = true) : qIsNormal0 t xs = norB t (bitsK xs xs.length) ∧ qIsNormal1 t xs = 0 := by simp [qIsNormal0, qIsNormal1, h, h2]
end

end Go.Proofs.YtfnjpbjlikajbaaGreatDoor
