/- Lists of numbers of values: the specification's side. -/
import Derived.IntWalk
import Derived.Deep.RegionHeld3
import Derived.Deep.DeepCutAuto
import Derived.Test.YtdehalkebneaoaaDoorCe
import Derived.Test.YtdehalkebneaoaaDoorMk
import Derived.Test.YtdehalkebneaoaaDoorCol
namespace Go.Proofs.YtdehalkebneaoaaDoor
open Go.RowKit

/-- The element at the place p of the list of n elements with the number i. -/
def dN (N n i p : Nat) : Nat := i / (N - 1) ^ (n - 1 - p) % (N - 1) + 1
def lsL (N n i : Nat) : List Int := (List.range n).map fun p => (dN N n i p : Int)
theorem lsL_len (N n i : Nat) : (lsL N n i).length = n := by simp [lsL]
theorem nth_lsL {N n i p : Nat} (h : p < n) : nth (lsL N n i) p = (dN N n i p : Int) := by simp [nth, lsL, h]
/-- The list, the last j places being laid. -/
def stF (N n i j p : Nat) : Int := if n - j ≤ p then (dN N n i p : Int) else 0
theorem stF_zero {N n i p : Nat} (h : p < n) : stF N n i 0 p = 0 := by
  unfold stF
  rw [if_neg (by omega)]
theorem stF_all {N n i p : Nat} : stF N n i n p = (dN N n i p : Int) := by
  unfold stF
  rw [if_pos (by omega)]
theorem stF_step {N n i j p : Nat} (hj : j < n) : (if p = n - 1 - j then (dN N n i (n - 1 - j) : Int) else stF N n i j p) = stF N n i (j + 1) p := by
  unfold stF
  by_cases h : p = n - 1 - j
  · subst h
    rw [if_pos rfl, if_pos (by omega)]
  · rw [if_neg h]
    by_cases h2 : n - j ≤ p
    · rw [if_pos h2, if_pos (by omega)]
    · rw [if_neg h2, if_neg (by omega)]

set_option maxRecDepth 100000 in
set_option maxHeartbeats 4000000 in
theorem l03List_any (A : Option Addr) (N c n i : Nat) (w : World) (hN : N ≤ 8) (hN2 : n = 0 ∨ 2 ≤ N) (hN1 : 1 ≤ N) (hn : n ≤ 4) (hi : i ≤ 2401) :
    Calls Tryd.prog 61 #[.agg #[.slice A N c], .int .i64 (n : Int), .int .i64 (i : Int)] w fun e w' => ∃ (C0 : Option Addr) (e0 : Nat), e = .returned (.slice C0 (lsL N n i).length e0) ∧ Ex w w' ∧ OwnL w' w.heap.size w'.heap.size C0 (lsL N n i) := by
  have e0 : Ex w (w.alloc (.cells #[.slice A N c] 29)) := (Ex.refl w).alloc _
  have b0 : Has (w.alloc (.cells #[.slice A N c] 29)) (w.heap.size) 29 #[.slice A N c] := (Has.newAt (w := w) (e := 29) (cs := #[.slice A N c]) (k := w.heap.size) (by simp))
  have HE0 := Lib.hid e0
  have HB0 := Lib.hid b0
  have hmk := makeI n (by omega)
  have hN6 : N ≤ 1048576 := by omega
  obtain ⟨B, hB⟩ : ∃ B, N - 1 = B := ⟨_, rfl⟩
  have hB' : (N : Int) - 1 = (B : Int) := by omega
  have HBN := Lib.hid hB
  have hBp : n = 0 ∨ 0 < B := by omega
  have HBP := Lib.hid hBp
  have hwB : IntKind.i64.wrap (B : Int) = (B : Int) := IntWalk.i64_in _ (by omega)
  clear hB hBp hN2 e0 b0
  go_enter Tryd.func61, Tryd.ntmps61
  go_upto_region 1 with (fail)
  generalize (w.alloc (.cells #[.slice A N c] 29)) = W0 at *
  have HK := Lib.hid (fun (W' : World) (hb : Ex W0.drew W') => (Has.ex (w := W0.drew) HB0.out hb).cell 0)
  go_cut [7, 8] (fun s7 s8 wx => ∃ g : Nat, s7 = .slice (some ⟨g, 0, none⟩) n n ∧ s8 = .int .i64 (B : Int) ∧ Ex W0 wx ∧ W0.heap.size ≤ g ∧ Has wx g 2 (tab n fun _ => .int .i64 0))
  case first =>
    go_region_held3 (fun w' : World => w'.cell? ⟨w.heap.size, 0, none⟩ = some (.slice A N c))
      (first
        | exact HK.out _ (Ex.refl _)
        | exact HK.out _ (by assumption)
        | exact HK.out _ (Ex.alloc (Ex.refl _) _)
        | exact HK.out _ (Ex.alloc (by assumption) _)
        | exact HK.out _ (Ex.trans (Ex.alloc (Ex.refl _) _) (by assumption)))
      ((go_at_call 116; refine (l01N_ex A N c _ hN6).mono ?_; rintro e w6 ⟨rfl, he6⟩))
    · go_wp2_with fail
      go_meet
      exact ⟨W0.heap.size, rfl, rfl, ((Ex.new W0 _).drew).trans he6, Nat.le_refl _, (Has.new W0 _ _).ex ((Ex.refl _).drew.trans he6)⟩
    · go_wp2_with fail
      go_meet
      exact ⟨w6.heap.size, rfl, rfl, ((Ex.refl W0).drew.trans he6).alloc _, ((Ex.refl W0).drew.trans he6).size, Has.new w6 _ _⟩
  case rest =>
    obtain ⟨g, rfl, rfl, hx0, hxg, hxh⟩ := hcut
    have HX0 := Lib.hid (HE0.out.trans hx0)
    have HXH := Lib.hid hxh
    have hg0 : w.heap.size ≤ g := Nat.le_trans HE0.out.size hxg
    clear hx0 hxh hxg HK HB0 HE0
    go_wp2_with fail
    go_loopw [2, 9] (fun s2 s9 wr => ∃ j : Nat, j ≤ n ∧ s2 = .int .i64 ((i / B ^ j : Nat) : Int) ∧ s9 = .int .i64 ((n : Int) - 1 - (j : Int)) ∧ Hid (Ex w wr) ∧ Hid (Has wr g 2 (tab n fun p => .int .i64 (stF N n i j p)))) (fun _ s9 _ => (intOf s9 + 1).toNat)
    case atStart => exact ⟨0, Nat.zero_le _, by simp, by go_num, HX0, Lib.hid (by rw [tab_congr (fun p hp => by rw [stF_zero hp])]; exact HXH.out)⟩
    case round =>
      obtain ⟨j, hj, rfl, rfl, HE, HH⟩ := hrel
      by_cases hlt : j < n
      · obtain ⟨p, hp⟩ : ∃ p, n - 1 - j = p := ⟨_, rfl⟩
        have hpi : (n : Int) - 1 - (j : Int) = (p : Int) := by omega
        have hpn : p < n := by omega
        have HP := Lib.hid hp
        have hB0 : ¬ B = 0 := by have := HBP.out; omega
        have hq24 : i / B ^ j ≤ 2401 := Nat.le_trans (Nat.div_le_self _ _) hi
        have HQ1 : Hid (i / B ^ (j + 1) = i / B ^ j / B) := Lib.hid (by rw [Nat.pow_succ, Nat.div_div_eq_div_mul])
        have HD : Hid ((dN N n i p : Int) = ((i / B ^ j % B + 1 : Nat) : Int)) := Lib.hid (by
          rw [dN, HBN.out, show n - 1 - p = j by omega])
        have c1 : wr.cell? ⟨g, p, none⟩ = some (.int .i64 (stF N n i j p)) := by rw [HH.out.cell, tab_get hpn]
        have f1 := HH.out.free p
        obtain ⟨q, hq⟩ : ∃ q, i / B ^ j = q := ⟨_, rfl⟩
        rw [hq] at HQ1 HD hq24 ⊢
        obtain ⟨r, hr⟩ : ∃ r, q % B = r := ⟨_, rfl⟩
        obtain ⟨d, hd⟩ : ∃ d, q / B = d := ⟨_, rfl⟩
        have hrB : r < B := by rw [← hr]; exact Nat.mod_lt _ (by omega)
        have hdq : d ≤ q := by rw [← hd]; exact Nat.div_le_self _ _
        have hwr : IntKind.i64.wrap ((q : Int) % (B : Int)) = (r : Int) := by rw [← hr, ← Int.natCast_emod, IntWalk.i64_in _ (by rw [hr]; omega)]
        have hwd : IntKind.i64.wrap ((q : Int) / (B : Int)) = (d : Int) := by rw [← hd, ← Int.natCast_ediv, IntWalk.i64_in _ (by rw [hd]; omega)]
        have hwr1 : IntKind.i64.wrap ((r : Int) + 1) = ((r + 1 : Nat) : Int) := by rw [IntWalk.i64_in _ (by omega)]; rfl
        rw [hr] at HD
        rw [hd] at HQ1
        rw [hpi]
        have hl2 : j < n := hlt
        have hww : wrap64 ((q : Int) % (B : Int) + 1) = ((r + 1 : Nat) : Int) := by
          rw [show (q : Int) % (B : Int) = (r : Int) by rw [← hr]; exact (Int.natCast_emod q B).symm]
          show wrap64 ((r + 1 : Nat) : Int) = _
          unfold wrap64
          omega
        clear hq hr hd hp hpi
        go_wp2_with fail
        rw [show (r : Int) + 1 = ((r + 1 : Nat) : Int) from rfl]
        go_roundw
        case rel =>
          refine ⟨j + 1, by omega, by rw [HQ1.out], ?_, Lib.hid (HE.out.setCell (p := ⟨g, p, none⟩) hg0 _), Lib.hid ?_⟩
          · have := HP.out
            congr 1
            omega
          · have h1 := HH.out.put p (.int .i64 ((r + 1 : Nat) : Int))
            rw [tab_set hpn] at h1
            rw [tab_congr (fun p' hp' => by rw [← stF_step hl2, HP.out])]
            refine Eq.mp (congrArg (fun f => Has _ g 2 (tab n f)) (funext fun p' => ?_)) h1
            by_cases h : p' = p
            · rw [if_pos h, if_pos h, HD.out]
            · rw [if_neg h, if_neg h]
        case measure => simp [intOf]
      · obtain rfl : j = n := by omega
        go_wp2_with fail
        go_ret
        refine ⟨some ⟨g, 0, none⟩, j, by rw [lsL_len]; rfl, HE.out, OwnL.of_has (n := j) (e := 2) ?_ (by rw [lsL_len]) hg0⟩
        rw [tab_congr (fun p hp => by rw [nth_lsL hp, ← stF_all])]
        exact HH.out

end Go.Proofs.YtdehalkebneaoaaDoor
