/- Sets of elements, by the program. -/
import Derived.Test.YtalejhbdbclfaaaDoorCs
import Derived.Test.YtalejhbdbclfaaaDoorSm
import Derived.Test.YtalejhbdbclfaaaDoorIsg
import Derived.Test.YtalejhbdbclfaaaDoorBa
namespace Go.Proofs.YtalejhbdbclfaaaDoor
open Go.RowKit Go.Shelf

attribute [local go_sem] Oper.semAt_some

theorem isElement_ex (A : Option Addr) (n c : Nat) (a : Int) (w : World) (hn : n ≤ 1048576) :
    Calls Tryd.prog 86 #[.agg #[.slice A n c], .int .i64 a] w fun e w' => e = .returned (.bool (decide (0 ≤ a ∧ a < n))) ∧ Ex w w' := isElement_any A n c a w hn

set_option maxRecDepth 100000 in
set_option maxHeartbeats 1000000 in
theorem isElementSet_any (A L : Option Addr) (xs : List Int) (N c c' : Nat) (w : World) (hX : IntsW w L xs) (hN : N ≤ 8) (hx : xs.length ≤ 1048576) :
    Calls Tryd.prog 118 #[.agg #[.slice A N c], .slice L xs.length c'] w fun e w' => e = .returned (.bool (setB N xs)) ∧ Ex w w' := by
  have e0 : Ex w (w.alloc (.cells #[.slice A N c] 27)) := (Ex.refl w).alloc _
  have b0 : Has (w.alloc (.cells #[.slice A N c] 27)) (w.heap.size) 27 #[.slice A N c] := (Has.newAt (w := w) (e := 27) (cs := #[.slice A N c]) (k := w.heap.size) (by simp))
  have HX := Lib.hid (hX.ex e0)
  have HE0 := Lib.hid e0
  have HB0 := Lib.hid b0
  have hN1 : N ≤ 1048576 := by omega
  clear hX
  go_enter Tryd.func118, Tryd.ntmps118
  go_wp2_with fail
  generalize (w.alloc (.cells #[.slice A N c] 27)) = W0 at *
  clear e0 b0
  go_loopw [9] (fun i wr => ∃ k : Nat, k ≤ xs.length ∧ i = .int .i64 (k : Int) ∧ Hid (∀ j, j < k → 0 ≤ nth xs j ∧ nth xs j < N) ∧ Hid (ascP xs k) ∧ Hid (Ex W0 wr)) (fun i _ => xs.length - (intOf i).toNat)
  case atStart => exact ⟨0, Nat.zero_le _, rfl, Lib.hid fun j hj => absurd hj (by omega), Lib.hid fun i h0 h1 => absurd h1 (by omega), Lib.hid (Ex.refl _)⟩
  case round =>
    obtain ⟨k, hk, rfl, HR, HA, HE⟩ := hrel
    by_cases hlt : k < xs.length
    · obtain ⟨bx, ox, rfl, hbx, hcx⟩ := (HX.out.ex HE.out).ints.at_ hlt
      have c0 := (HB0.out.ex HE.out).cell 0
      by_cases hr : 0 ≤ nth xs k ∧ nth xs k < (N : Int)
      · have HRK := Lib.hid hr
        have hd : decide (0 ≤ nth xs k ∧ nth xs k < (N : Int)) = true := by simp [hr]
        have HIE := Lib.hid (fun W => hd ▸ isElement_ex A N c (nth xs k) W hN1)
        have HR2 : Hid (∀ j, j < k + 1 → 0 ≤ nth xs j ∧ nth xs j < N) := Lib.hid (fun j hj => by
          rcases Nat.lt_or_ge j k with h | h
          · exact HR.out j h
          · obtain rfl : j = k := by omega
            exact HRK.out)
        clear hr hd
        by_cases h0 : 0 < k
        · obtain ⟨j, rfl⟩ : ∃ j, k = j + 1 := ⟨k - 1, by omega⟩
          have hcy : wr.cell? ⟨bx, ox + j, none⟩ = some (.int .i64 (nth xs j)) := by
            obtain ⟨by_, oy, ey, _, hy⟩ := (HX.out.ex HE.out).ints.at_ (show j < xs.length by omega)
            cases ey
            exact hy
          have hgt : decide ((0 : Int) < ((j + 1 : Nat) : Int)) = true := decide_eq_true (by omega)
          by_cases hq : nth xs j < nth xs (j + 1)
          · have hge : decide (nth xs (j + 1) ≤ nth xs j) = false := by simp; omega
            have HAS := Lib.hid hq
            clear hq
            go_wp2_with (go_at_call 86; refine (HIE.out _).mono ?_; rintro e w5 ⟨rfl, he5⟩; have hcy5 := ((he5.below.cell (p := ⟨bx, ox + j, none⟩) hbx).trans hcy); have HE5 := Lib.hid (HE.out.trans he5))
            go_roundw
            case rel => exact ⟨j + 1 + 1, by omega, by go_num, HR2, Lib.hid (fun i h0 h1 => by
              rcases Nat.lt_or_ge i (j + 1) with h | h
              · exact HA.out i h0 h
              · obtain rfl : i = j + 1 := by omega
                exact HAS.out), HE5⟩
            case measure => simp [intOf]; omega
          · have hge : decide (nth xs (j + 1) ≤ nth xs j) = true := by simp; omega
            have HAS := Lib.hid (setB_asc (N := N) (i := j + 1) (by omega) hlt hq)
            clear hq
            go_wp2_with (go_at_call 86; refine (HIE.out _).mono ?_; rintro e w5 ⟨rfl, he5⟩; have hcy5 := ((he5.below.cell (p := ⟨bx, ox + j, none⟩) hbx).trans hcy); have HE5 := Lib.hid (HE.out.trans he5))
            go_ret
            exact ⟨by rw [HAS.out]; rfl, HE0.out.trans HE5.out⟩
        · obtain rfl : k = 0 := by omega
          simp only [Nat.add_zero] at hcx
          go_wp2_with (go_at_call 86; refine (HIE.out _).mono ?_; rintro e w5 ⟨rfl, he5⟩; have HE5 := Lib.hid (HE.out.trans he5))
          go_roundw
          case rel => exact ⟨1, by omega, by go_num, HR2, Lib.hid (fun i h0 h1 => absurd h1 (by omega)), HE5⟩
          case measure => simp [intOf]; omega
      · have hd : decide (0 ≤ nth xs k ∧ nth xs k < (N : Int)) = false := decide_eq_false hr
        have HIE := Lib.hid (fun W => hd ▸ isElement_ex A N c (nth xs k) W hN1)
        have HAS := Lib.hid (setB_rng (N := N) hlt hr)
        clear hr hd
        go_wp2_with (go_at_call 86; refine (HIE.out _).mono ?_; rintro e w5 ⟨rfl, he5⟩; have HE5 := Lib.hid (HE.out.trans he5))
        go_ret
        exact ⟨by rw [HAS.out]; rfl, HE0.out.trans HE5.out⟩
    · obtain rfl : k = xs.length := by omega
      have HS := Lib.hid (setB_true.2 ⟨HR.out, HA.out⟩)
      go_wp2_with fail
      go_ret
      exact ⟨by rw [HS.out]; rfl, HE0.out.trans HE.out⟩

set_option maxRecDepth 100000 in
set_option maxHeartbeats 1000000 in
theorem setOf_any (L : Option Addr) (xs : List Int) (c N : Nat) (w : World) (hX : IntsW w L xs) (hx : xs.length ≤ 1048576) (hN : N ≤ 8) (hr : ∀ i, i < xs.length → 0 ≤ nth xs i ∧ nth xs i < N) :
    Calls Tryd.prog 120 #[.slice L xs.length c] w fun e w' => e = .returned (.int .u64 (bitsK xs xs.length : Int)) ∧ w = w' := by
  have HX := Lib.hid hX
  have HR := Lib.hid hr
  have HL := Lib.hid (fun k hk => lt256 hN (bitsK_lt hr k hk))
  clear hX hr
  go_enter Tryd.func120, Tryd.ntmps120
  go_wp2_with fail
  go_loop [3, 8] (fun s i => ∃ k : Nat, k ≤ xs.length ∧ i = .int .i64 (k : Int) ∧ s = .int .u64 (bitsK xs k : Int)) (fun _ i => xs.length - (intOf i).toNat)
  case atStart => exact ⟨0, Nat.zero_le _, rfl, rfl⟩
  case round =>
    obtain ⟨k, hk, rfl, rfl⟩ := hrel
    by_cases hlt : k < xs.length
    · obtain ⟨bx, ox, rfl, hbx, hcx⟩ := HX.out.ints.at_ hlt
      have hxr := HR.out k hlt
      obtain ⟨x, hx2⟩ : ∃ x : Nat, nth xs k = (x : Int) := ⟨(nth xs k).toNat, by omega⟩
      have hl2 := HL.out k hk
      have HBK : Hid (bitsK xs (k + 1) = bitsK xs k ||| 2 ^ x) := Lib.hid (by simp [bitsK, hx2])
      rw [hx2] at hcx hxr
      have hx8 : x < 8 := by omega
      obtain ⟨s, hs⟩ : ∃ s, bitsK xs k = s := ⟨_, rfl⟩
      rw [hs] at hl2 HBK ⊢
      clear hs hx2
      go_wp2_with (go_at_call 156; refine (with_any s x _ hl2 hx8).mono ?_; rintro e w' ⟨rfl, rfl⟩)
      go_round
      case rel => exact ⟨k + 1, by omega, by go_num, by rw [HBK.out]⟩
      case measure => simp [intOf]; omega
    · obtain rfl : k = xs.length := by omega
      go_wp2_with fail
      go_ret
      exact ⟨rfl, rfl⟩

end Go.Proofs.YtalejhbdbclfaaaDoor
