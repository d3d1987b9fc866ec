/- Greatest common divisors, of the program and of the specification; units. -/
import Derived.Test.YtdehalkebneaoaaDoorBase
namespace Go.Proofs.YtdehalkebneaoaaDoor
open Go.RowKit

theorem gcd_step {x y : Nat} (_ : 0 < y) : Nat.gcd y (x % y) = Nat.gcd x y := by
  rw [Nat.gcd_comm x y, Nat.gcd_rec y x, Nat.gcd_comm]

theorem tmod_nat (x y : Nat) : Int.tmod (x : Int) (y : Int) = ((x % y : Nat) : Int) := (Int.ofNat_tmod x y).symm

set_option maxHeartbeats 400000 in
theorem commonDivisor_any (a b : Nat) (w : World) (ha : a ≤ 1048576) (hb : b ≤ 1048576) :
    Calls Tryd.prog 184 #[.int .i64 (a : Int), .int .i64 (b : Int)] w fun e w' => e = .returned (.int .i64 (Nat.gcd a b : Int)) ∧ Drawn w w' := by
  go_enter Tryd.func184, Tryd.ntmps184
  go_wp2
  go_loopw [0, 1] (fun p q wr => ∃ x y : Nat, p = .int .i64 (x : Int) ∧ q = .int .i64 (y : Int) ∧ x ≤ 1048576 ∧ y ≤ 1048576 ∧ Hid (Nat.gcd x y = Nat.gcd a b) ∧ Drawn w wr) (fun _ q _ => (intOf q).toNat)
  case atStart => exact ⟨a, b, rfl, rfl, ha, hb, Lib.hid rfl, Drawn.refl _⟩
  case round =>
    obtain ⟨x, y, rfl, rfl, hx, hy, HG, hd⟩ := hrel
    by_cases h0 : y = 0
    · subst h0
      go_wp2
      go_ret
      refine ⟨?_, hd⟩
      rw [← HG.out, Nat.gcd_zero_right]
      rfl
    · have hy0 : 0 < y := Nat.pos_of_ne_zero h0
      have hm : x % y < y := Nat.mod_lt _ hy0
      have hg : Nat.gcd y (x % y) = Nat.gcd a b := (gcd_step hy0).trans HG.out
      have HG2 := Lib.hid hg
      have ht := tmod_nat x y
      have hne : ((y : Int) != 0) = true := by simp; omega
      have HD := Lib.hid hd
      clear hg HG hd
      generalize x % y = z at *
      go_wp2
      go_quiet (fail)
      go_roundw
      case rel => exact ⟨_, _, _, _, _, _, _, _, ⟨y, z, rfl, rfl, hy, by omega, HG2, HD.out.more _⟩, rfl⟩
      case measure => simp [intOf]; omega

set_option maxHeartbeats 400000 in
theorem l01Gcd_any (a b : Nat) (w : World) (ha : a ≤ 1048576) (hb : b ≤ 1048576) :
    Calls Tryd.prog 162 #[.int .i64 (a : Int), .int .i64 (b : Int)] w fun e w' => e = .returned (.int .i64 (Nat.gcd a b : Int)) ∧ w' = w := by
  go_enter Tryd.func162, Tryd.ntmps162
  go_wp2
  go_loop [0, 1] (fun p q => ∃ x y : Nat, p = .int .i64 (x : Int) ∧ q = .int .i64 (y : Int) ∧ x ≤ 1048576 ∧ y ≤ 1048576 ∧ Hid (Nat.gcd x y = Nat.gcd a b)) (fun _ q => (intOf q).toNat)
  case atStart => exact ⟨a, b, rfl, rfl, ha, hb, Lib.hid rfl⟩
  case round =>
    obtain ⟨x, y, rfl, rfl, hx, hy, HG⟩ := hrel
    by_cases h0 : y = 0
    · subst h0
      go_wp2
      go_ret
      refine ⟨?_, rfl⟩
      rw [← HG.out, Nat.gcd_zero_right]
      rfl
    · have hy0 : 0 < y := Nat.pos_of_ne_zero h0
      have hm : x % y < y := Nat.mod_lt _ hy0
      have hg : Nat.gcd y (x % y) = Nat.gcd a b := (gcd_step hy0).trans HG.out
      have HG2 := Lib.hid hg
      have ht := tmod_nat x y
      have hne : ((y : Int) != 0) = true := by simp; omega
      clear hg HG
      generalize x % y = z at *
      go_wp2
      go_round
      case rel => exact ⟨y, z, by go_num, by go_num, hy, by omega, HG2⟩
      case measure => simp [intOf]; omega

/-- Is u a unit modulo m? -/
def unitB (m u : Int) : Bool := decide (1 ≤ u) && (decide (u < m) && (Nat.gcd m.toNat u.toNat == 1))
/-- Are all of them units? -/
def unitsB (m : Int) (us : List Int) : Bool := us.all (unitB m)

theorem unitB_iff {m u : Int} : unitB m u = true ↔ 1 ≤ u ∧ u < m ∧ Nat.gcd m.toNat u.toNat = 1 := by
  simp [unitB]
theorem unitB_false {m u : Int} (h : ¬ (1 ≤ u ∧ u < m ∧ Nat.gcd m.toNat u.toNat = 1)) : unitB m u = false := by
  cases hq : unitB m u
  · rfl
  · exact absurd (unitB_iff.1 hq) h
theorem unitsB_iff {m : Int} {us : List Int} : unitsB m us = true ↔ ∀ i, i < us.length → unitB m (nth us i) = true := by
  unfold unitsB
  rw [List.all_eq_true]
  constructor
  · intro h i hi
    have := h (us[i]) (List.getElem_mem hi)
    simpa [nth, hi] using this
  · intro h x hx
    obtain ⟨i, hi, rfl⟩ := List.getElem_of_mem hx
    have := h i hi
    simpa [nth, hi] using this
theorem unitsB_false {m : Int} {us : List Int} {i : Nat} (hi : i < us.length) (h : unitB m (nth us i) = false) : unitsB m us = false := by
  cases hq : unitsB m us
  · rfl
  · have := unitsB_iff.1 hq i hi
    rw [h] at this
    cases this

set_option maxHeartbeats 400000 in
theorem isUnit_any (m u : Int) (w : World) (hm : m ≤ 1048576) (hm0 : 0 ≤ m) :
    Calls Tryd.prog 168 #[.int .i64 m, .int .i64 u] w fun e w' => e = .returned (.bool (unitB m u)) ∧ Drawn w w' := by
  by_cases h1 : 1 ≤ u
  · by_cases h2 : u < m
    · obtain ⟨M, rfl⟩ := Int.eq_ofNat_of_zero_le hm0
      obtain ⟨U, rfl⟩ := Int.eq_ofNat_of_zero_le (show 0 ≤ u by omega)
      have hd1 : decide ((1 : Int) ≤ (U : Int)) = true := by simp; omega
      have hd2 : decide ((U : Int) < (M : Int)) = true := by simp; omega
      have hcon := commonDivisor_any M U w (by omega) (by omega)
      have hun : unitB (M : Int) (U : Int) = (Nat.gcd M U == 1) := by
        simp only [unitB, hd1, hd2, Bool.true_and, Int.toNat_natCast]
      obtain ⟨d, hd⟩ : ∃ d, Nat.gcd M U = d := ⟨_, rfl⟩
      rw [hd] at hcon hun
      have HCON := Lib.hid hcon
      have HU := Lib.hid hun
      clear hd hcon hun
      go_enter Tryd.func168, Tryd.ntmps168
      go_wp2_with fail
      refine HCON.out.mono ?_
      rintro e w' ⟨rfl, hdw⟩
      have HDW := Lib.hid hdw
      clear hdw
      by_cases hd : d = 1
      · have hq : ((d : Int) == 1) = true := by simp [hd]
        have HD := Lib.hid hd
        clear hd
        go_wp2
        go_ret
        exact ⟨by rw [HU.out, HD.out]; rfl, HDW.out⟩
      · have hq : ((d : Int) == 1) = false := by simp; omega
        have HD := Lib.hid hd
        clear hd
        go_wp2
        go_ret
        exact ⟨by rw [HU.out, show (d == 1) = false from by simp [HD.out]]; rfl, HDW.out⟩
    · have HU : Hid (unitB m u = false) := Lib.hid (unitB_false fun h => h2 h.2.1)
      have hd1 : decide ((1 : Int) ≤ u) = true := by simp; omega
      have hd2 : decide (u < m) = false := by simp; omega
      clear h2
      go_enter Tryd.func168, Tryd.ntmps168
      go_wp2
      go_ret
      exact ⟨by rw [HU.out]; rfl, Drawn.refl _⟩
  · have HU : Hid (unitB m u = false) := Lib.hid (unitB_false fun h => h1 h.1)
    have hd1 : decide ((1 : Int) ≤ u) = false := by simp; omega
    clear h1
    go_enter Tryd.func168, Tryd.ntmps168
    go_wp2
    go_ret
    exact ⟨by rw [HU.out]; rfl, Drawn.refl _⟩

set_option maxHeartbeats 400000 in
theorem isModulus_any (m : Int) (w : World) :
    Calls Tryd.prog 144 #[.int .i64 m] w fun e w' => e = .returned (.bool (decide (2 ≤ m) && decide (m ≤ 12))) ∧ w' = w := by
  cases h1 : decide ((2 : Int) ≤ m) <;> cases h2 : decide (m ≤ (12 : Int)) <;>
  · go_enter Tryd.func144, Tryd.ntmps144
    go_wp2
    go_ret
    exact ⟨rfl, rfl⟩

set_option maxHeartbeats 400000 in
theorem areUnits_any (m : Int) (A : Option Addr) (us : List Int) (c B : Nat) (w : World) (hX : Ints w B A us) (hn : us.length ≤ 1048576) (hm : m ≤ 1048576) (hm0 : 0 ≤ m) :
    Calls Tryd.prog 145 #[.int .i64 m, .slice A us.length c] w fun e w' => e = .returned (.bool (unitsB m us)) ∧ Drawn w w' := by
  have HX := Lib.hid hX
  clear hX
  go_enter Tryd.func145, Tryd.ntmps145
  go_wp2
  go_loopw [9] (fun i wr => ∃ k : Nat, k ≤ us.length ∧ i = .int .i64 k ∧ Hid (∀ i, i < k → unitB m (nth us i) = true) ∧ Drawn w wr) (fun i _ => us.length - (intOf i).toNat)
  case atStart => exact ⟨0, by omega, rfl, Lib.hid fun i hi => absurd hi (by omega), Drawn.refl _⟩
  case round =>
    obtain ⟨k, hk, rfl, HS, hd⟩ := hrel
    have HD := Lib.hid hd
    by_cases hlt : k < us.length
    · obtain ⟨b, o, rfl, hb, hcell⟩ := (hd.ints HX.out).at_ hlt
      have HCON := Lib.hid (isUnit_any m (nth us k) wr hm hm0)
      clear hd
      cases hu : unitB m (nth us k) with
      | false =>
        have HU := Lib.hid (unitsB_false hlt hu)
        rw [hu] at HCON
        clear hu
        generalize nth us k = u at *
        go_wp2_with fail
        refine HCON.out.mono ?_
        rintro e w' ⟨rfl, hd1⟩
        have HD1 := Lib.hid (HD.out.trans hd1)
        clear hd1
        go_wp2
        go_ret
        exact ⟨by rw [HU.out]; rfl, HD1.out⟩
      | true =>
        have HU := Lib.hid hu
        rw [hu] at HCON
        clear hu
        obtain ⟨u, hu⟩ : ∃ u, nth us k = u := ⟨_, rfl⟩
        have HN := Lib.hid hu
        rw [hu] at HCON hcell
        clear hu
        go_wp2_with fail
        refine HCON.out.mono ?_
        rintro e w' ⟨rfl, hd1⟩
        have HD1 := Lib.hid (HD.out.trans hd1)
        clear hd1
        go_wp2
        go_roundw
        case rel => exact ⟨k + 1, by omega, by go_num, Lib.hid fun i hi => by
          rcases Nat.lt_or_ge i k with h | h
          · exact HS.out i h
          · obtain rfl : i = k := by omega
            exact HU.out, HD1.out⟩
        case measure => simp [intOf]; omega
    · have hkk : k = us.length := by omega
      subst hkk
      clear hd
      go_wp2
      go_ret
      exact ⟨by rw [unitsB_iff.2 HS.out]; rfl, HD.out⟩

end Go.Proofs.YtdehalkebneaoaaDoor
