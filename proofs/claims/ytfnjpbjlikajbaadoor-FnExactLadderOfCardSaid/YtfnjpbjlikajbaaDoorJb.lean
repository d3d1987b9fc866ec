/- Circles by the specification: rests, powers, norms, the test, codes. -/
import Derived.IntWalk
import Derived.Test.YtfnjpbjlikajbaaDoorJa
import Derived.Test.YtfnjpbjlikajbaaDoorExv
import Derived.Test.YtfnjpbjlikajbaaDoorCel
namespace Go.Proofs.YtfnjpbjlikajbaaDoor
open Go.RowKit

theorem tmodBig (x : Int) (m : Nat) (hm : 0 < m) (hm' : m ≤ 200) : -201 < Int.tmod x m ∧ Int.tmod x m < 200 := by
  have h0 := Int.emod_nonneg x (show (m : Int) ≠ 0 by omega)
  have h1 := Int.emod_lt_of_pos x (show 0 < (m : Int) by omega)
  rcases restIf x m (by omega) with ⟨h2, h3⟩ | ⟨h2, h3⟩ <;> omega

set_option maxHeartbeats 400000 in
theorem l01Mod_big (x : Int) (m : Nat) (w : World) (hm : 0 < m) (hm' : m ≤ 200) (_ : -1000000 ≤ x) (_ : x ≤ 1000000) :
    Calls Tryd.prog 53 #[.int .i64 x, .int .i64 (m : Int)] w fun e w' => e = .returned (.int .i64 (x % (m : Int))) ∧ w' = w := by
  have hb := tmodBig x m hm hm'
  have hw : wrap64 (Int.tmod x m + m) = Int.tmod x m + m := by unfold wrap64; omega
  go_enter Tryd.func53, Tryd.ntmps53
  go_wp2
  go_ret
  refine ⟨?_, rfl⟩
  simp only [restUp x m (by omega)]
  rfl

theorem mul_200 {a b : Nat} (ha : a < 200) (hb : b ≤ 200) : a * b ≤ 40000 := Nat.le_trans (Nat.mul_le_mul (Nat.le_of_lt ha) hb) (by decide)

set_option maxHeartbeats 1000000 in
theorem l09Power_any (M U K : Nat) (w : World) (hM : 0 < M) (hM2 : M ≤ 200) (hU : U ≤ 200) (hK : K ≤ 60) :
    Calls Tryd.prog 28 #[.int .i64 (U : Int), .int .i64 (K : Int), .int .i64 (M : Int)] w fun e w' => e = .returned (.int .i64 (pwm M U K : Int)) ∧ w' = w := by
  have HCON := Lib.hid (l01Mod_big 1 M w hM hM2 (by omega) (by omega))
  go_enter Tryd.func28, Tryd.ntmps28
  go_wp2_with fail
  refine HCON.out.mono ?_
  rintro e w' ⟨rfl, rfl⟩
  go_wp2_with fail
  go_loop [1, 7] (fun i p => ∃ k : Nat, k ≤ K ∧ i = .int .i64 ((K - k : Nat) : Int) ∧ p = .int .i64 (pwm M U k : Int)) (fun i _ => (intOf i).toNat)
  case atStart => exact ⟨0, by omega, rfl, rfl⟩
  case round =>
    obtain ⟨k, hk, rfl, rfl⟩ := hrel
    have hp := pwm_lt U hM k
    by_cases hlt : k < K
    · have h2 := mul_200 (a := pwm M U k) (b := U) (by omega) hU
      have hs : pwm M U (k + 1) = pwm M U k * U % M := rfl
      have hg : decide ((0 : Int) < ((K - k : Nat) : Int)) = true := by simp; omega
      have hne : ¬ M = 0 := by omega
      obtain ⟨d, hd⟩ : ∃ d, K - k = d + 1 := ⟨K - k - 1, by omega⟩
      have HD := Lib.hid hd
      have HS := Lib.hid hs
      rw [hd] at hg
      rw [hd]
      clear hd hs
      obtain ⟨p, hpp⟩ : ∃ p, pwm M U k = p := ⟨_, rfl⟩
      rw [hpp] at hp h2 HS
      rw [hpp]
      clear hpp
      go_wp2_with fail
      have hw : wrap64 (d : Int) = (d : Int) := by have := HD.out; unfold wrap64; omega
      rw [hw]
      refine ⟨⟨k + 1, by omega, ?_, ?_⟩, by simp [intOf]⟩
      · have := HD.out
        rw [show K - (k + 1) = d by omega]
      · rw [HS.out]; simp
    · obtain rfl : k = K := by omega
      have hz : k - k = 0 := Nat.sub_self k
      rw [hz]
      clear hz
      go_wp2_with fail
      go_ret
      exact ⟨rfl, rfl⟩

set_option maxHeartbeats 1000000 in
theorem l09Norm_any (M U N : Nat) (w : World) (hM : 0 < M) (hM2 : M ≤ 200) (hU : U ≤ 200) (hN : N ≤ 60) :
    Calls Tryd.prog 27 #[.int .i64 (N : Int), .int .i64 (M : Int), .int .i64 (U : Int)] w fun e w' => e = .returned (.int .i64 (hrn M U N : Int)) ∧ w' = w := by
  have HCON := Lib.hid (fun k (hk : k ≤ 60) => l09Power_any M U k w hM hM2 hU hk)
  go_enter Tryd.func27, Tryd.ntmps27
  go_wp2_with fail
  go_loop [7, 8] (fun s i => ∃ k : Nat, k ≤ N ∧ s = .int .i64 (pws M U k : Int) ∧ i = .int .i64 (k : Int)) (fun _ i => N - (intOf i).toNat)
  case atStart => exact ⟨0, by omega, rfl, rfl⟩
  case round =>
    obtain ⟨k, hk, rfl, rfl⟩ := hrel
    have hp := pws_le U hM k
    have hp2 : k * M ≤ 60 * 200 := Nat.mul_le_mul (by omega) hM2
    by_cases hlt : k < N
    · have hcon := HCON.out k (by omega)
      have hq := pwm_lt U hM k
      have HS : Hid (pws M U (k + 1) = pws M U k + pwm M U k) := Lib.hid rfl
      obtain ⟨p, hpp⟩ : ∃ p, pwm M U k = p := ⟨_, rfl⟩
      obtain ⟨q, hqq⟩ : ∃ q, pws M U k = q := ⟨_, rfl⟩
      rw [hpp] at hcon hq HS
      rw [hqq] at hp HS
      rw [hqq]
      have HC := Lib.hid hcon
      clear hcon hpp hqq HCON
      have hq4 : q ≤ 12000 := by omega
      clear hp hp2
      go_wp2_with fail
      refine HC.out.mono ?_
      rintro e w' ⟨rfl, rfl⟩
      go_wp2_with fail
      go_round
      case rel => exact ⟨k + 1, by omega, by rw [HS.out]; go_num, by go_num⟩
      case measure => simp [intOf]; omega
    · obtain rfl : k = N := by omega
      have HS : Hid (hrn M U k = pws M U k % M) := Lib.hid (hrn_eq M U k)
      obtain ⟨q, hqq⟩ : ∃ q, pws M U k = q := ⟨_, rfl⟩
      rw [hqq] at hp HS
      rw [hqq]
      have hq4 : q ≤ 12000 := by omega
      have hne : ¬ M = 0 := by omega
      clear hp hp2 hqq HCON
      go_wp2_with fail
      go_ret
      exact ⟨by rw [HS.out]; simp, rfl⟩

theorem circ_off {n m u : Int} (h : inB n 1 60 = false ∨ inB m 2 200 = false ∨ unitB m u = false ∨ pwm m.toNat u.toNat n.toNat ≠ 1) : circB n m u = false := by
  unfold circB
  rcases h with h | h | h | h
  · simp [h]
  · simp [h]
  · simp [h]
  · simp [h]

set_option maxHeartbeats 2000000 in
theorem specIsCircle_w (n m u : Int) (w : World) :
    Calls Tryd.prog 46 #[.int .i64 n, .int .i64 m, .int .i64 u] w fun e w' => e = .returned (.bool (circB n m u)) ∧ w' = w := by
  have H1 := Lib.hid (l01In_ex n 1 60 w)
  have H2 := Lib.hid (l01In_ex m 2 200 w)
  have H3 := Lib.hid (l01In_ex u 1 (m - 1) w)
  cases h1 : inB n 1 60 with
  | false =>
    have HC := Lib.hid (circ_off (u := u) (m := m) (.inl h1))
    rw [h1] at H1
    clear h1
    go_enter Tryd.func46, Tryd.ntmps46
    go_wp2_with fail
    refine H1.out.mono ?_
    rintro e w' ⟨rfl, rfl⟩
    go_wp2_with fail
    go_ret
    exact ⟨by rw [HC.out]; rfl, rfl⟩
  | true =>
  rw [h1] at H1
  obtain ⟨hn1, hn2⟩ := inB_true h1
  cases h2 : inB m 2 200 with
  | false =>
    have HC := Lib.hid (circ_off (u := u) (n := n) (.inr (.inl h2)))
    rw [h2] at H2
    clear h2 h1
    go_enter Tryd.func46, Tryd.ntmps46
    go_wp2_with fail
    refine H1.out.mono ?_
    rintro e w' ⟨rfl, rfl⟩
    go_wp2_with fail
    refine H2.out.mono ?_
    rintro e w'' ⟨rfl, rfl⟩
    go_wp2_with fail
    go_ret
    exact ⟨by rw [HC.out]; rfl, rfl⟩
  | true =>
  rw [h2] at H2
  obtain ⟨hm1, hm2⟩ := inB_true h2
  cases h3 : inB u 1 (m - 1) with
  | false =>
    have HC : Hid (circB n m u = false) := Lib.hid (circ_off (.inr (.inr (.inl (unitB_false fun h => by have := inB_false h3; omega)))))
    rw [h3] at H3
    clear h1 h2 h3
    go_enter Tryd.func46, Tryd.ntmps46
    go_wp2_with fail
    refine H1.out.mono ?_
    rintro e w' ⟨rfl, rfl⟩
    go_wp2_with fail
    refine H2.out.mono ?_
    rintro e w'' ⟨rfl, rfl⟩
    go_wp2_with fail
    refine H3.out.mono ?_
    rintro e w''' ⟨rfl, rfl⟩
    go_wp2_with fail
    go_ret
    exact ⟨by rw [HC.out]; rfl, rfl⟩
  | true =>
  rw [h3] at H3
  obtain ⟨hu1, hu2⟩ := inB_true h3
  obtain ⟨N, rfl⟩ : ∃ N : Nat, n = (N : Int) := ⟨n.toNat, by omega⟩
  obtain ⟨M, rfl⟩ : ∃ M : Nat, m = (M : Int) := ⟨m.toNat, by omega⟩
  obtain ⟨U, rfl⟩ : ∃ U : Nat, u = (U : Int) := ⟨u.toNat, by omega⟩
  have hg := gcd_unit (m := (M : Int)) (u := (U : Int)) hu1 (by omega)
  simp only [Int.toNat_natCast] at hg
  have H4 := Lib.hid (l01Gcd_any U M w (by omega) (by omega))
  by_cases h4 : Nat.gcd U M = 1
  · rw [h4] at H4
    have hun : unitB (M : Int) (U : Int) = true := by rw [hg, h4]; rfl
    have H5 := Lib.hid (l09Power_any M U N w (by omega) (by omega) (by omega) (by omega))
    have hcb : circB (N : Int) (M : Int) (U : Int) = (pwm M U N == 1) := by
      simp only [circB, h1, h2, hun, Int.toNat_natCast, Bool.true_and]
    have HC := Lib.hid hcb
    obtain ⟨p, hp⟩ : ∃ p, pwm M U N = p := ⟨_, rfl⟩
    rw [hp] at H5 HC
    obtain ⟨b, hb⟩ : ∃ b, (p == 1) = b := ⟨_, rfl⟩
    have hb' : ((p : Int) == 1) = b := by rw [← hb, Bool.eq_iff_iff]; simp only [beq_iff_eq]; omega
    rw [hb] at HC
    clear h1 h2 h3 h4 hg hun hcb hp hb
    go_enter Tryd.func46, Tryd.ntmps46
    go_wp2_with fail
    refine H1.out.mono ?_
    rintro e w' ⟨rfl, rfl⟩
    go_wp2_with fail
    refine H2.out.mono ?_
    rintro e w'' ⟨rfl, rfl⟩
    go_wp2_with fail
    refine H3.out.mono ?_
    rintro e w3 ⟨rfl, rfl⟩
    go_wp2_with fail
    refine H4.out.mono ?_
    rintro e w4 ⟨rfl, rfl⟩
    go_wp2_with fail
    refine H5.out.mono ?_
    rintro e w5 ⟨rfl, rfl⟩
    go_wp2_with fail
    go_ret
    exact ⟨by rw [HC.out]; rfl, rfl⟩
  · have HC : Hid (circB (N : Int) (M : Int) (U : Int) = false) := Lib.hid (circ_off (.inr (.inr (.inl (by rw [hg]; simpa using h4)))))
    obtain ⟨g, hgg⟩ : ∃ g, Nat.gcd U M = g := ⟨_, rfl⟩
    rw [hgg] at H4 h4
    have hb' : ((g : Int) == 1) = false := by simp; omega
    clear h1 h2 h3 h4 hg hgg
    go_enter Tryd.func46, Tryd.ntmps46
    go_wp2_with fail
    refine H1.out.mono ?_
    rintro e w' ⟨rfl, rfl⟩
    go_wp2_with fail
    refine H2.out.mono ?_
    rintro e w'' ⟨rfl, rfl⟩
    go_wp2_with fail
    refine H3.out.mono ?_
    rintro e w3 ⟨rfl, rfl⟩
    go_wp2_with fail
    refine H4.out.mono ?_
    rintro e w4 ⟨rfl, rfl⟩
    go_wp2_with fail
    go_ret
    exact ⟨by rw [HC.out]; rfl, rfl⟩

end Go.Proofs.YtfnjpbjlikajbaaDoor
