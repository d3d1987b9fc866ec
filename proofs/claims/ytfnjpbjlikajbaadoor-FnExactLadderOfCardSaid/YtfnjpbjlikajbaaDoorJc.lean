/- Circles by the program: powers, sums, norms, differences, reduced ones. -/
import Derived.IntWalk
import Derived.Deep.RegionHeld3
import Derived.Test.YtfnjpbjlikajbaaDoorJb
namespace Go.Proofs.YtfnjpbjlikajbaaDoor
open Go.RowKit

theorem Has.put3 {w : World} {g : Nat} {e : TypeId} {x y z u v t : Value} (h : Has w g e #[x, y, z]) : Has (((w.setCell ⟨g, 0, none⟩ u).setCell ⟨g, 1, none⟩ v).setCell ⟨g, 2, none⟩ t) g e #[u, v, t] := by simpa using ((h.put 0 u).put 1 v).put 2 t

set_option maxHeartbeats 1000000 in
theorem power_any (n : Int) (M U K : Nat) (w : World) (hM : 2 ≤ M) (hM2 : M ≤ 200) (hU : U ≤ 200) (hK : K ≤ 60) :
    Calls Tryd.prog 105 #[.agg #[.int .i64 n, .int .i64 (M : Int), .int .i64 (U : Int)], .int .i64 (K : Int)] w fun e w' => e = .returned (.int .i64 (pwm M U K : Int)) ∧ Ex w w' := by
  have e0 : Ex w (w.alloc (.cells #[.int .i64 n, .int .i64 (M : Int), .int .i64 (U : Int)] 44)) := (Ex.refl w).alloc _
  have b0 : Has (w.alloc (.cells #[.int .i64 n, .int .i64 (M : Int), .int .i64 (U : Int)] 44)) (w.heap.size) 44 #[.int .i64 n, .int .i64 (M : Int), .int .i64 (U : Int)] := (Has.newAt (w := w) (e := 44) (cs := #[.int .i64 n, .int .i64 (M : Int), .int .i64 (U : Int)]) (k := w.heap.size) (by simp))
  have c1 := b0.cell 1
  have c2 := b0.cell 2
  have hM0 : 0 < M := by omega
  have HE := Lib.hid e0
  clear b0 e0
  go_enter Tryd.func105, Tryd.ntmps105
  go_wp2_with fail
  generalize (w.alloc (.cells #[.int .i64 n, .int .i64 (M : Int), .int .i64 (U : Int)] 44)) = W0 at *
  go_loop [5, 7] (fun p i => ∃ k : Nat, k ≤ K ∧ p = .int .i64 (pwm M U k : Int) ∧ i = .int .i64 (k : Int)) (fun _ i => K - (intOf i).toNat)
  case atStart => exact ⟨0, by omega, by rw [pwm, Nat.mod_eq_of_lt (by omega)]; rfl, rfl⟩
  case round =>
    obtain ⟨k, hk, rfl, rfl⟩ := hrel
    have hp := pwm_lt U hM0 k
    by_cases hlt : k < K
    · have h2 := mul_200 (a := pwm M U k) (b := U) (by omega) hU
      have HS : Hid (pwm M U (k + 1) = pwm M U k * U % M) := Lib.hid rfl
      have hne : ¬ M = 0 := by omega
      obtain ⟨p, hpp⟩ : ∃ p, pwm M U k = p := ⟨_, rfl⟩
      rw [hpp] at hp h2 HS
      rw [hpp]
      clear hpp
      go_wp2_with fail
      go_round
      case rel => exact ⟨k + 1, by omega, by rw [HS.out]; go_num, by go_num⟩
      case measure => simp [intOf]; omega
    · obtain rfl : k = K := by omega
      go_wp2_with fail
      go_ret
      exact ⟨rfl, HE.out⟩

set_option maxHeartbeats 1000000 in
theorem sumOfPowers_any (n : Int) (M U K : Nat) (w : World) (hM : 2 ≤ M) (hM2 : M ≤ 200) (hU : U ≤ 200) (hK : K ≤ 60) :
    Calls Tryd.prog 31 #[.agg #[.int .i64 n, .int .i64 (M : Int), .int .i64 (U : Int)], .int .i64 (K : Int)] w fun e w' => e = .returned (.int .i64 (hrn M U K : Int)) ∧ Ex w w' := by
  have e0 : Ex w (w.alloc (.cells #[.int .i64 n, .int .i64 (M : Int), .int .i64 (U : Int)] 44)) := (Ex.refl w).alloc _
  have b0 : Has (w.alloc (.cells #[.int .i64 n, .int .i64 (M : Int), .int .i64 (U : Int)] 44)) (w.heap.size) 44 #[.int .i64 n, .int .i64 (M : Int), .int .i64 (U : Int)] := (Has.newAt (w := w) (e := 44) (cs := #[.int .i64 n, .int .i64 (M : Int), .int .i64 (U : Int)]) (k := w.heap.size) (by simp))
  have c1 := b0.cell 1
  have c2 := b0.cell 2
  have hM0 : 0 < M := by omega
  have HE := Lib.hid e0
  clear b0 e0
  go_enter Tryd.func31, Tryd.ntmps31
  go_wp2_with fail
  generalize (w.alloc (.cells #[.int .i64 n, .int .i64 (M : Int), .int .i64 (U : Int)] 44)) = W0 at *
  go_loop [5, 7] (fun p i => ∃ k : Nat, k ≤ K ∧ p = .int .i64 (hrn M U k : Int) ∧ i = .int .i64 (k : Int)) (fun _ i => K - (intOf i).toNat)
  case atStart => exact ⟨0, by omega, rfl, rfl⟩
  case round =>
    obtain ⟨k, hk, rfl, rfl⟩ := hrel
    have hp := hrn_lt U hM0 k
    by_cases hlt : k < K
    · have h2 := mul_200 (a := hrn M U k) (b := U) (by omega) hU
      have HS : Hid (hrn M U (k + 1) = (hrn M U k * U + 1) % M) := Lib.hid rfl
      have hne : ¬ M = 0 := by omega
      obtain ⟨p, hpp⟩ : ∃ p, hrn M U k = p := ⟨_, rfl⟩
      rw [hpp] at hp h2 HS
      rw [hpp]
      clear hpp
      go_wp2_with fail
      go_round
      case rel => exact ⟨k + 1, by omega, by rw [HS.out]; go_num, by go_num⟩
      case measure => simp [intOf]; omega
    · obtain rfl : k = K := by omega
      go_wp2_with fail
      go_ret
      exact ⟨rfl, HE.out⟩

set_option maxHeartbeats 1000000 in
theorem norm_any (N M U : Nat) (w : World) (hM : 2 ≤ M) (hM2 : M ≤ 200) (hU : U ≤ 200) (hN : N ≤ 60) :
    Calls Tryd.prog 29 #[.agg #[.int .i64 (N : Int), .int .i64 (M : Int), .int .i64 (U : Int)]] w fun e w' => e = .returned (.int .i64 (hrn M U N : Int)) ∧ Ex w w' := by
  have e0 : Ex w (w.alloc (.cells #[.int .i64 (N : Int), .int .i64 (M : Int), .int .i64 (U : Int)] 44)) := (Ex.refl w).alloc _
  have b0 : Has (w.alloc (.cells #[.int .i64 (N : Int), .int .i64 (M : Int), .int .i64 (U : Int)] 44)) (w.heap.size) 44 #[.int .i64 (N : Int), .int .i64 (M : Int), .int .i64 (U : Int)] := (Has.newAt (w := w) (e := 44) (cs := #[.int .i64 (N : Int), .int .i64 (M : Int), .int .i64 (U : Int)]) (k := w.heap.size) (by simp))
  have c0 := b0.cell 0
  have c1 := b0.cell 1
  have c2 := b0.cell 2
  have HE := Lib.hid e0
  clear b0 e0
  have HCON := Lib.hid (fun W => sumOfPowers_any (N : Int) M U N W hM hM2 hU hN)
  go_enter Tryd.func29, Tryd.ntmps29
  go_wp2_with fail
  generalize (w.alloc (.cells #[.int .i64 (N : Int), .int .i64 (M : Int), .int .i64 (U : Int)] 44)) = W0 at *
  refine (HCON.out W0).mono ?_
  rintro e w' ⟨rfl, he⟩
  go_wp2_with fail
  go_ret
  exact ⟨rfl, HE.out.trans he⟩

set_option maxHeartbeats 1000000 in
theorem difference_any (n m : Int) (U : Nat) (w : World) (hU1 : 1 ≤ U) (hU : U ≤ 200) :
    Calls Tryd.prog 22 #[.agg #[.int .i64 n, .int .i64 m, .int .i64 (U : Int)]] w fun e w' => e = .returned (.int .i64 ((U - 1 : Nat) : Int)) ∧ Ex w w' := by
  have e0 : Ex w (w.alloc (.cells #[.int .i64 n, .int .i64 m, .int .i64 (U : Int)] 44)) := (Ex.refl w).alloc _
  have b0 : Has (w.alloc (.cells #[.int .i64 n, .int .i64 m, .int .i64 (U : Int)] 44)) (w.heap.size) 44 #[.int .i64 n, .int .i64 m, .int .i64 (U : Int)] := (Has.newAt (w := w) (e := 44) (cs := #[.int .i64 n, .int .i64 m, .int .i64 (U : Int)]) (k := w.heap.size) (by simp))
  have c2 := b0.cell 2
  have HE := Lib.hid e0
  have HU : Hid (((U - 1 : Nat) : Int) = (U : Int) - 1) := Lib.hid (by omega)
  clear b0 e0
  go_enter Tryd.func22, Tryd.ntmps22
  go_wp2_with fail
  go_ret
  exact ⟨by rw [HU.out]; rfl, HE.out⟩

set_option maxHeartbeats 1000000 in
theorem reduced_any (N M U K : Nat) (w : World) (hM : 2 ≤ M) (hM2 : M ≤ 200) (hU : U ≤ 200) (hN : N ≤ 60) (hK : K ≤ 60) (hK1 : 1 ≤ K) :
    Calls Tryd.prog 97 #[.agg #[.int .i64 (N : Int), .int .i64 (M : Int), .int .i64 (U : Int)], .int .i64 (K : Int)] w fun e w' => e = .returned (.agg #[.int .i64 ((N / K : Nat) : Int), .int .i64 (M : Int), .int .i64 (pwm M U K : Int)]) ∧ Ex w w' := by
  have e0 : Ex w ((w.alloc (.cells #[.int .i64 (N : Int), .int .i64 (M : Int), .int .i64 (U : Int)] 44)).alloc (.cells #[.int .i64 0, .int .i64 0, .int .i64 0] 44)) := ((Ex.refl w).alloc _).alloc _
  have b0 : Has ((w.alloc (.cells #[.int .i64 (N : Int), .int .i64 (M : Int), .int .i64 (U : Int)] 44)).alloc (.cells #[.int .i64 0, .int .i64 0, .int .i64 0] 44)) (w.heap.size) 44 #[.int .i64 (N : Int), .int .i64 (M : Int), .int .i64 (U : Int)] := ((Has.newAt (w := w) (e := 44) (cs := #[.int .i64 (N : Int), .int .i64 (M : Int), .int .i64 (U : Int)]) (k := w.heap.size) (by simp)).alloc _)
  have b1 : Has ((w.alloc (.cells #[.int .i64 (N : Int), .int .i64 (M : Int), .int .i64 (U : Int)] 44)).alloc (.cells #[.int .i64 0, .int .i64 0, .int .i64 0] 44)) (w.heap.size + 1) 44 #[.int .i64 0, .int .i64 0, .int .i64 0] := (Has.newAt (w := (w.alloc (.cells #[.int .i64 (N : Int), .int .i64 (M : Int), .int .i64 (U : Int)] 44))) (e := 44) (cs := #[.int .i64 0, .int .i64 0, .int .i64 0]) (k := w.heap.size + 1) (by simp))
  have HB0 := Lib.hid b0
  have HB1 := Lib.hid b1
  have HE := Lib.hid e0
  clear b0 b1 e0
  have HCON := Lib.hid (fun W => power_any (N : Int) M U K W hM hM2 hU hK)
  have hne : ¬ K = 0 := by omega
  have hqe : (N : Int) / (K : Int) = ((N / K : Nat) : Int) := by simp
  have hql : N / K ≤ 60 := Nat.le_trans (Nat.div_le_self _ _) hN
  obtain ⟨p, hp⟩ : ∃ p, pwm M U K = p := ⟨_, rfl⟩
  rw [hp] at HCON
  rw [hp]
  clear hp
  obtain ⟨q, hq⟩ : ∃ q, N / K = q := ⟨_, rfl⟩
  rw [hq] at hqe hql
  rw [hq]
  have hwq : IntKind.i64.wrap ((N : Int) / (K : Int)) = (q : Int) := by rw [hqe]; exact IntWalk.i64_in _ (by omega)
  clear hq hqe
  go_enter Tryd.func97, Tryd.ntmps97
  go_wp2_with fail
  generalize ((w.alloc (.cells #[.int .i64 (N : Int), .int .i64 (M : Int), .int .i64 (U : Int)] 44)).alloc (.cells #[.int .i64 0, .int .i64 0, .int .i64 0] 44)) = W0 at *
  have hz : w.heap.size + 1 ≤ W0.heap.size := by have := HB1.out.lt; omega
  have HK := Lib.hid (fun (W' : World) (hb : Below (w.heap.size + 1) W0 W') => And.intro ((HB0.out.below hb (by omega)).cell 0) (And.intro ((HB0.out.below hb (by omega)).cell 1) ((HB0.out.below hb (by omega)).cell 2)))
  go_region_held3 (fun w' : World => w'.cell? ⟨w.heap.size, 0, none⟩ = some (.int .i64 (N : Int)) ∧ w'.cell? ⟨w.heap.size, 1, none⟩ = some (.int .i64 (M : Int)) ∧ w'.cell? ⟨w.heap.size, 2, none⟩ = some (.int .i64 (U : Int)))
    (first | exact HK.out _ ((Ex.refl W0).below.mono hz) | exact HK.out _ ((Ex.refl W0).drew.below.mono hz) | exact HK.out _ (hx6.below.mono hz) | exact HK.out _ ((((hx6.below.mono hz).setCell (Nat.le_refl _) _).setCell (Nat.le_refl _) _).setCell (Nat.le_refl _) _))
    ((go_at_call 105; refine (HCON.out _).mono ?_; rintro e w6 ⟨rfl, he6⟩; have hx6 : Ex W0 w6 := Ex.trans (by (repeat' (first | assumption | exact Ex.refl _ | refine Ex.alloc ?_ _ | refine Ex.drew ?_ | refine Ex.setCell ?_ (by first | exact Nat.le_refl _ | assumption | (show _ ≤ _; omega) | (simp; omega) | simp) _ | refine Ex.trans ?_ (by assumption)))) he6; have hbx := HB1.out.ex hx6; have cb0 := hbx.cell 0; have cb1 := hbx.cell 1; have cb2 := hbx.cell 2; have fb0 := hbx.free 0; have fb1 := hbx.free 1; have fb2 := hbx.free 2; have hbl := hbx.lt))
  go_wp2_with fail
  have H4 := hbx.put3 (u := .int .i64 (q : Int)) (v := .int .i64 (M : Int)) (t := .int .i64 (p : Int))
  have c0 := H4.cell 0
  have c1 := H4.cell 1
  have c2 := H4.cell 2
  refine bodyPost_ret (v := .agg #[.int .i64 (q : Int), .int .i64 (M : Int), .int .i64 (p : Int)]) (by simp [results, Tryd.results97, go_sem, c0, c1, c2]) rfl ⟨rfl, ?_⟩
  exact (((HE.out.trans hx6).setCell (by show w.heap.size ≤ w.heap.size + 1; omega) _).setCell (by show w.heap.size ≤ w.heap.size + 1; omega) _).setCell (by show w.heap.size ≤ w.heap.size + 1; omega) _

end Go.Proofs.YtfnjpbjlikajbaaDoor
