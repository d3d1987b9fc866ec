/- Tests, norms, orders, classes and reduced circles: the specification's contracts. -/
import Derived.BigQuiet
import Derived.Test.YtfnjpbjlikajbaaJf
namespace Go.Proofs.Ytfnjpbjlikajbaa
open Go.RowKit

/-- A circle and a degree. -/
def okD (n m u d : Int) : Bool := circB n m u && inB d (-1000) 1000
theorem okD_iff {n m u d : Int} : okD n m u d = true ↔ circB n m u = true ∧ -1000 ≤ d ∧ d ≤ 1000 := by
  simp [okD, inB]

def qIsCircle0 (n m u : Int) : Bool := circB n m u
def qCircleNorm0 (n m u : Int) : Int := if circB n m u = true then (hrn m.toNat u.toNat n.toNat : Int) else 0
def qCircleNorm1 (n m u : Int) : Int := if circB n m u = true then 0 else 2
/-- The divisors that tell a Tate group. -/
def memD (n m u d : Int) : Nat := m.toNat / Nat.gcd m.toNat (tA m.toNat u.toNat n.toNat d)
def nouD (n m u d : Int) : Nat := Nat.gcd m.toNat (tB m.toNat u.toNat n.toNat d)
def qTateOrder0 (n m u d : Int) : Int := if okD n m u d = true then ((nouD n m u d / memD n m u d : Nat) : Int) else 0
def qTateOrder1 (n m u d : Int) : Int := if okD n m u d = true then 0 else 2
/-- A member's number. -/
def okX (n m u d x : Int) : Bool := okD n m u d && inB x 0 (m - 1)
def qTateClass0 (n m u d x : Int) : Int := if okX n m u d x = true ∧ x.toNat % memD n m u d = 0 then ((x.toNat % nouD n m u d : Nat) : Int) else 0
def qTateClass1 (n m u d x : Int) : Int := if okX n m u d x = true then (if x.toNat % memD n m u d = 0 then 0 else 5) else 2
/-- A divisor of the turns. -/
def okK (n m u k : Int) : Bool := circB n m u && (decide (1 ≤ k) && (n % k == 0))
def qReducedCircle0 (n m u k : Int) : Int := if okK n m u k = true then ((n.toNat / k.toNat : Nat) : Int) else 0
def qReducedCircle1 (n m u k : Int) : Int := if okK n m u k = true then m else 0
def qReducedCircle2 (n m u k : Int) : Int := if okK n m u k = true then (pwm m.toNat u.toNat k.toNat : Int) else 0
def qReducedCircle3 (n m u k : Int) : Int := if okK n m u k = true then 0 else 2

theorem specIsCircle_ex (m0 m1 m2 : Int) : ∀ (W : World), Calls Try.prog 11 #[.int .i64 m0, .int .i64 m1, .int .i64 m2] W fun e W' => e = .returned (.bool (qIsCircle0 m0 m1 m2)) ∧ Ex W W' :=
  fun W => (specIsCircle_w m0 m1 m2 W).mono fun _ _ ⟨h1, h2⟩ => ⟨h1, Ex.of_eq h2⟩

set_option maxHeartbeats 1000000 in
theorem specCircleNorm_ex (m0 m1 m2 : Int) : ∀ (W : World), Calls Try.prog 13 #[.int .i64 m0, .int .i64 m1, .int .i64 m2] W fun e W' => e = .returned (.tuple #[.int .i64 (qCircleNorm0 m0 m1 m2), .int .i64 (qCircleNorm1 m0 m1 m2)]) ∧ Ex W W' := by
  intro w
  have HC := Lib.hid (specIsCircle_w m0 m1 m2 w)
  cases hc : circB m0 m1 m2 with
  | false =>
    have HQ : Hid (qCircleNorm0 m0 m1 m2 = 0 ∧ qCircleNorm1 m0 m1 m2 = 2) := Lib.hid (by simp [qCircleNorm0, qCircleNorm1, hc])
    rw [hc] at HC
    clear hc
    go_enter Try.func13, Try.ntmps13
    go_wp2_with fail
    refine HC.out.mono ?_
    rintro e w1 ⟨rfl, rfl⟩
    go_wp2_with fail
    go_ret2
    exact ⟨by rw [HQ.out.1, HQ.out.2]; rfl, Ex.refl _⟩
  | true =>
    obtain ⟨N, M, U, rfl, rfl, rfl, hn1, hn2, hm1, hm2, hu1, hu2, -, -⟩ := circ_of hc
    have HQ : Hid (qCircleNorm0 (N : Int) (M : Int) (U : Int) = (hrn M U N : Int) ∧ qCircleNorm1 (N : Int) (M : Int) (U : Int) = 0) := Lib.hid (by simp [qCircleNorm0, qCircleNorm1, hc])
    have HN := Lib.hid (l09Norm_any M U N w (by omega) (by omega) (by omega) (by omega))
    obtain ⟨r, hr⟩ : ∃ r, hrn M U N = r := ⟨_, rfl⟩
    rw [hr] at HN HQ
    rw [hc] at HC
    clear hc hr hn1 hn2 hm1 hm2 hu1 hu2
    go_enter Try.func13, Try.ntmps13
    go_wp2_with fail
    refine HC.out.mono ?_
    rintro e w1 ⟨rfl, rfl⟩
    go_wp2_with fail
    refine HN.out.mono ?_
    rintro e w2 ⟨rfl, rfl⟩
    go_wp2_with fail
    go_ret2
    exact ⟨by rw [HQ.out.1, HQ.out.2]; rfl, Ex.refl _⟩

/-- .. and its code. -/
def codD (n m u d : Int) : Int := if okD n m u d = true then 0 else 2
theorem codD_no {n m u d : Int} (h : okD n m u d = false) : codD n m u d = 2 := by simp [codD, h]
theorem codD_yes {n m u d : Int} (h : okD n m u d = true) : codD n m u d = 0 := by simp [codD, h]

set_option maxHeartbeats 1000000 in
theorem l09Code_w (n m u d : Int) (w : World) : Calls Try.prog 37 #[.int .i64 n, .int .i64 m, .int .i64 u, .int .i64 d] w fun e w' => e = .returned (.int .i64 (codD n m u d)) ∧ w' = w := by
  have HC := Lib.hid (specIsCircle_w n m u w)
  have HI := Lib.hid (l01In_ex d (-1000) 1000 w)
  cases hc : circB n m u with
  | false =>
    have HQ : Hid (codD n m u d = 2) := Lib.hid (by simp [codD, okD, hc])
    rw [hc] at HC
    clear hc
    go_enter Try.func37, Try.ntmps37
    go_wp2_with fail
    refine HC.out.mono ?_
    rintro e w1 ⟨rfl, rfl⟩
    go_wp2_with fail
    go_ret
    exact ⟨by rw [HQ.out]; rfl, rfl⟩
  | true =>
    rw [hc] at HC
    cases hd : inB d (-1000) 1000 with
    | false =>
      have HQ : Hid (codD n m u d = 2) := Lib.hid (by simp [codD, okD, hc, hd])
      rw [hd] at HI
      clear hc hd
      go_enter Try.func37, Try.ntmps37
      go_wp2_with fail
      refine HC.out.mono ?_
      rintro e w1 ⟨rfl, rfl⟩
      go_wp2_with fail
      refine HI.out.mono ?_
      rintro e w2 ⟨rfl, rfl⟩
      go_wp2_with fail
      go_ret
      exact ⟨by rw [HQ.out]; rfl, rfl⟩
    | true =>
      have HQ : Hid (codD n m u d = 0) := Lib.hid (by simp [codD, okD, hc, hd])
      rw [hd] at HI
      clear hc hd
      go_enter Try.func37, Try.ntmps37
      go_wp2_with fail
      refine HC.out.mono ?_
      rintro e w1 ⟨rfl, rfl⟩
      go_wp2_with fail
      refine HI.out.mono ?_
      rintro e w2 ⟨rfl, rfl⟩
      go_wp2_with fail
      go_ret
      exact ⟨by rw [HQ.out]; rfl, rfl⟩

set_option maxHeartbeats 1000000 in
theorem l09Maps_w (N M U : Nat) (d : Int) (w : World) (hM : 2 ≤ M) (hM2 : M ≤ 200) (hU1 : 1 ≤ U) (hU : U < M) (hN : N ≤ 60) (hd0 : -1000 ≤ d) (hd1 : d ≤ 1000) :
    Calls Try.prog 38 #[.int .i64 (N : Int), .int .i64 (M : Int), .int .i64 (U : Int), .int .i64 d] w fun e w' => e = .returned (.tuple #[.int .i64 (tA M U N d : Int), .int .i64 (tB M U N d : Int)]) ∧ w' = w := by
  have HN := Lib.hid (l09Norm_any M U N w (by omega) hM2 (by omega) hN)
  have hs := l01Mod_big ((U : Int) - 1) M w (by omega) hM2 (by omega) (by omega)
  rw [Int.emod_eq_of_lt (by omega) (by omega)] at hs
  have HS := Lib.hid hs
  have HD := Lib.hid (l01Mod_big d 2 w (by omega) (by omega) (by omega) (by omega))
  have HU : Hid (((U - 1 : Nat) : Int) = (U : Int) - 1) := Lib.hid (by omega)
  by_cases hp : d % 2 = 0
  · have HQ : Hid (tA M U N d = U - 1 ∧ tB M U N d = hrn M U N) := Lib.hid (by simp [tA, tB, hp])
    have hp2 : d % ((2 : Nat) : Int) = 0 := hp
    rw [hp2] at HD
    obtain ⟨r, hr⟩ : ∃ r, hrn M U N = r := ⟨_, rfl⟩
    rw [hr] at HN HQ
    clear hs hp hp2 hr
    go_enter Try.func38, Try.ntmps38
    go_wp2_with fail
    refine HN.out.mono ?_
    rintro e w1 ⟨rfl, rfl⟩
    go_wp2_with fail
    refine HS.out.mono ?_
    rintro e w2 ⟨rfl, rfl⟩
    go_wp2_with fail
    refine HD.out.mono ?_
    rintro e w3 ⟨rfl, rfl⟩
    go_wp2_with fail
    go_ret2
    exact ⟨by rw [HQ.out.1, HQ.out.2, HU.out]; rfl, rfl⟩
  · have HQ : Hid (tA M U N d = hrn M U N ∧ tB M U N d = U - 1) := Lib.hid (by simp [tA, tB, hp])
    have hp2 : d % ((2 : Nat) : Int) = 1 := by omega
    rw [hp2] at HD
    obtain ⟨r, hr⟩ : ∃ r, hrn M U N = r := ⟨_, rfl⟩
    rw [hr] at HN HQ
    clear hs hp hp2 hr
    go_enter Try.func38, Try.ntmps38
    go_wp2_with fail
    refine HN.out.mono ?_
    rintro e w1 ⟨rfl, rfl⟩
    go_wp2_with fail
    refine HS.out.mono ?_
    rintro e w2 ⟨rfl, rfl⟩
    go_wp2_with fail
    refine HD.out.mono ?_
    rintro e w3 ⟨rfl, rfl⟩
    go_wp2_with fail
    go_ret2
    exact ⟨by rw [HQ.out.1, HQ.out.2, HU.out]; rfl, rfl⟩

theorem order_eq {M a b : Nat} (hM : 0 < M) : Nat.gcd a M * Nat.gcd b M / M = Nat.gcd M b / (M / Nat.gcd M a) := by
  have hg : 0 < Nat.gcd M a := Nat.gcd_pos_of_pos_left _ hM
  rw [Nat.gcd_comm a M, Nat.gcd_comm b M]
  obtain ⟨c, hc⟩ := Nat.gcd_dvd_left M a
  generalize Nat.gcd M a = g at *
  generalize Nat.gcd M b = h at *
  subst hc
  rw [Nat.mul_div_cancel_left c hg, Nat.mul_div_mul_left _ _ hg]

set_option maxHeartbeats 1000000 in
theorem specTateOrder_ex (m0 m1 m2 m3 : Int) : ∀ (W : World), Calls Try.prog 15 #[.int .i64 m0, .int .i64 m1, .int .i64 m2, .int .i64 m3] W fun e W' => e = .returned (.tuple #[.int .i64 (qTateOrder0 m0 m1 m2 m3), .int .i64 (qTateOrder1 m0 m1 m2 m3)]) ∧ Ex W W' := by
  intro w
  have HC := Lib.hid (l09Code_w m0 m1 m2 m3 w)
  cases hc : okD m0 m1 m2 m3 with
  | false =>
    have HQ : Hid (qTateOrder0 m0 m1 m2 m3 = 0 ∧ qTateOrder1 m0 m1 m2 m3 = 2) := Lib.hid (by simp [qTateOrder0, qTateOrder1, hc])
    rw [codD_no hc] at HC
    clear hc
    go_enter Try.func15, Try.ntmps15
    go_wp2_with fail
    refine HC.out.mono ?_
    rintro e w1 ⟨rfl, rfl⟩
    go_wp2_with fail
    go_ret2
    exact ⟨by rw [HQ.out.1, HQ.out.2]; rfl, Ex.refl _⟩
  | true =>
    obtain ⟨hcc, hd0, hd1⟩ := okD_iff.1 hc
    obtain ⟨N, M, U, rfl, rfl, rfl, hn1, hn2, hm1, hm2, hu1, hu2, -, -⟩ := circ_of hcc
    have HQ : Hid (qTateOrder0 (N : Int) (M : Int) (U : Int) m3 = ((Nat.gcd (tA M U N m3) M * Nat.gcd (tB M U N m3) M / M : Nat) : Int) ∧ qTateOrder1 (N : Int) (M : Int) (U : Int) m3 = 0) := Lib.hid (by
      rw [order_eq (by omega)]
      simp only [qTateOrder0, qTateOrder1, hc, if_true, nouD, memD, Int.toNat_natCast, and_self])
    have hal := tA_le (N := N) m3 (show 0 < M by omega) hu2
    have hbl := tB_le (N := N) m3 (show 0 < M by omega) hu2
    have HMP := Lib.hid (l09Maps_w N M U m3 w hm1 hm2 hu1 hu2 hn2 hd0 hd1)
    rw [codD_yes hc] at HC
    obtain ⟨a, ha⟩ : ∃ a, tA M U N m3 = a := ⟨_, rfl⟩
    obtain ⟨b, hb⟩ : ∃ b, tB M U N m3 = b := ⟨_, rfl⟩
    rw [ha] at HMP HQ hal
    rw [hb] at HMP HQ hbl
    have HG1 := Lib.hid (l01Gcd_any a M w (by omega) (by omega))
    have HG2 := Lib.hid (l01Gcd_any b M w (by omega) (by omega))
    have hg1 : Nat.gcd a M ≤ 200 := Nat.le_trans (Nat.gcd_le_right _ (by omega)) hm2
    have hg2 : Nat.gcd b M ≤ 200 := Nat.le_trans (Nat.gcd_le_right _ (by omega)) hm2
    have hgm := Nat.mul_le_mul hg1 hg2
    obtain ⟨g, hg⟩ : ∃ g, Nat.gcd a M = g := ⟨_, rfl⟩
    obtain ⟨h, hh⟩ : ∃ h, Nat.gcd b M = h := ⟨_, rfl⟩
    rw [hg] at HG1 HQ hg1 hgm
    rw [hh] at HG2 HQ hg2 hgm
    have hne : ¬ M = 0 := by omega
    have hql : g * h / M ≤ 40000 := Nat.le_trans (Nat.div_le_self _ _) hgm
    have hmu : IntKind.i64.wrap ((g : Int) * (h : Int)) = ((g * h : Nat) : Int) := by rw [← Int.natCast_mul]; exact IntWalk.i64_in _ (by omega)
    have hqe : ((g * h : Nat) : Int) / (M : Int) = ((g * h / M : Nat) : Int) := by simp
    have hde : (g : Int) * (h : Int) / (M : Int) = ((g * h / M : Nat) : Int) := by rw [← hqe, Int.natCast_mul]
    obtain ⟨q, hq⟩ : ∃ q, g * h / M = q := ⟨_, rfl⟩
    rw [hq] at hqe hql HQ hde
    have hwd : IntKind.i64.wrap ((g : Int) * (h : Int) / (M : Int)) = (q : Int) := by rw [hde]; exact IntWalk.i64_in _ (by omega)
    have HDE := Lib.hid hde
    clear hc hcc hq hqe hde hg hh ha hb
    go_enter Try.func15, Try.ntmps15
    go_wp2_with fail
    refine HC.out.mono ?_
    rintro e w1 ⟨rfl, rfl⟩
    go_wp2_with fail
    refine HMP.out.mono ?_
    rintro e w2 ⟨rfl, rfl⟩
    go_wp2_with fail
    refine HG1.out.mono ?_
    rintro e w3 ⟨rfl, rfl⟩
    go_wp2_with fail
    refine HG2.out.mono ?_
    rintro e w4 ⟨rfl, rfl⟩
    go_wp2_with fail
    go_ret2
    exact ⟨by rw [HQ.out.1, HQ.out.2, ← HDE.out]; rfl, Ex.refl _⟩

end Go.Proofs.Ytfnjpbjlikajbaa
