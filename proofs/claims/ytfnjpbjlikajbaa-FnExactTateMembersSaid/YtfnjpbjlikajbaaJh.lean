/- Classes and reduced circles: the specification's contracts. -/
import Derived.Test.YtfnjpbjlikajbaaJg
namespace Go.Proofs.Ytfnjpbjlikajbaa
open Go.RowKit

theorem okX_no {n m u d x : Int} (h : okX n m u d x = false) : qTateClass0 n m u d x = 0 ∧ qTateClass1 n m u d x = 2 := by
  simp [qTateClass0, qTateClass1, h]
theorem okX_off {n m u d x : Int} (h : okX n m u d x = true) (h2 : ¬ x.toNat % memD n m u d = 0) : qTateClass0 n m u d x = 0 ∧ qTateClass1 n m u d x = 5 := by
  simp [qTateClass0, qTateClass1, h, h2]
theorem okX_on {n m u d x : Int} (h : okX n m u d x = true) (h2 : x.toNat % memD n m u d = 0) : qTateClass0 n m u d x = ((x.toNat % nouD n m u d : Nat) : Int) ∧ qTateClass1 n m u d x = 0 := by
  simp [qTateClass0, qTateClass1, h, h2]

set_option maxHeartbeats 2000000 in
theorem specTateClass_ex (m0 m1 m2 m3 m4 : Int) : ∀ (W : World), Calls Try.prog 22 #[.int .i64 m0, .int .i64 m1, .int .i64 m2, .int .i64 m3, .int .i64 m4] W fun e W' => e = .returned (.tuple #[.int .i64 (qTateClass0 m0 m1 m2 m3 m4), .int .i64 (qTateClass1 m0 m1 m2 m3 m4)]) ∧ Ex W W' := by
  intro w
  have HC := Lib.hid (l09Code_w m0 m1 m2 m3 w)
  cases hc : okD m0 m1 m2 m3 with
  | false =>
    have HQ := Lib.hid (okX_no (n := m0) (m := m1) (u := m2) (d := m3) (x := m4) (by rw [okX, hc]; rfl))
    rw [codD_no hc] at HC
    clear hc
    go_enter Try.func22, Try.ntmps22
    go_wp2_with fail
    refine HC.out.mono ?_
    rintro e w1 ⟨rfl, rfl⟩
    go_wp2_with fail
    go_ret2
    exact ⟨by rw [HQ.out.1, HQ.out.2]; rfl, Ex.refl _⟩
  | true =>
    obtain ⟨hcc, hd0, hd1⟩ := okD_iff.1 hc
    obtain ⟨N, M, U, rfl, rfl, rfl, hn1, hn2, hm1, hm2, hu1, hu2, -, -⟩ := circ_of hcc
    have HI := Lib.hid (l01In_ex m4 0 ((M : Int) - 1) w)
    rw [codD_yes hc] at HC
    cases hx : inB m4 0 ((M : Int) - 1) with
    | false =>
      have HQ := Lib.hid (okX_no (n := (N : Int)) (m := (M : Int)) (u := (U : Int)) (d := m3) (x := m4) (by rw [okX, hc, hx]; rfl))
      rw [hx] at HI
      clear hc hcc hx
      go_enter Try.func22, Try.ntmps22
      go_wp2_with fail
      refine HC.out.mono ?_
      rintro e w1 ⟨rfl, rfl⟩
      go_wp2_with fail
      refine HI.out.mono ?_
      rintro e w2 ⟨rfl, rfl⟩
      go_wp2_with fail
      go_ret2
      exact ⟨by rw [HQ.out.1, HQ.out.2]; rfl, Ex.refl _⟩
    | true =>
      obtain ⟨hx0, hx1⟩ := inB_true hx
      obtain ⟨x, rfl⟩ : ∃ x : Nat, m4 = (x : Int) := ⟨m4.toNat, by omega⟩
      have hok : okX (N : Int) (M : Int) (U : Int) m3 (x : Int) = true := by rw [okX, hc, hx]; rfl
      have hmem : memD (N : Int) (M : Int) (U : Int) m3 = M / Nat.gcd M (tA M U N m3) := by simp only [memD, Int.toNat_natCast]
      have hnou : nouD (N : Int) (M : Int) (U : Int) m3 = Nat.gcd M (tB M U N m3) := by simp only [nouD, Int.toNat_natCast]
      have hal := tA_le (N := N) m3 (show 0 < M by omega) hu2
      have hbl := tB_le (N := N) m3 (show 0 < M by omega) hu2
      have HMP := Lib.hid (l09Maps_w N M U m3 w hm1 hm2 hu1 hu2 hn2 hd0 hd1)
      have hker := kernel_iff (m := M) (c := tA M U N m3) (x := x) (by omega)
      rw [Nat.dvd_iff_mod_eq_zero, ← hmem] at hker
      have HNO := Lib.hid hnou
      obtain ⟨a, ha⟩ : ∃ a, tA M U N m3 = a := ⟨_, rfl⟩
      obtain ⟨b, hb⟩ : ∃ b, tB M U N m3 = b := ⟨_, rfl⟩
      rw [ha] at HMP hal hker
      rw [hb] at HMP hbl HNO
      have hax : a * x ≤ 40000 := mul_200 (by omega) (by omega)
      have hne : ¬ M = 0 := by omega
      rw [hx] at HI
      by_cases hk : a * x % M = 0
      · have HQ := Lib.hid (okX_on hok (by rw [Int.toNat_natCast]; exact hker.1 hk))
        rw [Int.toNat_natCast] at HQ
        have HG2 := Lib.hid (l01Gcd_any b M w (by omega) (by omega))
        have hgc := Nat.gcd_comm M b
        have hg0 : 0 < Nat.gcd b M := Nat.gcd_pos_of_pos_right _ (by omega)
        have HGC := Lib.hid hgc
        obtain ⟨h, hh⟩ : ∃ h, Nat.gcd b M = h := ⟨_, rfl⟩
        rw [hh] at HG2 HGC hg0
        have hneh : ¬ h = 0 := by omega
        have hkz : ((a : Int) * (x : Int) % (M : Int)) = 0 := by
          rw [← Int.natCast_mul, ← Int.natCast_emod, hk]; rfl
        have hmz : IntKind.i64.wrap ((a : Int) * (x : Int)) = ((a : Int) * (x : Int)) := IntWalk.i64_in _ (by rw [← Int.natCast_mul]; omega)
        clear hc hcc hx hok hmem hnou hker ha hb hh hgc hk
        go_enter Try.func22, Try.ntmps22
        go_wp2_with fail
        refine HC.out.mono ?_
        rintro e w1 ⟨rfl, rfl⟩
        go_wp2_with fail
        refine HI.out.mono ?_
        rintro e w2 ⟨rfl, rfl⟩
        go_wp2_with fail
        refine HMP.out.mono ?_
        rintro e w3 ⟨rfl, rfl⟩
        go_wp2_with fail
        refine HG2.out.mono ?_
        rintro e w4 ⟨rfl, rfl⟩
        go_wp2_with fail
        go_ret2
        exact ⟨by rw [HQ.out.1, HQ.out.2, HNO.out, HGC.out, Int.natCast_emod]; rfl, Ex.refl _⟩
      · have HQ := Lib.hid (okX_off hok (by rw [Int.toNat_natCast]; exact fun h => hk (hker.2 h)))
        have hkz : ((a : Int) * (x : Int) % (M : Int)) ≠ 0 := by
          rw [← Int.natCast_mul, ← Int.natCast_emod]; omega
        have hmz : IntKind.i64.wrap ((a : Int) * (x : Int)) = ((a : Int) * (x : Int)) := IntWalk.i64_in _ (by rw [← Int.natCast_mul]; omega)
        clear hc hcc hx hok hmem hnou hker ha hb hk
        go_enter Try.func22, Try.ntmps22
        go_wp2_with fail
        refine HC.out.mono ?_
        rintro e w1 ⟨rfl, rfl⟩
        go_wp2_with fail
        refine HI.out.mono ?_
        rintro e w2 ⟨rfl, rfl⟩
        go_wp2_with fail
        refine HMP.out.mono ?_
        rintro e w3 ⟨rfl, rfl⟩
        go_wp2_with fail
        go_ret2
        exact ⟨by rw [HQ.out.1, HQ.out.2]; rfl, Ex.refl _⟩

theorem okK_no {n m u k : Int} (h : okK n m u k = false) : qReducedCircle0 n m u k = 0 ∧ qReducedCircle1 n m u k = 0 ∧ qReducedCircle2 n m u k = 0 ∧ qReducedCircle3 n m u k = 2 := by
  simp [qReducedCircle0, qReducedCircle1, qReducedCircle2, qReducedCircle3, h]
theorem okK_yes {N M U K : Nat} (h : okK (N : Int) (M : Int) (U : Int) (K : Int) = true) : qReducedCircle0 (N : Int) (M : Int) (U : Int) (K : Int) = ((N / K : Nat) : Int) ∧ qReducedCircle1 (N : Int) (M : Int) (U : Int) (K : Int) = (M : Int) ∧ qReducedCircle2 (N : Int) (M : Int) (U : Int) (K : Int) = (pwm M U K : Int) ∧ qReducedCircle3 (N : Int) (M : Int) (U : Int) (K : Int) = 0 := by
  simp [qReducedCircle0, qReducedCircle1, qReducedCircle2, qReducedCircle3, h]

set_option maxHeartbeats 2000000 in
theorem specReducedCircle_ex (m0 m1 m2 m3 : Int) : ∀ (W : World), Calls Try.prog 26 #[.int .i64 m0, .int .i64 m1, .int .i64 m2, .int .i64 m3] W fun e W' => e = .returned (.tuple #[.int .i64 (qReducedCircle0 m0 m1 m2 m3), .int .i64 (qReducedCircle1 m0 m1 m2 m3), .int .i64 (qReducedCircle2 m0 m1 m2 m3), .int .i64 (qReducedCircle3 m0 m1 m2 m3)]) ∧ Ex W W' := by
  intro w
  have HC := Lib.hid (specIsCircle_w m0 m1 m2 w)
  cases hc : circB m0 m1 m2 with
  | false =>
    have HQ := Lib.hid (okK_no (n := m0) (m := m1) (u := m2) (k := m3) (by rw [okK, hc]; rfl))
    rw [hc] at HC
    clear hc
    go_enter Try.func26, Try.ntmps26
    go_wp2_with fail
    refine HC.out.mono ?_
    rintro e w1 ⟨rfl, rfl⟩
    go_wp2_with fail
    refine bodyPost_ret (v := .tuple #[.int .i64 0, .int .i64 0, .int .i64 0, .int .i64 2]) (by simp [results, Try.results26, go_sem]) rfl ⟨by rw [HQ.out.1, HQ.out.2.1, HQ.out.2.2.1, HQ.out.2.2.2], Ex.refl _⟩
  | true =>
    obtain ⟨N, M, U, rfl, rfl, rfl, hn1, hn2, hm1, hm2, hu1, hu2, -, -⟩ := circ_of hc
    have HI := Lib.hid (l01In_ex m3 1 (N : Int) w)
    rw [hc] at HC
    cases hx : inB m3 1 (N : Int) with
    | false =>
      have hok : okK (N : Int) (M : Int) (U : Int) m3 = false := by
        rw [okK, hc, Bool.true_and]
        rcases inB_false hx with h | h
        · have hd : decide (1 ≤ m3) = false := by simp; omega
          rw [hd]; rfl
        · have he : (N : Int) % m3 = (N : Int) := Int.emod_eq_of_lt (by omega) (by omega)
          have hd : ((N : Int) == 0) = false := by simp; omega
          rw [he, hd, Bool.and_false]
      have HQ := Lib.hid (okK_no hok)
      rw [hx] at HI
      clear hc hx hok
      go_enter Try.func26, Try.ntmps26
      go_wp2_with fail
      refine HC.out.mono ?_
      rintro e w1 ⟨rfl, rfl⟩
      go_wp2_with fail
      refine HI.out.mono ?_
      rintro e w2 ⟨rfl, rfl⟩
      go_wp2_with fail
      refine bodyPost_ret (v := .tuple #[.int .i64 0, .int .i64 0, .int .i64 0, .int .i64 2]) (by simp [results, Try.results26, go_sem]) rfl ⟨by rw [HQ.out.1, HQ.out.2.1, HQ.out.2.2.1, HQ.out.2.2.2], Ex.refl _⟩
    | true =>
      obtain ⟨hx0, hx1⟩ := inB_true hx
      obtain ⟨K, rfl⟩ : ∃ K : Nat, m3 = (K : Int) := ⟨m3.toNat, by omega⟩
      rw [hx] at HI
      have hne : ¬ K = 0 := by omega
      have hd : decide ((1 : Int) ≤ (K : Int)) = true := by simp; omega
      by_cases hk : (N : Int) % (K : Int) = 0
      · have HQ := Lib.hid (okK_yes (N := N) (M := M) (U := U) (K := K) (by rw [okK, hc, hd, hk]; rfl))
        have HP := Lib.hid (fun W => (l09Power_any M U K W (by omega) hm2 (by omega) (by omega)))
        obtain ⟨p, hp⟩ : ∃ p, pwm M U K = p := ⟨_, rfl⟩
        rw [hp] at HP HQ
        have hql : N / K ≤ 60 := Nat.le_trans (Nat.div_le_self _ _) hn2
        have hqe : (N : Int) / (K : Int) = ((N / K : Nat) : Int) := by simp
        obtain ⟨q, hq⟩ : ∃ q, N / K = q := ⟨_, rfl⟩
        rw [hq] at hqe hql HQ
        have hwq : IntKind.i64.wrap ((N : Int) / (K : Int)) = (q : Int) := by rw [hqe]; exact IntWalk.i64_in _ (by omega)
        have htq : Int.tdiv (N : Int) (K : Int) = (q : Int) := by rw [← hqe]; exact Int.tdiv_eq_ediv_of_nonneg (by omega)
        have hwq2 : IntKind.i64.wrap (q : Int) = (q : Int) := IntWalk.i64_in _ (by omega)
        clear hc hx hp hq hd hqe
        go_enter Try.func26, Try.ntmps26
        go_wp2_with fail
        refine HC.out.mono ?_
        rintro e w1 ⟨rfl, rfl⟩
        go_wp2_with fail
        refine HI.out.mono ?_
        rintro e w2 ⟨rfl, rfl⟩
        go_wp2_with fail
        go_quiet ((go_at_call 32; exact Calls.quiet_of_same (HP.out _)))
        go_wp2_with fail
        refine bodyPost_ret (v := .tuple #[.int .i64 (q : Int), .int .i64 (M : Int), .int .i64 (p : Int), .int .i64 0]) (by simp [results, Try.results26, go_sem]) rfl ⟨by rw [HQ.out.1, HQ.out.2.1, HQ.out.2.2.1, HQ.out.2.2.2], ?_⟩
        exact (Ex.refl _).drewN _
      · have hb : ((N : Int) % (K : Int) == 0) = false := by simpa using hk
        have HQ := Lib.hid (okK_no (n := (N : Int)) (m := (M : Int)) (u := (U : Int)) (k := (K : Int)) (by rw [okK, hc, hd, hb]; rfl))
        clear hc hx hd hb
        go_enter Try.func26, Try.ntmps26
        go_wp2_with fail
        refine HC.out.mono ?_
        rintro e w1 ⟨rfl, rfl⟩
        go_wp2_with fail
        refine HI.out.mono ?_
        rintro e w2 ⟨rfl, rfl⟩
        go_wp2_with fail
        refine bodyPost_ret (v := .tuple #[.int .i64 0, .int .i64 0, .int .i64 0, .int .i64 2]) (by simp [results, Try.results26, go_sem]) rfl ⟨by rw [HQ.out.1, HQ.out.2.1, HQ.out.2.2.1, HQ.out.2.2.2], Ex.refl _⟩

end Go.Proofs.Ytfnjpbjlikajbaa
