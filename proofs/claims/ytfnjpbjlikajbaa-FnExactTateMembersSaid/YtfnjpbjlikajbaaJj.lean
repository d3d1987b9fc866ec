/- Classes and reduced circles: the program's contracts. -/
import Derived.BigQuiet
import Derived.Test.YtfnjpbjlikajbaaJi
namespace Go.Proofs.Ytfnjpbjlikajbaa
open Go.RowKit

set_option maxRecDepth 100000 in
set_option maxHeartbeats 2000000 in
theorem implTateClass_ex (m0 m1 m2 m3 m4 : Int) : ∀ (W : World), Calls Try.prog 23 #[.int .i64 m0, .int .i64 m1, .int .i64 m2, .int .i64 m3, .int .i64 m4] W fun e W' => e = .returned (.tuple #[.int .i64 (qTateClass0 m0 m1 m2 m3 m4), .int .i64 (qTateClass1 m0 m1 m2 m3 m4)]) ∧ Ex W W' := by
  intro w
  cases hc : okD m0 m1 m2 m3 with
  | false =>
    have HQ := Lib.hid (okX_no (n := m0) (m := m1) (u := m2) (d := m3) (x := m4) (by rw [okX, hc]; rfl))
    have HC := Lib.hid (tateGroupOf_no m0 m1 m2 m3 w hc)
    clear hc
    go_enter Try.func23, Try.ntmps23
    go_wp2_with fail
    refine HC.out.mono ?_
    rintro e w1 ⟨rfl, he⟩
    go_wp2_with fail
    go_ret2
    exact ⟨by rw [HQ.out.1, HQ.out.2]; rfl, he.alloc _⟩
  | true =>
    have HC := Lib.hid (tateGroupOf_yes m0 m1 m2 m3 w hc)
    obtain ⟨hcc, hd0, hd1⟩ := okD_iff.1 hc
    obtain ⟨hmp, hnl⟩ := tate_bounds hcc (d := m3)
    obtain ⟨-, hmm, -⟩ := circB_iff.1 hcc
    by_cases hx0 : m4 < 0
    · have HQ := Lib.hid (okX_no (n := m0) (m := m1) (u := m2) (d := m3) (x := m4) (by rw [okX, hc, inB_out (.inl hx0)]; rfl))
      have hx0' : decide (m4 < 0) = true := by simp [hx0]
      obtain ⟨a, ha⟩ : ∃ a, memD m0 m1 m2 m3 = a := ⟨_, rfl⟩
      obtain ⟨b, hb⟩ : ∃ b, nouD m0 m1 m2 m3 = b := ⟨_, rfl⟩
      rw [ha, hb] at HC
      clear hc hcc hd0 hd1 hmp hnl hmm ha hb hx0
      go_enter Try.func23, Try.ntmps23
      go_wp2_with fail
      refine HC.out.mono ?_
      rintro e w1 ⟨rfl, he⟩
      go_wp2_with fail
      go_ret2
      exact ⟨by rw [HQ.out.1, HQ.out.2]; rfl, he.alloc _⟩
    · by_cases hx1 : m1 ≤ m4
      · have HQ := Lib.hid (okX_no (n := m0) (m := m1) (u := m2) (d := m3) (x := m4) (by rw [okX, hc, inB_out (.inr (by omega))]; rfl))
        have hx0' : decide (m4 < 0) = false := by simp; omega
        have hx1' : decide (m1 ≤ m4) = true := by simp [hx1]
        obtain ⟨a, ha⟩ : ∃ a, memD m0 m1 m2 m3 = a := ⟨_, rfl⟩
        obtain ⟨b, hb⟩ : ∃ b, nouD m0 m1 m2 m3 = b := ⟨_, rfl⟩
        rw [ha, hb] at HC
        clear hc hcc hd0 hd1 hmp hnl hmm ha hb hx0 hx1
        go_enter Try.func23, Try.ntmps23
        go_wp2_with fail
        refine HC.out.mono ?_
        rintro e w1 ⟨rfl, he⟩
        have hn := Has.new w1 51 #[.int .i64 m1, .int .i64 (a : Int), .int .i64 (b : Int)]
        have c0 := hn.cell 0
        have c1 := hn.cell 1
        have c2 := hn.cell 2
        clear hn
        go_wp2_with fail
        go_ret2
        exact ⟨by rw [HQ.out.1, HQ.out.2]; rfl, he.alloc _⟩
      · have hok : okX m0 m1 m2 m3 m4 = true := by rw [okX, hc, inB_of (by omega) (by omega)]; rfl
        obtain ⟨x, rfl⟩ : ∃ x : Nat, m4 = (x : Int) := ⟨m4.toNat, by omega⟩
        have hx0' : decide ((x : Int) < 0) = false := by simp
        have hx1' : decide (m1 ≤ (x : Int)) = false := by simp; omega
        by_cases hz : x % memD m0 m1 m2 m3 = 0
        · have HQ := Lib.hid (okX_on hok (by rw [Int.toNat_natCast]; exact hz))
          rw [Int.toNat_natCast] at HQ
          obtain ⟨a, ha⟩ : ∃ a, memD m0 m1 m2 m3 = a := ⟨_, rfl⟩
          obtain ⟨b, hb⟩ : ∃ b, nouD m0 m1 m2 m3 = b := ⟨_, rfl⟩
          rw [ha, hb] at HC
          rw [hb] at HQ hnl
          rw [ha] at hmp hz
          have hna : ¬ a = 0 := by omega
          have hnb : ¬ b = 0 := by omega
          have hkz : ((x : Int) % (a : Int)) = 0 := by rw [← Int.natCast_emod, hz]; rfl
          clear hc hcc hd0 hd1 hmp hnl ha hb hx0 hx1 hok hz
          go_enter Try.func23, Try.ntmps23
          go_wp2_with fail
          refine HC.out.mono ?_
          rintro e w1 ⟨rfl, he⟩
          have hn := Has.new w1 51 #[.int .i64 m1, .int .i64 (a : Int), .int .i64 (b : Int)]
          have c0 := hn.cell 0
          have c1 := hn.cell 1
          have c2 := hn.cell 2
          clear hn
          go_wp2_with fail
          go_ret2
          exact ⟨by rw [HQ.out.1, HQ.out.2, Int.natCast_emod]; rfl, he.alloc _⟩
        · have HQ := Lib.hid (okX_off hok (by rw [Int.toNat_natCast]; exact hz))
          obtain ⟨a, ha⟩ : ∃ a, memD m0 m1 m2 m3 = a := ⟨_, rfl⟩
          obtain ⟨b, hb⟩ : ∃ b, nouD m0 m1 m2 m3 = b := ⟨_, rfl⟩
          rw [ha, hb] at HC
          rw [ha] at hmp hz
          have hna : ¬ a = 0 := by omega
          have hkz : ¬ ((x : Int) % (a : Int)) = 0 := by rw [← Int.natCast_emod]; omega
          clear hc hcc hd0 hd1 hmp hnl ha hb hx0 hx1 hok hz
          go_enter Try.func23, Try.ntmps23
          go_wp2_with fail
          refine HC.out.mono ?_
          rintro e w1 ⟨rfl, he⟩
          have hn := Has.new w1 51 #[.int .i64 m1, .int .i64 (a : Int), .int .i64 (b : Int)]
          have c0 := hn.cell 0
          have c1 := hn.cell 1
          have c2 := hn.cell 2
          clear hn
          go_wp2_with fail
          go_ret2
          exact ⟨by rw [HQ.out.1, HQ.out.2]; rfl, he.alloc _⟩

set_option maxRecDepth 100000 in
set_option maxHeartbeats 2000000 in
theorem implReducedCircle_ex (m0 m1 m2 m3 : Int) : ∀ (W : World), Calls Try.prog 27 #[.int .i64 m0, .int .i64 m1, .int .i64 m2, .int .i64 m3] W fun e W' => e = .returned (.tuple #[.int .i64 (qReducedCircle0 m0 m1 m2 m3), .int .i64 (qReducedCircle1 m0 m1 m2 m3), .int .i64 (qReducedCircle2 m0 m1 m2 m3), .int .i64 (qReducedCircle3 m0 m1 m2 m3)]) ∧ Ex W W' := by
  intro w
  cases hc : circB m0 m1 m2 with
  | false =>
    have HQ := Lib.hid (okK_no (n := m0) (m := m1) (u := m2) (k := m3) (by rw [okK, hc]; rfl))
    have HC := Lib.hid (circleOf_no m0 m1 m2 w hc)
    clear hc
    go_enter Try.func27, Try.ntmps27
    go_wp2_with fail
    refine HC.out.mono ?_
    rintro e w1 ⟨rfl, he⟩
    go_wp2_with fail
    refine bodyPost_ret (v := .tuple #[.int .i64 0, .int .i64 0, .int .i64 0, .int .i64 2]) (by simp [results, Try.results27, go_sem]) rfl ⟨by rw [HQ.out.1, HQ.out.2.1, HQ.out.2.2.1, HQ.out.2.2.2], he.alloc _⟩
  | true =>
    have HC := Lib.hid (circleOf_yes m0 m1 m2 w hc)
    obtain ⟨N, M, U, rfl, rfl, rfl, hn1, hn2, hm1, hm2, hu1, hu2, -, -⟩ := circ_of hc
    by_cases h1 : m3 < 1
    · have hok : okK (N : Int) (M : Int) (U : Int) m3 = false := by
        have hd : decide (1 ≤ m3) = false := by simp; omega
        rw [okK, hc, hd]; rfl
      have HQ := Lib.hid (okK_no hok)
      have h1' : decide (m3 < 1) = true := by simp [h1]
      clear hc hok h1
      go_enter Try.func27, Try.ntmps27
      go_wp2_with fail
      refine HC.out.mono ?_
      rintro e w1 ⟨rfl, he⟩
      go_wp2_with fail
      refine bodyPost_ret (v := .tuple #[.int .i64 0, .int .i64 0, .int .i64 0, .int .i64 2]) (by simp [results, Try.results27, go_sem]) rfl ⟨by rw [HQ.out.1, HQ.out.2.1, HQ.out.2.2.1, HQ.out.2.2.2], he.alloc _⟩
    · obtain ⟨K, rfl⟩ : ∃ K : Nat, m3 = (K : Int) := ⟨m3.toNat, by omega⟩
      have hne : ¬ K = 0 := by omega
      have hd : decide ((1 : Int) ≤ (K : Int)) = true := by simp; omega
      have h1' : decide ((K : Int) < 1) = false := by simp; omega
      by_cases hk : (N : Int) % (K : Int) = 0
      · have HQ := Lib.hid (okK_yes (N := N) (M := M) (U := U) (K := K) (by rw [okK, hc, hd, hk]; rfl))
        have hkn : K ≤ N := Nat.le_of_dvd (by omega) (Nat.dvd_of_mod_eq_zero (by omega))
        have HR := Lib.hid (fun W => reduced_any N M U K W hm1 hm2 (by omega) hn2 (by omega) (by omega))
        obtain ⟨p, hp⟩ : ∃ p, pwm M U K = p := ⟨_, rfl⟩
        rw [hp] at HR HQ
        obtain ⟨q, hq⟩ : ∃ q, N / K = q := ⟨_, rfl⟩
        rw [hq] at HR HQ
        clear hc hp hq hd hkn h1
        go_enter Try.func27, Try.ntmps27
        go_wp2_with fail
        refine HC.out.mono ?_
        rintro e w1 ⟨rfl, he⟩
        have hn := Has.new w1 44 #[.int .i64 (N : Int), .int .i64 (M : Int), .int .i64 (U : Int)]
        have c0 := hn.cell 0
        have c1 := hn.cell 1
        have c2 := hn.cell 2
        clear hn
        go_wp2_with fail
        refine (HR.out _).mono ?_
        rintro e w2 ⟨rfl, he2⟩
        have hn := Has.new w2 44 #[.int .i64 (q : Int), .int .i64 (M : Int), .int .i64 (p : Int)]
        have k0 := hn.cell 0
        have k1 := hn.cell 1
        have k2 := hn.cell 2
        clear hn c0 c1 c2
        go_wp2_with fail
        go_quiet (fail)
        go_wp2_with fail
        refine bodyPost_ret (v := .tuple #[.int .i64 (q : Int), .int .i64 (M : Int), .int .i64 (p : Int), .int .i64 0]) (by simp [results, Try.results27, go_sem]) rfl ⟨by rw [HQ.out.1, HQ.out.2.1, HQ.out.2.2.1, HQ.out.2.2.2], ?_⟩
        exact (((he.alloc _).trans he2).alloc _).drewN _
      · have hb : ((N : Int) % (K : Int) == 0) = false := by simpa using hk
        have HQ := Lib.hid (okK_no (n := (N : Int)) (m := (M : Int)) (u := (U : Int)) (k := (K : Int)) (by rw [okK, hc, hd, hb]; rfl))
        clear hc hd hb h1
        go_enter Try.func27, Try.ntmps27
        go_wp2_with fail
        refine HC.out.mono ?_
        rintro e w1 ⟨rfl, he⟩
        go_wp2_with fail
        refine bodyPost_ret (v := .tuple #[.int .i64 0, .int .i64 0, .int .i64 0, .int .i64 2]) (by simp [results, Try.results27, go_sem]) rfl ⟨by rw [HQ.out.1, HQ.out.2.1, HQ.out.2.2.1, HQ.out.2.2.2], he.alloc _⟩

end Go.Proofs.Ytfnjpbjlikajbaa
