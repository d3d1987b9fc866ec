/- The inverse of a pair: both contracts. -/
import Derived.Test.YtfafccldngekgaaQc
namespace Go.Proofs.Ytfafccldngekgaa
open Go.RowKit

set_option maxRecDepth 100000 in
set_option maxHeartbeats 4000000 in
theorem specPairInverse_ex (t0 : List (List Int)) (m1 : Int) (t1 : List Int) (m2 : Int) : ∀ (B0 : Option Addr) (d0 : Nat) (B1 : Option Addr) (d1 : Nat) (W : World), RwsW W B0 t0 → IntsW W B1 t1 → SmallT t0 → t1.length ≤ 1048576 →
    Calls Try.prog 33 #[.agg #[.slice B0 t0.length d0], .agg #[.int .i64 m1, .slice B1 t1.length d1], .int .i64 m2] W fun e W' => e = .returned (.tuple #[.int .i64 (qPairInverse0 t0 m1 t1 m2), .int .i64 (qPairInverse1 t0 m1 t1 m2)]) ∧ Ex W W' := by
  intro B0 d0 B1 d1 w hR hX hs hu
  have e0 : Ex w (((w.alloc (.cells #[.slice B0 t0.length d0] 32)).alloc (.cells #[.int .i64 m1, .slice B1 t1.length d1] 34)).alloc (.cells #[.int .i64 m2] 2)) := (((Ex.refl w).alloc _).alloc _).alloc _
  have b0 : Has (((w.alloc (.cells #[.slice B0 t0.length d0] 32)).alloc (.cells #[.int .i64 m1, .slice B1 t1.length d1] 34)).alloc (.cells #[.int .i64 m2] 2)) (w.heap.size) 32 #[.slice B0 t0.length d0] := (((Has.newAt (w := w) (e := 32) (cs := #[.slice B0 t0.length d0]) (k := w.heap.size) (by simp)).alloc _).alloc _)
  have b1 : Has (((w.alloc (.cells #[.slice B0 t0.length d0] 32)).alloc (.cells #[.int .i64 m1, .slice B1 t1.length d1] 34)).alloc (.cells #[.int .i64 m2] 2)) (w.heap.size + 1) 34 #[.int .i64 m1, .slice B1 t1.length d1] := ((Has.newAt (w := (w.alloc (.cells #[.slice B0 t0.length d0] 32))) (e := 34) (cs := #[.int .i64 m1, .slice B1 t1.length d1]) (k := w.heap.size + 1) (by simp)).alloc _)
  have b2 : Has (((w.alloc (.cells #[.slice B0 t0.length d0] 32)).alloc (.cells #[.int .i64 m1, .slice B1 t1.length d1] 34)).alloc (.cells #[.int .i64 m2] 2)) (w.heap.size + 1 + 1) 2 #[.int .i64 m2] := (Has.newAt (w := ((w.alloc (.cells #[.slice B0 t0.length d0] 32)).alloc (.cells #[.int .i64 m1, .slice B1 t1.length d1] 34))) (e := 2) (cs := #[.int .i64 m2]) (k := w.heap.size + 1 + 1) (by simp))
  have HC := Lib.hid (l05Pairs_ex B0 B1 (some ⟨w.heap.size + 1 + 1, 0, none⟩) t0 m1 t1 [m2] d0 d1 1 _ (hR.ex e0) (hX.ex e0) (ints_one b2) hs hu (by simp))
  have HE0 := Lib.hid e0
  by_cases hg : prC t0 m1 t1 [m2] = 0
  · have hgz := hg
    obtain ⟨M, P, rfl, rfl, hgm, hm, hp⟩ := pr_one hg
    rw [hg] at HC
    have hN8 := hm.g.n8
    have hM2 := hm.m2
    have hM12 := hm.m12
    have hK96 : M * t0.length ≤ 96 := Nat.le_trans (Nat.mul_le_mul hM12 hN8) (by omega)
    have hM0 : ¬ M = 0 := by omega
    have hP96 : P ≤ 96 := by omega
    have hxt := pair_el hp
    have hnt : P % M < M := Nat.mod_lt _ (by omega)
    have hiv := (iv_spec hm.g hxt).1
    have hxu : iv t0 (P / M) < t1.length := by rw [hm.len]; exact hiv
    obtain ⟨bx, ox, rfl, hbx, hcx⟩ := hX.ints.at_ hxu
    obtain ⟨hie, hi12⟩ := im_eq hm.rng hxu
    rw [hie] at hcx
    have hk96 : M * iv t0 (P / M) ≤ 96 := Nat.le_trans (Nat.mul_le_mul_left _ (Nat.le_of_lt hiv)) hK96
    have HQ : Hid (qPairInverse0 t0 (M : Int) t1 (P : Int) = (pairI t0 M t1 P : Int) ∧ qPairInverse1 t0 (M : Int) t1 (P : Int) = 0) := Lib.hid ⟨by rw [qPairInverse0, if_pos hgz, Int.toNat_natCast, Int.toNat_natCast], hgz⟩
    have HV : Hid (pairI t0 M t1 P = M * iv t0 (P / M) + (-((im t1 (iv t0 (P / M)) * (P % M) : Nat) : Int) % (M : Int)).toNat) := Lib.hid rfl
    have HIV := Lib.hid (fun W (he : Ex w W) => l01Inverse_any B0 t0 d0 (P / M) W (hR.ex he) hm.g hxt)
    obtain ⟨x, hx⟩ : ∃ x, P / M = x := ⟨_, rfl⟩
    obtain ⟨n, hn⟩ : ∃ n, P % M = n := ⟨_, rfl⟩
    have htx : Int.tdiv (P : Int) (M : Int) = (x : Int) := by rw [← hx]; exact (Int.ofNat_tdiv P M).symm
    have hwtx : IntKind.i64.wrap (x : Int) = (x : Int) := IntWalk.i64_in _ (by rw [← hx]; omega)
    have htn : Int.tmod (P : Int) (M : Int) = (n : Int) := by rw [← hn]; exact tmod_nat P M
    rw [hx] at hk96 HV hxu hcx hi12
    simp only [hx] at HIV
    rw [hn] at HV hnt
    obtain ⟨y, hy⟩ : ∃ y, iv t0 x = y := ⟨_, rfl⟩
    rw [hy] at hk96 HV hxu hcx hi12
    simp only [hy] at HIV
    have hy8 : y ≤ 8 := by have := hiv; rw [hx, hy] at this; omega
    obtain ⟨u, hu⟩ : ∃ u, im t1 y = u := ⟨_, rfl⟩
    rw [hu] at hcx hi12 HV
    obtain ⟨z0, hz0⟩ : ∃ z0, u * n = z0 := ⟨_, rfl⟩
    have hz144 : z0 ≤ 144 := by rw [← hz0]; exact Nat.le_trans (Nat.mul_le_mul (show u ≤ 12 by omega) (show n ≤ 12 by omega)) (by omega)
    have hpz : (u : Int) * (n : Int) = (z0 : Int) := by rw [← hz0]; simp
    have hpn : -(u : Int) * (n : Int) = -(z0 : Int) := by rw [Int.neg_mul, hpz]
    rw [hz0] at HV
    obtain ⟨r, hr⟩ : ∃ r, (-(z0 : Int) % (M : Int)).toNat = r := ⟨_, rfl⟩
    have hr0 : 0 ≤ -(z0 : Int) % (M : Int) := Int.emod_nonneg _ (by omega)
    have hrM0 : -(z0 : Int) % (M : Int) < (M : Int) := Int.emod_lt_of_pos _ (by omega)
    have hre : -(z0 : Int) % (M : Int) = (r : Int) := by omega
    have hrM : r < M := by omega
    rw [hr] at HV
    obtain ⟨k0, hk0⟩ : ∃ k0, M * y = k0 := ⟨_, rfl⟩
    have hpk : (y : Int) * (M : Int) = (k0 : Int) := by rw [← hk0, Int.mul_comm]; simp
    rw [hk0] at HV hk96
    have hw0 : IntKind.i64.wrap (-(u : Int)) = -(u : Int) := IntWalk.i64_in _ (by omega)
    have hw1 : IntKind.i64.wrap (-(z0 : Int)) = -(z0 : Int) := IntWalk.i64_in _ (by omega)
    have hw3 : IntKind.i64.wrap (k0 : Int) = (k0 : Int) := IntWalk.i64_in _ (by omega)
    have hw4 : IntKind.i64.wrap ((k0 : Int) + (r : Int)) = ((k0 + r : Nat) : Int) := by rw [IntWalk.i64_in _ (by omega)]; simp
    have HMV := Lib.hid (fun W => hre ▸ l01Mod_ex (-(z0 : Int)) M W (by omega) hM12 (by omega) (by omega))
    have HCX := Lib.hid hcx
    clear hR hX hs hg hgz hm hp hgm hx hn hy hu hz0 hr hr0 hrM0 hre hk0 hie hcx hiv hK96 hxt
    go_enter Try.func33, Try.ntmps33
    go_wp2_with fail
    generalize (((w.alloc (.cells #[.slice B0 t0.length d0] 32)).alloc (.cells #[.int .i64 (M : Int), .slice (some ⟨bx, ox, none⟩) t1.length d1] 34)).alloc (.cells #[.int .i64 (P : Int)] 2)) = W0 at *
    refine HC.out.mono ?_
    rintro e W1 ⟨rfl, he1⟩
    have HE1 := Lib.hid (HE0.out.trans he1)
    have HSK := Lib.hid (fun (W' : World) (hb : Ex W1 W') => And.intro ((HE1.out.trans hb).below.cell (p := ⟨bx, ox + y, none⟩) hbx |>.trans HCX.out) (And.intro (((b0.ex he1).ex hb).cell 0) (And.intro (((b1.ex he1).ex hb).cell 0) (((b1.ex he1).ex hb).cell 1))))
    clear b0 b1 b2 e0 he1
    go_wp2_with fail
    refine wp_region_quiet (C := fun w' => Ex W1 w') (by kernel_rfl) (by kernel_rfl) (Ex.refl W1).drew ?_
    refine BigFrame.wpQuiet_want (by rfl) fun K hK => ⟨?_, fun w' hC => ?_, hK _ ?_⟩
    rotate_left
    · (obtain ⟨q2, q3, q4, q5⟩ := HSK.out _ hC; go_simp; first | done | with_reducible rfl | exact ⟨rfl, hC⟩)
    clear hK K
    simp only [Act.put, List.setIfInBounds_toArray, List.set_cons_zero, List.set_cons_succ]
    refine BigFrame.wpQuiet_want (by rfl) fun K hK => ⟨?_, fun w' hC => ?_, hK _ ?_⟩
    rotate_left
    · (obtain ⟨q2, q3, q4, q5⟩ := HSK.out _ hC; go_simp; first | done | with_reducible rfl | exact ⟨rfl, hC⟩)
    clear hK K
    simp only [Act.put, List.setIfInBounds_toArray, List.set_cons_zero, List.set_cons_succ]
    refine BigFrame.wpQuiet_want (by rfl) fun K hK => ⟨?_, fun w' hC => ?_, hK _ ?_⟩
    rotate_left
    · (obtain ⟨q2, q3, q4, q5⟩ := HSK.out _ hC; go_simp; first | done | with_reducible rfl | exact ⟨rfl, hC⟩)
    clear hK K
    simp only [Act.put, List.setIfInBounds_toArray, List.set_cons_zero, List.set_cons_succ]
    refine BigFrame.wpQuiet_want (by rfl) fun K hK => ⟨?_, fun w' hC => ?_, hK _ ?_⟩
    rotate_left
    · (obtain ⟨q2, q3, q4, q5⟩ := HSK.out _ hC; go_simp; first | done | with_reducible rfl | exact ⟨rfl, hC⟩)
    clear hK K
    simp only [Act.put, List.setIfInBounds_toArray, List.set_cons_zero, List.set_cons_succ]
    refine BigFrame.wpQuiet_want (by rfl) fun K hK => ⟨?_, fun w' hC => ?_, hK _ ?_⟩
    rotate_left
    · (obtain ⟨q2, q3, q4, q5⟩ := HSK.out _ hC; go_simp; first | done | with_reducible rfl | exact ⟨rfl, hC⟩)
    clear hK K
    simp only [Act.put, List.setIfInBounds_toArray, List.set_cons_zero, List.set_cons_succ]
    refine BigFrame.wpQuiet_want (by rfl) fun K hK => ⟨.int .i64 (y : Int), fun w' hC => (by go_simp; refine (HIV.out w' (HE1.out.trans hC)).mono ?_; rintro e w2 ⟨rfl, hb⟩; exact ⟨rfl, hC.trans hb⟩), hK _ ?_⟩
    clear hK K
    simp only [Act.put, List.setIfInBounds_toArray, List.set_cons_zero, List.set_cons_succ]
    refine BigFrame.wpQuiet_want (by rfl) fun K hK => ⟨?_, fun w' hC => ?_, hK _ ?_⟩
    rotate_left
    · (obtain ⟨q2, q3, q4, q5⟩ := HSK.out _ hC; go_simp; first | done | with_reducible rfl | exact ⟨rfl, hC⟩)
    clear hK K
    simp only [Act.put, List.setIfInBounds_toArray, List.set_cons_zero, List.set_cons_succ]
    refine wpQuiet_nil ?_
    intro w2 hC2
    have HC2 := Lib.hid hC2
    clear hC2
    go_wp2_with fail
    have HSK2 := Lib.hid (fun (W' : World) (hb : Ex w2.drew W') => HSK.out W' (HC2.out.drew.trans hb))
    refine wp_region_quiet (C := fun w' => Ex w2.drew w') (by kernel_rfl) (by kernel_rfl) (Ex.refl _) ?_
    refine BigFrame.wpQuiet_want (by rfl) fun K hK => ⟨?_, fun w' hC => ?_, hK _ ?_⟩
    rotate_left
    · (obtain ⟨q2, q3, q4, q5⟩ := HSK2.out _ hC; go_simp; first | done | with_reducible rfl | exact ⟨rfl, hC⟩)
    clear hK K
    simp only [Act.put, List.setIfInBounds_toArray, List.set_cons_zero, List.set_cons_succ]
    refine BigFrame.wpQuiet_want (by rfl) fun K hK => ⟨?_, fun w' hC => ?_, hK _ ?_⟩
    rotate_left
    · (obtain ⟨q2, q3, q4, q5⟩ := HSK2.out _ hC; go_simp; first | done | with_reducible rfl | exact ⟨rfl, hC⟩)
    clear hK K
    simp only [Act.put, List.setIfInBounds_toArray, List.set_cons_zero, List.set_cons_succ]
    refine BigFrame.wpQuiet_want (by rfl) fun K hK => ⟨?_, fun w' hC => ?_, hK _ ?_⟩
    rotate_left
    · (obtain ⟨q2, q3, q4, q5⟩ := HSK2.out _ hC; go_simp; first | done | with_reducible rfl | exact ⟨rfl, hC⟩)
    clear hK K
    simp only [Act.put, List.setIfInBounds_toArray, List.set_cons_zero, List.set_cons_succ]
    refine BigFrame.wpQuiet_want (by rfl) fun K hK => ⟨?_, fun w' hC => ?_, hK _ ?_⟩
    rotate_left
    · (obtain ⟨q2, q3, q4, q5⟩ := HSK2.out _ hC; go_simp; first | done | with_reducible rfl | exact ⟨rfl, hC⟩)
    clear hK K
    simp only [Act.put, List.setIfInBounds_toArray, List.set_cons_zero, List.set_cons_succ]
    refine BigFrame.wpQuiet_want (by rfl) fun K hK => ⟨?_, fun w' hC => ?_, hK _ ?_⟩
    rotate_left
    · (obtain ⟨q2, q3, q4, q5⟩ := HSK2.out _ hC; go_simp; first | done | with_reducible rfl | exact ⟨rfl, hC⟩)
    clear hK K
    simp only [Act.put, List.setIfInBounds_toArray, List.set_cons_zero, List.set_cons_succ]
    refine BigFrame.wpQuiet_want (by rfl) fun K hK => ⟨?_, fun w' hC => ?_, hK _ ?_⟩
    rotate_left
    · (obtain ⟨q2, q3, q4, q5⟩ := HSK2.out _ hC; go_simp; first | done | with_reducible rfl | exact ⟨rfl, hC⟩)
    clear hK K
    simp only [Act.put, List.setIfInBounds_toArray, List.set_cons_zero, List.set_cons_succ]
    refine BigFrame.wpQuiet_want (by rfl) fun K hK => ⟨?_, fun w' hC => ?_, hK _ ?_⟩
    rotate_left
    · (obtain ⟨q2, q3, q4, q5⟩ := HSK2.out _ hC; go_simp; first | done | with_reducible rfl | exact ⟨rfl, hC⟩)
    clear hK K
    simp only [Act.put, List.setIfInBounds_toArray, List.set_cons_zero, List.set_cons_succ]
    refine BigFrame.wpQuiet_want (by rfl) fun K hK => ⟨?_, fun w' hC => ?_, hK _ ?_⟩
    rotate_left
    · (obtain ⟨q2, q3, q4, q5⟩ := HSK2.out _ hC; go_simp; first | done | with_reducible rfl | exact ⟨rfl, hC⟩)
    clear hK K
    simp only [Act.put, List.setIfInBounds_toArray, List.set_cons_zero, List.set_cons_succ]
    refine BigFrame.wpQuiet_want (by rfl) fun K hK => ⟨?_, fun w' hC => ?_, hK _ ?_⟩
    rotate_left
    · (obtain ⟨q2, q3, q4, q5⟩ := HSK2.out _ hC; go_simp; first | done | with_reducible rfl | exact ⟨rfl, hC⟩)
    clear hK K
    simp only [Act.put, List.setIfInBounds_toArray, List.set_cons_zero, List.set_cons_succ]
    refine BigFrame.wpQuiet_want (by rfl) fun K hK => ⟨?_, fun w' hC => ?_, hK _ ?_⟩
    rotate_left
    · (obtain ⟨q2, q3, q4, q5⟩ := HSK2.out _ hC; go_simp; first | done | with_reducible rfl | exact ⟨rfl, hC⟩)
    clear hK K
    simp only [Act.put, List.setIfInBounds_toArray, List.set_cons_zero, List.set_cons_succ]
    refine BigFrame.wpQuiet_want (by rfl) fun K hK => ⟨?_, fun w' hC => ?_, hK _ ?_⟩
    rotate_left
    · (obtain ⟨q2, q3, q4, q5⟩ := HSK2.out _ hC; go_simp; first | done | with_reducible rfl | exact ⟨rfl, hC⟩)
    clear hK K
    simp only [Act.put, List.setIfInBounds_toArray, List.set_cons_zero, List.set_cons_succ]
    refine BigFrame.wpQuiet_want (by rfl) fun K hK => ⟨?_, fun w' hC => ?_, hK _ ?_⟩
    rotate_left
    · (obtain ⟨q2, q3, q4, q5⟩ := HSK2.out _ hC; go_simp; first | done | with_reducible rfl | exact ⟨rfl, hC⟩)
    clear hK K
    simp only [Act.put, List.setIfInBounds_toArray, List.set_cons_zero, List.set_cons_succ]
    refine BigFrame.wpQuiet_want (by rfl) fun K hK => ⟨?_, fun w' hC => ?_, hK _ ?_⟩
    rotate_left
    · (obtain ⟨q2, q3, q4, q5⟩ := HSK2.out _ hC; go_simp; first | done | with_reducible rfl | exact ⟨rfl, hC⟩)
    clear hK K
    simp only [Act.put, List.setIfInBounds_toArray, List.set_cons_zero, List.set_cons_succ]
    refine BigFrame.wpQuiet_want (by rfl) fun K hK => ⟨?_, fun w' hC => ?_, hK _ ?_⟩
    rotate_left
    · (obtain ⟨q2, q3, q4, q5⟩ := HSK2.out _ hC; go_simp; first | done | with_reducible rfl | exact ⟨rfl, hC⟩)
    clear hK K
    simp only [Act.put, List.setIfInBounds_toArray, List.set_cons_zero, List.set_cons_succ]
    refine BigFrame.wpQuiet_want (by rfl) fun K hK => ⟨?_, fun w' hC => ?_, hK _ ?_⟩
    rotate_left
    · (obtain ⟨q2, q3, q4, q5⟩ := HSK2.out _ hC; go_simp; first | done | with_reducible rfl | exact ⟨rfl, hC⟩)
    clear hK K
    simp only [Act.put, List.setIfInBounds_toArray, List.set_cons_zero, List.set_cons_succ]
    refine BigFrame.wpQuiet_want (by rfl) fun K hK => ⟨?_, fun w' hC => ?_, hK _ ?_⟩
    rotate_left
    · (obtain ⟨q2, q3, q4, q5⟩ := HSK2.out _ hC; go_simp; first | done | with_reducible rfl | exact ⟨rfl, hC⟩)
    clear hK K
    simp only [Act.put, List.setIfInBounds_toArray, List.set_cons_zero, List.set_cons_succ]
    refine BigFrame.wpQuiet_want (by rfl) fun K hK => ⟨?_, fun w' hC => ?_, hK _ ?_⟩
    rotate_left
    · (obtain ⟨q2, q3, q4, q5⟩ := HSK2.out _ hC; go_simp; first | done | with_reducible rfl | exact ⟨rfl, hC⟩)
    clear hK K
    simp only [Act.put, List.setIfInBounds_toArray, List.set_cons_zero, List.set_cons_succ]
    refine BigFrame.wpQuiet_want (by rfl) fun K hK => ⟨.int .i64 (r : Int), fun w' hC => (by go_simp; refine (HMV.out w').mono ?_; rintro e w2 ⟨rfl, hb⟩; exact ⟨rfl, hC.trans hb⟩), hK _ ?_⟩
    clear hK K
    simp only [Act.put, List.setIfInBounds_toArray, List.set_cons_zero, List.set_cons_succ]
    refine BigFrame.wpQuiet_want (by rfl) fun K hK => ⟨?_, fun w' hC => ?_, hK _ ?_⟩
    rotate_left
    · (obtain ⟨q2, q3, q4, q5⟩ := HSK2.out _ hC; go_simp; first | done | with_reducible rfl | exact ⟨rfl, hC⟩)
    clear hK K
    simp only [Act.put, List.setIfInBounds_toArray, List.set_cons_zero, List.set_cons_succ]
    refine BigFrame.wpQuiet_want (by rfl) fun K hK => ⟨?_, fun w' hC => ?_, hK _ ?_⟩
    rotate_left
    · (obtain ⟨q2, q3, q4, q5⟩ := HSK2.out _ hC; go_simp; first | done | with_reducible rfl | exact ⟨rfl, hC⟩)
    clear hK K
    simp only [Act.put, List.setIfInBounds_toArray, List.set_cons_zero, List.set_cons_succ]
    refine BigFrame.wpQuiet_want (by rfl) fun K hK => ⟨?_, fun w' hC => ?_, hK _ ?_⟩
    rotate_left
    · (obtain ⟨q2, q3, q4, q5⟩ := HSK2.out _ hC; go_simp; first | done | with_reducible rfl | exact ⟨rfl, hC⟩)
    clear hK K
    simp only [Act.put, List.setIfInBounds_toArray, List.set_cons_zero, List.set_cons_succ]
    have HC0 := Lib.hid HC2.out.drew
    clear HC2
    refine wpQuiet_nil ?_
    intro w2 hC2
    have HC2 := Lib.hid hC2
    clear hC2
    go_wp2_with fail
    go_ret2
    exact ⟨by rw [HQ.out.1, HQ.out.2, HV.out]; rfl, HE1.out.trans (HC0.out.trans HC2.out)⟩
  · have HQ : Hid (qPairInverse0 t0 m1 t1 m2 = 0 ∧ qPairInverse1 t0 m1 t1 m2 = prC t0 m1 t1 [m2]) := Lib.hid ⟨by rw [qPairInverse0, if_neg hg], rfl⟩
    obtain ⟨z, hz⟩ : ∃ z, prC t0 m1 t1 [m2] = z := ⟨_, rfl⟩
    rw [hz] at HC HQ hg
    have hzb : (z != 0) = true := by simpa using hg
    clear hR hX hg hz
    go_enter Try.func33, Try.ntmps33
    go_wp2_with fail
    generalize (((w.alloc (.cells #[.slice B0 t0.length d0] 32)).alloc (.cells #[.int .i64 m1, .slice B1 t1.length d1] 34)).alloc (.cells #[.int .i64 m2] 2)) = W0 at *
    refine HC.out.mono ?_
    rintro e W1 ⟨rfl, he1⟩
    go_wp2_with fail
    go_ret2
    exact ⟨by rw [HQ.out.1, HQ.out.2]; rfl, HE0.out.trans he1⟩

set_option maxRecDepth 100000 in
set_option maxHeartbeats 4000000 in
theorem implPairInverse_ex (t0 : List (List Int)) (m1 : Int) (t1 : List Int) (m2 : Int) : ∀ (B0 : Option Addr) (d0 : Nat) (B1 : Option Addr) (d1 : Nat) (W : World), RwsW W B0 t0 → IntsW W B1 t1 → SmallT t0 → t1.length ≤ 1048576 →
    Calls Try.prog 34 #[.agg #[.slice B0 t0.length d0], .agg #[.int .i64 m1, .slice B1 t1.length d1], .int .i64 m2] W fun e W' => e = .returned (.tuple #[.int .i64 (qPairInverse0 t0 m1 t1 m2), .int .i64 (qPairInverse1 t0 m1 t1 m2)]) ∧ Ex W W' := by
  intro B0 d0 B1 d1 w hR hX hs hu
  have e0 : Ex w (((w.alloc (.cells #[.slice B0 t0.length d0] 32)).alloc (.cells #[.int .i64 m1, .slice B1 t1.length d1] 34)).alloc (.cells #[.int .i64 m2] 2)) := (((Ex.refl w).alloc _).alloc _).alloc _
  have b0 : Has (((w.alloc (.cells #[.slice B0 t0.length d0] 32)).alloc (.cells #[.int .i64 m1, .slice B1 t1.length d1] 34)).alloc (.cells #[.int .i64 m2] 2)) (w.heap.size) 32 #[.slice B0 t0.length d0] := (((Has.newAt (w := w) (e := 32) (cs := #[.slice B0 t0.length d0]) (k := w.heap.size) (by simp)).alloc _).alloc _)
  have b1 : Has (((w.alloc (.cells #[.slice B0 t0.length d0] 32)).alloc (.cells #[.int .i64 m1, .slice B1 t1.length d1] 34)).alloc (.cells #[.int .i64 m2] 2)) (w.heap.size + 1) 34 #[.int .i64 m1, .slice B1 t1.length d1] := ((Has.newAt (w := (w.alloc (.cells #[.slice B0 t0.length d0] 32))) (e := 34) (cs := #[.int .i64 m1, .slice B1 t1.length d1]) (k := w.heap.size + 1) (by simp)).alloc _)
  have b2 : Has (((w.alloc (.cells #[.slice B0 t0.length d0] 32)).alloc (.cells #[.int .i64 m1, .slice B1 t1.length d1] 34)).alloc (.cells #[.int .i64 m2] 2)) (w.heap.size + 1 + 1) 2 #[.int .i64 m2] := (Has.newAt (w := ((w.alloc (.cells #[.slice B0 t0.length d0] 32)).alloc (.cells #[.int .i64 m1, .slice B1 t1.length d1] 34))) (e := 2) (cs := #[.int .i64 m2]) (k := w.heap.size + 1 + 1) (by simp))
  have HC := Lib.hid (pairsCode_ex B0 B1 (some ⟨w.heap.size + 1 + 1, 0, none⟩) t0 m1 t1 [m2] d0 d1 1 _ (hR.ex e0) (hX.ex e0) (ints_one b2) hs hu (by simp))
  have HE0 := Lib.hid e0
  by_cases hg : prC t0 m1 t1 [m2] = 0
  · have hgz := hg
    obtain ⟨M, P, rfl, rfl, hgm, hm, hp⟩ := pr_one hg
    rw [hg] at HC
    have hN8 := hm.g.n8
    have hM2 := hm.m2
    have hM12 := hm.m12
    have hK96 : M * t0.length ≤ 96 := Nat.le_trans (Nat.mul_le_mul hM12 hN8) (by omega)
    have hM0 : ¬ M = 0 := by omega
    have hP96 : P ≤ 96 := by omega
    have hxt := pair_el hp
    have hnt : P % M < M := Nat.mod_lt _ (by omega)
    have hiv := (iv_spec hm.g hxt).1
    have hxu : iv t0 (P / M) < t1.length := by rw [hm.len]; exact hiv
    obtain ⟨bx, ox, rfl, hbx, hcx⟩ := hX.ints.at_ hxu
    obtain ⟨hie, hi12⟩ := im_eq hm.rng hxu
    rw [hie] at hcx
    have hk96 : M * iv t0 (P / M) ≤ 96 := Nat.le_trans (Nat.mul_le_mul_left _ (Nat.le_of_lt hiv)) hK96
    have HQ : Hid (qPairInverse0 t0 (M : Int) t1 (P : Int) = (pairI t0 M t1 P : Int) ∧ qPairInverse1 t0 (M : Int) t1 (P : Int) = 0) := Lib.hid ⟨by rw [qPairInverse0, if_pos hgz, Int.toNat_natCast, Int.toNat_natCast], hgz⟩
    have HV : Hid (pairI t0 M t1 P = M * iv t0 (P / M) + (-((im t1 (iv t0 (P / M)) * (P % M) : Nat) : Int) % (M : Int)).toNat) := Lib.hid rfl
    have HIV := Lib.hid (fun W (he : Ex w W) => inverseOf_any B0 t0 d0 (P / M) W (hR.ex he) hm.g hxt)
    have HPA := Lib.hid (fun W => partsOf_any (some ⟨bx, ox, none⟩) M t1.length d1 P W hM2 hM12 hP96)
    obtain ⟨x, hx⟩ : ∃ x, P / M = x := ⟨_, rfl⟩
    obtain ⟨n, hn⟩ : ∃ n, P % M = n := ⟨_, rfl⟩
    have htx : Int.tdiv (P : Int) (M : Int) = (x : Int) := by rw [← hx]; exact (Int.ofNat_tdiv P M).symm
    have hwtx : IntKind.i64.wrap (x : Int) = (x : Int) := IntWalk.i64_in _ (by rw [← hx]; omega)
    have htn : Int.tmod (P : Int) (M : Int) = (n : Int) := by rw [← hn]; exact tmod_nat P M
    rw [hx] at hk96 HV hxu hcx hi12
    simp only [hx] at HIV
    simp only [hx, hn] at HPA
    rw [hn] at HV hnt
    obtain ⟨y, hy⟩ : ∃ y, iv t0 x = y := ⟨_, rfl⟩
    rw [hy] at hk96 HV hxu hcx hi12
    simp only [hy] at HIV
    have hy8 : y ≤ 8 := by have := hiv; rw [hx, hy] at this; omega
    obtain ⟨u, hu⟩ : ∃ u, im t1 y = u := ⟨_, rfl⟩
    rw [hu] at hcx hi12 HV
    obtain ⟨z0, hz0⟩ : ∃ z0, u * n = z0 := ⟨_, rfl⟩
    have hz144 : z0 ≤ 144 := by rw [← hz0]; exact Nat.le_trans (Nat.mul_le_mul (show u ≤ 12 by omega) (show n ≤ 12 by omega)) (by omega)
    have hpz : (u : Int) * (n : Int) = (z0 : Int) := by rw [← hz0]; simp
    have hpn : -(u : Int) * (n : Int) = -(z0 : Int) := by rw [Int.neg_mul, hpz]
    rw [hz0] at HV
    obtain ⟨r, hr⟩ : ∃ r, (-(z0 : Int) % (M : Int)).toNat = r := ⟨_, rfl⟩
    have hr0 : 0 ≤ -(z0 : Int) % (M : Int) := Int.emod_nonneg _ (by omega)
    have hrM0 : -(z0 : Int) % (M : Int) < (M : Int) := Int.emod_lt_of_pos _ (by omega)
    have hre : -(z0 : Int) % (M : Int) = (r : Int) := by omega
    have hrM : r < M := by omega
    rw [hr] at HV
    obtain ⟨k0, hk0⟩ : ∃ k0, M * y = k0 := ⟨_, rfl⟩
    have hpk : (y : Int) * (M : Int) = (k0 : Int) := by rw [← hk0, Int.mul_comm]; simp
    rw [hk0] at HV hk96
    have hw0 : IntKind.i64.wrap (-(u : Int)) = -(u : Int) := IntWalk.i64_in _ (by omega)
    have hw1 : IntKind.i64.wrap (-(z0 : Int)) = -(z0 : Int) := IntWalk.i64_in _ (by omega)
    have hw3 : IntKind.i64.wrap (k0 : Int) = (k0 : Int) := IntWalk.i64_in _ (by omega)
    have hw4 : IntKind.i64.wrap ((k0 : Int) + (r : Int)) = ((k0 + r : Nat) : Int) := by rw [IntWalk.i64_in _ (by omega)]; simp
    have HMV := Lib.hid (fun W => hre ▸ (restOf_w (-(z0 : Int)) M W (by omega) hM12 (by omega) (by omega)).mono fun _ _ h => And.intro h.1 (Ex.of_eq' h.2))
    have HPO := Lib.hid (fun W => hk0 ▸ pairOf_any (some ⟨bx, ox, none⟩) M t1.length d1 r y W hM12 (by omega) (by omega))
    have HCX := Lib.hid hcx
    clear hR hX hs hg hgz hm hp hgm hx hn hy hu hz0 hr hr0 hrM0 hre hk0 hie hcx hiv hK96 hxt
    go_enter Try.func34, Try.ntmps34
    go_wp2_with fail
    generalize (((w.alloc (.cells #[.slice B0 t0.length d0] 32)).alloc (.cells #[.int .i64 (M : Int), .slice (some ⟨bx, ox, none⟩) t1.length d1] 34)).alloc (.cells #[.int .i64 (P : Int)] 2)) = W0 at *
    refine HC.out.mono ?_
    rintro e W1 ⟨rfl, he1⟩
    have c1 := (b1.ex he1).cell 0
    have c1' := (b1.ex he1).cell 1
    go_wp2_with fail
    refine (HPA.out _).mono ?_
    rintro e W2 ⟨rfl, he2⟩
    have he12 := he1.trans he2
    have c0 := (b0.ex he12).cell 0
    clear c1 c1'
    go_wp2_with fail
    refine (HIV.out _ (HE0.out.trans he12)).mono ?_
    rintro e W3 ⟨rfl, he3⟩
    have he13 := he12.trans he3
    have HE1 := Lib.hid (HE0.out.trans he13)
    have HSK := Lib.hid (fun (W' : World) (hb : Ex W3.drew W') => And.intro ((HE1.out.trans ((Ex.refl W3).drew.trans hb)).below.cell (p := ⟨bx, ox + y, none⟩) hbx |>.trans HCX.out) (And.intro (((b1.ex he13).ex ((Ex.refl W3).drew.trans hb)).cell 0) (((b1.ex he13).ex ((Ex.refl W3).drew.trans hb)).cell 1)))
    clear b0 b1 b2 e0 he1 he2 he3 he12 he13 c0
    go_wp2_with fail
    refine wp_region_quiet (C := fun w' => Ex W3.drew w') (by kernel_rfl) (by kernel_rfl) (Ex.refl _) ?_
    refine BigFrame.wpQuiet_want (by rfl) fun K hK => ⟨?_, fun w' hC => ?_, hK _ ?_⟩
    rotate_left
    · (obtain ⟨q2, q4, q5⟩ := HSK.out _ hC; go_simp; first | done | with_reducible rfl | exact ⟨rfl, hC⟩)
    clear hK K
    simp only [Act.put, List.setIfInBounds_toArray, List.set_cons_zero, List.set_cons_succ]
    refine BigFrame.wpQuiet_want (by rfl) fun K hK => ⟨?_, fun w' hC => ?_, hK _ ?_⟩
    rotate_left
    · (obtain ⟨q2, q4, q5⟩ := HSK.out _ hC; go_simp; first | done | with_reducible rfl | exact ⟨rfl, hC⟩)
    clear hK K
    simp only [Act.put, List.setIfInBounds_toArray, List.set_cons_zero, List.set_cons_succ]
    refine BigFrame.wpQuiet_want (by rfl) fun K hK => ⟨?_, fun w' hC => ?_, hK _ ?_⟩
    rotate_left
    · (obtain ⟨q2, q4, q5⟩ := HSK.out _ hC; go_simp; first | done | with_reducible rfl | exact ⟨rfl, hC⟩)
    clear hK K
    simp only [Act.put, List.setIfInBounds_toArray, List.set_cons_zero, List.set_cons_succ]
    refine BigFrame.wpQuiet_want (by rfl) fun K hK => ⟨?_, fun w' hC => ?_, hK _ ?_⟩
    rotate_left
    · (obtain ⟨q2, q4, q5⟩ := HSK.out _ hC; go_simp; first | done | with_reducible rfl | exact ⟨rfl, hC⟩)
    clear hK K
    simp only [Act.put, List.setIfInBounds_toArray, List.set_cons_zero, List.set_cons_succ]
    refine BigFrame.wpQuiet_want (by rfl) fun K hK => ⟨?_, fun w' hC => ?_, hK _ ?_⟩
    rotate_left
    · (obtain ⟨q2, q4, q5⟩ := HSK.out _ hC; go_simp; first | done | with_reducible rfl | exact ⟨rfl, hC⟩)
    clear hK K
    simp only [Act.put, List.setIfInBounds_toArray, List.set_cons_zero, List.set_cons_succ]
    refine BigFrame.wpQuiet_want (by rfl) fun K hK => ⟨?_, fun w' hC => ?_, hK _ ?_⟩
    rotate_left
    · (obtain ⟨q2, q4, q5⟩ := HSK.out _ hC; go_simp; first | done | with_reducible rfl | exact ⟨rfl, hC⟩)
    clear hK K
    simp only [Act.put, List.setIfInBounds_toArray, List.set_cons_zero, List.set_cons_succ]
    refine BigFrame.wpQuiet_want (by rfl) fun K hK => ⟨?_, fun w' hC => ?_, hK _ ?_⟩
    rotate_left
    · (obtain ⟨q2, q4, q5⟩ := HSK.out _ hC; go_simp; first | done | with_reducible rfl | exact ⟨rfl, hC⟩)
    clear hK K
    simp only [Act.put, List.setIfInBounds_toArray, List.set_cons_zero, List.set_cons_succ]
    refine BigFrame.wpQuiet_want (by rfl) fun K hK => ⟨?_, fun w' hC => ?_, hK _ ?_⟩
    rotate_left
    · (obtain ⟨q2, q4, q5⟩ := HSK.out _ hC; go_simp; first | done | with_reducible rfl | exact ⟨rfl, hC⟩)
    clear hK K
    simp only [Act.put, List.setIfInBounds_toArray, List.set_cons_zero, List.set_cons_succ]
    refine BigFrame.wpQuiet_want (by rfl) fun K hK => ⟨?_, fun w' hC => ?_, hK _ ?_⟩
    rotate_left
    · (obtain ⟨q2, q4, q5⟩ := HSK.out _ hC; go_simp; first | done | with_reducible rfl | exact ⟨rfl, hC⟩)
    clear hK K
    simp only [Act.put, List.setIfInBounds_toArray, List.set_cons_zero, List.set_cons_succ]
    refine BigFrame.wpQuiet_want (by rfl) fun K hK => ⟨?_, fun w' hC => ?_, hK _ ?_⟩
    rotate_left
    · (obtain ⟨q2, q4, q5⟩ := HSK.out _ hC; go_simp; first | done | with_reducible rfl | exact ⟨rfl, hC⟩)
    clear hK K
    simp only [Act.put, List.setIfInBounds_toArray, List.set_cons_zero, List.set_cons_succ]
    refine BigFrame.wpQuiet_want (by rfl) fun K hK => ⟨?_, fun w' hC => ?_, hK _ ?_⟩
    rotate_left
    · (obtain ⟨q2, q4, q5⟩ := HSK.out _ hC; go_simp; first | done | with_reducible rfl | exact ⟨rfl, hC⟩)
    clear hK K
    simp only [Act.put, List.setIfInBounds_toArray, List.set_cons_zero, List.set_cons_succ]
    refine BigFrame.wpQuiet_want (by rfl) fun K hK => ⟨.int .i64 (r : Int), fun w' hC => (by go_simp; refine (HMV.out w').mono ?_; rintro e w2 ⟨rfl, hb⟩; exact ⟨rfl, hC.trans hb⟩), hK _ ?_⟩
    clear hK K
    simp only [Act.put, List.setIfInBounds_toArray, List.set_cons_zero, List.set_cons_succ]
    refine BigFrame.wpQuiet_want (by rfl) fun K hK => ⟨?_, fun w' hC => ?_, hK _ ?_⟩
    rotate_left
    · (obtain ⟨q2, q4, q5⟩ := HSK.out _ hC; go_simp; first | done | with_reducible rfl | exact ⟨rfl, hC⟩)
    clear hK K
    simp only [Act.put, List.setIfInBounds_toArray, List.set_cons_zero, List.set_cons_succ]
    refine BigFrame.wpQuiet_want (by rfl) fun K hK => ⟨.int .i64 ((k0 + r : Nat) : Int), fun w' hC => (by go_simp; refine (HPO.out w').mono ?_; rintro e w2 ⟨rfl, hb⟩; exact ⟨rfl, hC.trans hb⟩), hK _ ?_⟩
    clear hK K
    simp only [Act.put, List.setIfInBounds_toArray, List.set_cons_zero, List.set_cons_succ]
    refine BigFrame.wpQuiet_want (by rfl) fun K hK => ⟨?_, fun w' hC => ?_, hK _ ?_⟩
    rotate_left
    · (obtain ⟨q2, q4, q5⟩ := HSK.out _ hC; go_simp; first | done | with_reducible rfl | exact ⟨rfl, hC⟩)
    clear hK K
    simp only [Act.put, List.setIfInBounds_toArray, List.set_cons_zero, List.set_cons_succ]
    refine BigFrame.wpQuiet_want (by rfl) fun K hK => ⟨?_, fun w' hC => ?_, hK _ ?_⟩
    rotate_left
    · (obtain ⟨q2, q4, q5⟩ := HSK.out _ hC; go_simp; first | done | with_reducible rfl | exact ⟨rfl, hC⟩)
    clear hK K
    simp only [Act.put, List.setIfInBounds_toArray, List.set_cons_zero, List.set_cons_succ]
    refine wpQuiet_nil ?_
    intro w2 hC2
    have HC2 := Lib.hid hC2
    clear hC2
    go_wp2_with fail
    go_ret2
    exact ⟨by rw [HQ.out.1, HQ.out.2, HV.out]; rfl, HE1.out.trans ((Ex.refl W3).drew.trans HC2.out)⟩
  · have HQ : Hid (qPairInverse0 t0 m1 t1 m2 = 0 ∧ qPairInverse1 t0 m1 t1 m2 = prC t0 m1 t1 [m2]) := Lib.hid ⟨by rw [qPairInverse0, if_neg hg], rfl⟩
    obtain ⟨z, hz⟩ : ∃ z, prC t0 m1 t1 [m2] = z := ⟨_, rfl⟩
    rw [hz] at HC HQ hg
    have hzb : (z != 0) = true := by simpa using hg
    clear hR hX hg hz
    go_enter Try.func34, Try.ntmps34
    go_wp2_with fail
    generalize (((w.alloc (.cells #[.slice B0 t0.length d0] 32)).alloc (.cells #[.int .i64 m1, .slice B1 t1.length d1] 34)).alloc (.cells #[.int .i64 m2] 2)) = W0 at *
    refine HC.out.mono ?_
    rintro e W1 ⟨rfl, he1⟩
    go_wp2_with fail
    go_ret2
    exact ⟨by rw [HQ.out.1, HQ.out.2]; rfl, HE0.out.trans he1⟩

end Go.Proofs.Ytfafccldngekgaa
