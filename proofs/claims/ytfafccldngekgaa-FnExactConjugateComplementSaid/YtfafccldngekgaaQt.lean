/- Products of pairs: the model's. -/
import Derived.Test.YtfafccldngekgaaPr
namespace Go.Proofs.Ytfafccldngekgaa
open Go.RowKit

set_option maxRecDepth 100000 in
set_option maxHeartbeats 4000000 in
theorem l05Times_any (B0 B1 : Option Addr) (t0 : List (List Int)) (M : Nat) (us : List Int) (d0 d1 p q : Nat) (w : World) (hR : RwsW w B0 t0) (hX : IntsW w B1 us) (hm : ModF t0 M us) (hp : p < M * t0.length) (hq : q < M * t0.length) :
    Calls Try.prog 68 #[.agg #[.slice B0 t0.length d0], .agg #[.int .i64 (M : Int), .slice B1 us.length d1], .int .i64 (p : Int), .int .i64 (q : Int)] w fun e w' => e = .returned (.int .i64 (pairV t0 M us p q : Int)) ∧ Ex w w' := by
  obtain ⟨b, o, bb, oo, C, rfl, hQ⟩ := hR.sq hm.g
  have hN8 := hm.g.n8
  have hM2 := hm.m2
  have hM12 := hm.m12
  have hK96 : M * t0.length ≤ 96 := Nat.le_trans (Nat.mul_le_mul hM12 hN8) (by omega)
  have hM0 : ¬ M = 0 := by omega
  have hxt := pair_el hp
  have hyt := pair_el hq
  have hmt : p % M < M := Nat.mod_lt _ (by omega)
  have hnt : q % M < M := Nat.mod_lt _ (by omega)
  have hxu : p / M < us.length := by rw [hm.len]; exact hxt
  obtain ⟨bx, ox, rfl, hbx, hcx⟩ := hX.ints.at_ hxu
  obtain ⟨hie, hi12⟩ := im_eq hm.rng hxu
  rw [hie] at hcx
  have hzl := hm.g.mul_lt hxt hyt
  have e0 : Ex w ((w.alloc (.cells #[.slice (some ⟨b, o, none⟩) t0.length d0] 32)).alloc (.cells #[.int .i64 (M : Int), .slice (some ⟨bx, ox, none⟩) us.length d1] 34)) := ((Ex.refl w).alloc _).alloc _
  have b0 : Has ((w.alloc (.cells #[.slice (some ⟨b, o, none⟩) t0.length d0] 32)).alloc (.cells #[.int .i64 (M : Int), .slice (some ⟨bx, ox, none⟩) us.length d1] 34)) (w.heap.size) 32 #[.slice (some ⟨b, o, none⟩) t0.length d0] := ((Has.newAt (w := w) (e := 32) (cs := #[.slice (some ⟨b, o, none⟩) t0.length d0]) (k := w.heap.size) (by simp)).alloc _)
  have b1 : Has ((w.alloc (.cells #[.slice (some ⟨b, o, none⟩) t0.length d0] 32)).alloc (.cells #[.int .i64 (M : Int), .slice (some ⟨bx, ox, none⟩) us.length d1] 34)) (w.heap.size + 1) 34 #[.int .i64 (M : Int), .slice (some ⟨bx, ox, none⟩) us.length d1] := (Has.newAt (w := (w.alloc (.cells #[.slice (some ⟨b, o, none⟩) t0.length d0] 32))) (e := 34) (cs := #[.int .i64 (M : Int), .slice (some ⟨bx, ox, none⟩) us.length d1]) (k := w.heap.size + 1) (by simp))
  have HRW := Lib.hid (fun W' (he : Ex w W') => And.intro ((hQ.ex he).row_ hxt) ((hQ.ex he).mul_ hm.g hxt hyt))
  have HE0 := Lib.hid e0
  have HV : Hid (pairV t0 M us p q = M * mul t0 (p / M) (q / M) + (p % M + im us (p / M) * (q % M)) % M) := Lib.hid rfl
  obtain ⟨x, hx⟩ : ∃ x, p / M = x := ⟨_, rfl⟩
  obtain ⟨m, hmm⟩ : ∃ m, p % M = m := ⟨_, rfl⟩
  obtain ⟨y, hy⟩ : ∃ y, q / M = y := ⟨_, rfl⟩
  obtain ⟨n, hn⟩ : ∃ n, q % M = n := ⟨_, rfl⟩
  have htx : Int.tdiv (p : Int) (M : Int) = (x : Int) := by rw [← hx]; exact (Int.ofNat_tdiv p M).symm
  have hwtx : IntKind.i64.wrap (x : Int) = (x : Int) := IntWalk.i64_in _ (by rw [← hx]; omega)
  have htm : Int.tmod (p : Int) (M : Int) = (m : Int) := by rw [← hmm]; exact tmod_nat p M
  have hty : Int.tdiv (q : Int) (M : Int) = (y : Int) := by rw [← hy]; exact (Int.ofNat_tdiv q M).symm
  have hwty : IntKind.i64.wrap (y : Int) = (y : Int) := IntWalk.i64_in _ (by rw [← hy]; omega)
  have htn : Int.tmod (q : Int) (M : Int) = (n : Int) := by rw [← hn]; exact tmod_nat q M
  have hwx : IntKind.i64.wrap ((p : Int) / (M : Int)) = (x : Int) := by rw [← hx, ← Int.natCast_ediv, IntWalk.i64_in _ (by rw [hx]; omega)]
  have hwm : IntKind.i64.wrap ((p : Int) % (M : Int)) = (m : Int) := by rw [← hmm, ← Int.natCast_emod, IntWalk.i64_in _ (by rw [hmm]; omega)]
  have hwy : IntKind.i64.wrap ((q : Int) / (M : Int)) = (y : Int) := by rw [← hy, ← Int.natCast_ediv, IntWalk.i64_in _ (by rw [hy]; omega)]
  have hwn : IntKind.i64.wrap ((q : Int) % (M : Int)) = (n : Int) := by rw [← hn, ← Int.natCast_emod, IntWalk.i64_in _ (by rw [hn]; omega)]
  rw [hx, hmm, hy, hn] at HV
  simp only [hx, hy] at HRW hzl hxt hyt hxu hcx hi12
  rw [hmm] at hmt
  rw [hn] at hnt
  obtain ⟨u, hu⟩ : ∃ u, im us x = u := ⟨_, rfl⟩
  rw [hu] at hcx hi12 HV
  obtain ⟨z, hz⟩ : ∃ z, mul t0 x y = z := ⟨_, rfl⟩
  rw [hz] at HV hzl
  simp only [hz] at HRW
  obtain ⟨z0, hz0⟩ : ∃ z0, u * n = z0 := ⟨_, rfl⟩
  have hz132 : z0 ≤ 144 := by rw [← hz0]; exact Nat.le_trans (Nat.mul_le_mul (show u ≤ 12 by omega) (show n ≤ 12 by omega)) (by omega)
  have hpz : (u : Int) * (n : Int) = (z0 : Int) := by rw [← hz0]; simp
  obtain ⟨k0, hk0⟩ : ∃ k0, M * z = k0 := ⟨_, rfl⟩
  have hk96 : k0 ≤ 96 := by rw [← hk0]; exact Nat.le_trans (Nat.mul_le_mul_left _ (Nat.le_of_lt hzl)) hK96
  have hpk : (z : Int) * (M : Int) = (k0 : Int) := by rw [← hk0, Int.mul_comm]; simp
  rw [hz0, hk0] at HV
  obtain ⟨v, hv⟩ : ∃ v, (m + z0) % M = v := ⟨_, rfl⟩
  have hvM : v < M := by rw [← hv]; exact Nat.mod_lt _ (by omega)
  have HMV := Lib.hid (fun W => (show ((m : Int) + (z0 : Int)) % (M : Int) = (v : Int) by rw [← hv]; simp) ▸ l01Mod_ex ((m : Int) + (z0 : Int)) M W (by omega) hM12 (by omega) (by omega))
  rw [hv] at HV
  have hw1 : IntKind.i64.wrap (z0 : Int) = (z0 : Int) := IntWalk.i64_in _ (by omega)
  have hw2 : IntKind.i64.wrap ((m : Int) + (z0 : Int)) = (m : Int) + (z0 : Int) := IntWalk.i64_in _ (by omega)
  have hw3 : IntKind.i64.wrap (k0 : Int) = (k0 : Int) := IntWalk.i64_in _ (by omega)
  have hw4 : IntKind.i64.wrap ((k0 : Int) + (v : Int)) = ((k0 + v : Nat) : Int) := by rw [IntWalk.i64_in _ (by omega)]; simp
  have HCX := Lib.hid hcx
  clear hR hX hm hQ hx hmm hy hn hu hz hz0 hk0 hv hie hcx hp hq hK96
  go_enter Try.func68, Try.ntmps68
  go_wp2_with fail
  generalize ((w.alloc (.cells #[.slice (some ⟨b, o, none⟩) t0.length d0] 32)).alloc (.cells #[.int .i64 (M : Int), .slice (some ⟨bx, ox, none⟩) us.length d1] 34)) = W0 at *
  have HSK := Lib.hid (fun (W' : World) (hb : Ex W0 W') => And.intro (HRW.out W' (HE0.out.trans hb)) (And.intro ((HE0.out.trans hb).below.cell (p := ⟨bx, ox + x, none⟩) hbx |>.trans HCX.out) (And.intro ((b0.ex hb).cell 0) (And.intro ((b1.ex hb).cell 0) ((b1.ex hb).cell 1)))))
  clear b0 b1 e0
  refine wp_region_quiet (C := fun w' => Ex W0 w') (by kernel_rfl) (by kernel_rfl) (Ex.refl W0).drew ?_
  refine BigFrame.wpQuiet_want (by rfl) fun K hK => ⟨?_, fun w' hC => ?_, hK _ ?_⟩
  rotate_left
  · (obtain ⟨⟨q0, q1⟩, q2, q3, q4, q5⟩ := HSK.out _ hC; go_simp; first | done | with_reducible rfl | exact ⟨rfl, hC⟩)
  clear hK K
  simp only [Act.put, List.setIfInBounds_toArray, List.set_cons_zero, List.set_cons_succ]
  refine BigFrame.wpQuiet_want (by rfl) fun K hK => ⟨?_, fun w' hC => ?_, hK _ ?_⟩
  rotate_left
  · (obtain ⟨⟨q0, q1⟩, q2, q3, q4, q5⟩ := HSK.out _ hC; go_simp; first | done | with_reducible rfl | exact ⟨rfl, hC⟩)
  clear hK K
  simp only [Act.put, List.setIfInBounds_toArray, List.set_cons_zero, List.set_cons_succ]
  refine BigFrame.wpQuiet_want (by rfl) fun K hK => ⟨?_, fun w' hC => ?_, hK _ ?_⟩
  rotate_left
  · (obtain ⟨⟨q0, q1⟩, q2, q3, q4, q5⟩ := HSK.out _ hC; go_simp; first | done | with_reducible rfl | exact ⟨rfl, hC⟩)
  clear hK K
  simp only [Act.put, List.setIfInBounds_toArray, List.set_cons_zero, List.set_cons_succ]
  refine BigFrame.wpQuiet_want (by rfl) fun K hK => ⟨?_, fun w' hC => ?_, hK _ ?_⟩
  rotate_left
  · (obtain ⟨⟨q0, q1⟩, q2, q3, q4, q5⟩ := HSK.out _ hC; go_simp; first | done | with_reducible rfl | exact ⟨rfl, hC⟩)
  clear hK K
  simp only [Act.put, List.setIfInBounds_toArray, List.set_cons_zero, List.set_cons_succ]
  refine BigFrame.wpQuiet_want (by rfl) fun K hK => ⟨?_, fun w' hC => ?_, hK _ ?_⟩
  rotate_left
  · (obtain ⟨⟨q0, q1⟩, q2, q3, q4, q5⟩ := HSK.out _ hC; go_simp; first | done | with_reducible rfl | exact ⟨rfl, hC⟩)
  clear hK K
  simp only [Act.put, List.setIfInBounds_toArray, List.set_cons_zero, List.set_cons_succ]
  refine BigFrame.wpQuiet_want (by rfl) fun K hK => ⟨?_, fun w' hC => ?_, hK _ ?_⟩
  rotate_left
  · (obtain ⟨⟨q0, q1⟩, q2, q3, q4, q5⟩ := HSK.out _ hC; go_simp; first | done | with_reducible rfl | exact ⟨rfl, hC⟩)
  clear hK K
  simp only [Act.put, List.setIfInBounds_toArray, List.set_cons_zero, List.set_cons_succ]
  refine BigFrame.wpQuiet_want (by rfl) fun K hK => ⟨?_, fun w' hC => ?_, hK _ ?_⟩
  rotate_left
  · (obtain ⟨⟨q0, q1⟩, q2, q3, q4, q5⟩ := HSK.out _ hC; go_simp; first | done | with_reducible rfl | exact ⟨rfl, hC⟩)
  clear hK K
  simp only [Act.put, List.setIfInBounds_toArray, List.set_cons_zero, List.set_cons_succ]
  refine BigFrame.wpQuiet_want (by rfl) fun K hK => ⟨?_, fun w' hC => ?_, hK _ ?_⟩
  rotate_left
  · (obtain ⟨⟨q0, q1⟩, q2, q3, q4, q5⟩ := HSK.out _ hC; go_simp; first | done | with_reducible rfl | exact ⟨rfl, hC⟩)
  clear hK K
  simp only [Act.put, List.setIfInBounds_toArray, List.set_cons_zero, List.set_cons_succ]
  refine BigFrame.wpQuiet_want (by rfl) fun K hK => ⟨?_, fun w' hC => ?_, hK _ ?_⟩
  rotate_left
  · (obtain ⟨⟨q0, q1⟩, q2, q3, q4, q5⟩ := HSK.out _ hC; go_simp; first | done | with_reducible rfl | exact ⟨rfl, hC⟩)
  clear hK K
  simp only [Act.put, List.setIfInBounds_toArray, List.set_cons_zero, List.set_cons_succ]
  refine BigFrame.wpQuiet_want (by rfl) fun K hK => ⟨?_, fun w' hC => ?_, hK _ ?_⟩
  rotate_left
  · (obtain ⟨⟨q0, q1⟩, q2, q3, q4, q5⟩ := HSK.out _ hC; go_simp; first | done | with_reducible rfl | exact ⟨rfl, hC⟩)
  clear hK K
  simp only [Act.put, List.setIfInBounds_toArray, List.set_cons_zero, List.set_cons_succ]
  refine BigFrame.wpQuiet_want (by rfl) fun K hK => ⟨?_, fun w' hC => ?_, hK _ ?_⟩
  rotate_left
  · (obtain ⟨⟨q0, q1⟩, q2, q3, q4, q5⟩ := HSK.out _ hC; go_simp; first | done | with_reducible rfl | exact ⟨rfl, hC⟩)
  clear hK K
  simp only [Act.put, List.setIfInBounds_toArray, List.set_cons_zero, List.set_cons_succ]
  refine BigFrame.wpQuiet_want (by rfl) fun K hK => ⟨?_, fun w' hC => ?_, hK _ ?_⟩
  rotate_left
  · (obtain ⟨⟨q0, q1⟩, q2, q3, q4, q5⟩ := HSK.out _ hC; go_simp; first | done | with_reducible rfl | exact ⟨rfl, hC⟩)
  clear hK K
  simp only [Act.put, List.setIfInBounds_toArray, List.set_cons_zero, List.set_cons_succ]
  refine BigFrame.wpQuiet_want (by rfl) fun K hK => ⟨?_, fun w' hC => ?_, hK _ ?_⟩
  rotate_left
  · (obtain ⟨⟨q0, q1⟩, q2, q3, q4, q5⟩ := HSK.out _ hC; go_simp; first | done | with_reducible rfl | exact ⟨rfl, hC⟩)
  clear hK K
  simp only [Act.put, List.setIfInBounds_toArray, List.set_cons_zero, List.set_cons_succ]
  refine BigFrame.wpQuiet_want (by rfl) fun K hK => ⟨?_, fun w' hC => ?_, hK _ ?_⟩
  rotate_left
  · (obtain ⟨⟨q0, q1⟩, q2, q3, q4, q5⟩ := HSK.out _ hC; go_simp; first | done | with_reducible rfl | exact ⟨rfl, hC⟩)
  clear hK K
  simp only [Act.put, List.setIfInBounds_toArray, List.set_cons_zero, List.set_cons_succ]
  refine BigFrame.wpQuiet_want (by rfl) fun K hK => ⟨?_, fun w' hC => ?_, hK _ ?_⟩
  rotate_left
  · (obtain ⟨⟨q0, q1⟩, q2, q3, q4, q5⟩ := HSK.out _ hC; go_simp; first | done | with_reducible rfl | exact ⟨rfl, hC⟩)
  clear hK K
  simp only [Act.put, List.setIfInBounds_toArray, List.set_cons_zero, List.set_cons_succ]
  refine BigFrame.wpQuiet_want (by rfl) fun K hK => ⟨?_, fun w' hC => ?_, hK _ ?_⟩
  rotate_left
  · (obtain ⟨⟨q0, q1⟩, q2, q3, q4, q5⟩ := HSK.out _ hC; go_simp; first | done | with_reducible rfl | exact ⟨rfl, hC⟩)
  clear hK K
  simp only [Act.put, List.setIfInBounds_toArray, List.set_cons_zero, List.set_cons_succ]
  refine BigFrame.wpQuiet_want (by rfl) fun K hK => ⟨?_, fun w' hC => ?_, hK _ ?_⟩
  rotate_left
  · (obtain ⟨⟨q0, q1⟩, q2, q3, q4, q5⟩ := HSK.out _ hC; go_simp; first | done | with_reducible rfl | exact ⟨rfl, hC⟩)
  clear hK K
  simp only [Act.put, List.setIfInBounds_toArray, List.set_cons_zero, List.set_cons_succ]
  refine BigFrame.wpQuiet_want (by rfl) fun K hK => ⟨?_, fun w' hC => ?_, hK _ ?_⟩
  rotate_left
  · (obtain ⟨⟨q0, q1⟩, q2, q3, q4, q5⟩ := HSK.out _ hC; go_simp; first | done | with_reducible rfl | exact ⟨rfl, hC⟩)
  clear hK K
  simp only [Act.put, List.setIfInBounds_toArray, List.set_cons_zero, List.set_cons_succ]
  refine BigFrame.wpQuiet_want (by rfl) fun K hK => ⟨?_, fun w' hC => ?_, hK _ ?_⟩
  rotate_left
  · (obtain ⟨⟨q0, q1⟩, q2, q3, q4, q5⟩ := HSK.out _ hC; go_simp; first | done | with_reducible rfl | exact ⟨rfl, hC⟩)
  clear hK K
  simp only [Act.put, List.setIfInBounds_toArray, List.set_cons_zero, List.set_cons_succ]
  refine BigFrame.wpQuiet_want (by rfl) fun K hK => ⟨?_, fun w' hC => ?_, hK _ ?_⟩
  rotate_left
  · (obtain ⟨⟨q0, q1⟩, q2, q3, q4, q5⟩ := HSK.out _ hC; go_simp; first | done | with_reducible rfl | exact ⟨rfl, hC⟩)
  clear hK K
  simp only [Act.put, List.setIfInBounds_toArray, List.set_cons_zero, List.set_cons_succ]
  refine wpQuiet_nil ?_
  intro w2 hC2
  have HC2 := Lib.hid hC2
  clear hC2
  go_wp2_with fail
  have HSK2 := Lib.hid (fun (W' : World) (hb : Ex w2.drew W') => HSK.out W' (HC2.out.drew.trans hb))
  refine wp_region_quiet (C := fun w' => Ex w2.drew w') (by kernel_rfl) (by kernel_rfl) (Ex.refl _) ?_
  refine BigFrame.wpQuiet_want (by rfl) fun K hK => ⟨?_, fun w' hC => ?_, hK _ ?_⟩
  rotate_left
  · (obtain ⟨⟨q0, q1⟩, q2, q3, q4, q5⟩ := HSK2.out _ hC; go_simp; first | done | with_reducible rfl | exact ⟨rfl, hC⟩)
  clear hK K
  simp only [Act.put, List.setIfInBounds_toArray, List.set_cons_zero, List.set_cons_succ]
  refine BigFrame.wpQuiet_want (by rfl) fun K hK => ⟨?_, fun w' hC => ?_, hK _ ?_⟩
  rotate_left
  · (obtain ⟨⟨q0, q1⟩, q2, q3, q4, q5⟩ := HSK2.out _ hC; go_simp; first | done | with_reducible rfl | exact ⟨rfl, hC⟩)
  clear hK K
  simp only [Act.put, List.setIfInBounds_toArray, List.set_cons_zero, List.set_cons_succ]
  refine BigFrame.wpQuiet_want (by rfl) fun K hK => ⟨?_, fun w' hC => ?_, hK _ ?_⟩
  rotate_left
  · (obtain ⟨⟨q0, q1⟩, q2, q3, q4, q5⟩ := HSK2.out _ hC; go_simp; first | done | with_reducible rfl | exact ⟨rfl, hC⟩)
  clear hK K
  simp only [Act.put, List.setIfInBounds_toArray, List.set_cons_zero, List.set_cons_succ]
  refine BigFrame.wpQuiet_want (by rfl) fun K hK => ⟨?_, fun w' hC => ?_, hK _ ?_⟩
  rotate_left
  · (obtain ⟨⟨q0, q1⟩, q2, q3, q4, q5⟩ := HSK2.out _ hC; go_simp; first | done | with_reducible rfl | exact ⟨rfl, hC⟩)
  clear hK K
  simp only [Act.put, List.setIfInBounds_toArray, List.set_cons_zero, List.set_cons_succ]
  refine BigFrame.wpQuiet_want (by rfl) fun K hK => ⟨?_, fun w' hC => ?_, hK _ ?_⟩
  rotate_left
  · (obtain ⟨⟨q0, q1⟩, q2, q3, q4, q5⟩ := HSK2.out _ hC; go_simp; first | done | with_reducible rfl | exact ⟨rfl, hC⟩)
  clear hK K
  simp only [Act.put, List.setIfInBounds_toArray, List.set_cons_zero, List.set_cons_succ]
  refine BigFrame.wpQuiet_want (by rfl) fun K hK => ⟨?_, fun w' hC => ?_, hK _ ?_⟩
  rotate_left
  · (obtain ⟨⟨q0, q1⟩, q2, q3, q4, q5⟩ := HSK2.out _ hC; go_simp; first | done | with_reducible rfl | exact ⟨rfl, hC⟩)
  clear hK K
  simp only [Act.put, List.setIfInBounds_toArray, List.set_cons_zero, List.set_cons_succ]
  refine BigFrame.wpQuiet_want (by rfl) fun K hK => ⟨?_, fun w' hC => ?_, hK _ ?_⟩
  rotate_left
  · (obtain ⟨⟨q0, q1⟩, q2, q3, q4, q5⟩ := HSK2.out _ hC; go_simp; first | done | with_reducible rfl | exact ⟨rfl, hC⟩)
  clear hK K
  simp only [Act.put, List.setIfInBounds_toArray, List.set_cons_zero, List.set_cons_succ]
  refine BigFrame.wpQuiet_want (by rfl) fun K hK => ⟨?_, fun w' hC => ?_, hK _ ?_⟩
  rotate_left
  · (obtain ⟨⟨q0, q1⟩, q2, q3, q4, q5⟩ := HSK2.out _ hC; go_simp; first | done | with_reducible rfl | exact ⟨rfl, hC⟩)
  clear hK K
  simp only [Act.put, List.setIfInBounds_toArray, List.set_cons_zero, List.set_cons_succ]
  refine BigFrame.wpQuiet_want (by rfl) fun K hK => ⟨?_, fun w' hC => ?_, hK _ ?_⟩
  rotate_left
  · (obtain ⟨⟨q0, q1⟩, q2, q3, q4, q5⟩ := HSK2.out _ hC; go_simp; first | done | with_reducible rfl | exact ⟨rfl, hC⟩)
  clear hK K
  simp only [Act.put, List.setIfInBounds_toArray, List.set_cons_zero, List.set_cons_succ]
  refine BigFrame.wpQuiet_want (by rfl) fun K hK => ⟨?_, fun w' hC => ?_, hK _ ?_⟩
  rotate_left
  · (obtain ⟨⟨q0, q1⟩, q2, q3, q4, q5⟩ := HSK2.out _ hC; go_simp; first | done | with_reducible rfl | exact ⟨rfl, hC⟩)
  clear hK K
  simp only [Act.put, List.setIfInBounds_toArray, List.set_cons_zero, List.set_cons_succ]
  refine BigFrame.wpQuiet_want (by rfl) fun K hK => ⟨?_, fun w' hC => ?_, hK _ ?_⟩
  rotate_left
  · (obtain ⟨⟨q0, q1⟩, q2, q3, q4, q5⟩ := HSK2.out _ hC; go_simp; first | done | with_reducible rfl | exact ⟨rfl, hC⟩)
  clear hK K
  simp only [Act.put, List.setIfInBounds_toArray, List.set_cons_zero, List.set_cons_succ]
  refine BigFrame.wpQuiet_want (by rfl) fun K hK => ⟨?_, fun w' hC => ?_, hK _ ?_⟩
  rotate_left
  · (obtain ⟨⟨q0, q1⟩, q2, q3, q4, q5⟩ := HSK2.out _ hC; go_simp; first | done | with_reducible rfl | exact ⟨rfl, hC⟩)
  clear hK K
  simp only [Act.put, List.setIfInBounds_toArray, List.set_cons_zero, List.set_cons_succ]
  refine BigFrame.wpQuiet_want (by rfl) fun K hK => ⟨?_, fun w' hC => ?_, hK _ ?_⟩
  rotate_left
  · (obtain ⟨⟨q0, q1⟩, q2, q3, q4, q5⟩ := HSK2.out _ hC; go_simp; first | done | with_reducible rfl | exact ⟨rfl, hC⟩)
  clear hK K
  simp only [Act.put, List.setIfInBounds_toArray, List.set_cons_zero, List.set_cons_succ]
  refine BigFrame.wpQuiet_want (by rfl) fun K hK => ⟨?_, fun w' hC => ?_, hK _ ?_⟩
  rotate_left
  · (obtain ⟨⟨q0, q1⟩, q2, q3, q4, q5⟩ := HSK2.out _ hC; go_simp; first | done | with_reducible rfl | exact ⟨rfl, hC⟩)
  clear hK K
  simp only [Act.put, List.setIfInBounds_toArray, List.set_cons_zero, List.set_cons_succ]
  refine BigFrame.wpQuiet_want (by rfl) fun K hK => ⟨?_, fun w' hC => ?_, hK _ ?_⟩
  rotate_left
  · (obtain ⟨⟨q0, q1⟩, q2, q3, q4, q5⟩ := HSK2.out _ hC; go_simp; first | done | with_reducible rfl | exact ⟨rfl, hC⟩)
  clear hK K
  simp only [Act.put, List.setIfInBounds_toArray, List.set_cons_zero, List.set_cons_succ]
  refine BigFrame.wpQuiet_want (by rfl) fun K hK => ⟨?_, fun w' hC => ?_, hK _ ?_⟩
  rotate_left
  · (obtain ⟨⟨q0, q1⟩, q2, q3, q4, q5⟩ := HSK2.out _ hC; go_simp; first | done | with_reducible rfl | exact ⟨rfl, hC⟩)
  clear hK K
  simp only [Act.put, List.setIfInBounds_toArray, List.set_cons_zero, List.set_cons_succ]
  refine BigFrame.wpQuiet_want (by rfl) fun K hK => ⟨?_, fun w' hC => ?_, hK _ ?_⟩
  rotate_left
  · (obtain ⟨⟨q0, q1⟩, q2, q3, q4, q5⟩ := HSK2.out _ hC; go_simp; first | done | with_reducible rfl | exact ⟨rfl, hC⟩)
  clear hK K
  simp only [Act.put, List.setIfInBounds_toArray, List.set_cons_zero, List.set_cons_succ]
  refine BigFrame.wpQuiet_want (by rfl) fun K hK => ⟨?_, fun w' hC => ?_, hK _ ?_⟩
  rotate_left
  · (obtain ⟨⟨q0, q1⟩, q2, q3, q4, q5⟩ := HSK2.out _ hC; go_simp; first | done | with_reducible rfl | exact ⟨rfl, hC⟩)
  clear hK K
  simp only [Act.put, List.setIfInBounds_toArray, List.set_cons_zero, List.set_cons_succ]
  refine BigFrame.wpQuiet_want (by rfl) fun K hK => ⟨?_, fun w' hC => ?_, hK _ ?_⟩
  rotate_left
  · (obtain ⟨⟨q0, q1⟩, q2, q3, q4, q5⟩ := HSK2.out _ hC; go_simp; first | done | with_reducible rfl | exact ⟨rfl, hC⟩)
  clear hK K
  simp only [Act.put, List.setIfInBounds_toArray, List.set_cons_zero, List.set_cons_succ]
  refine BigFrame.wpQuiet_want (by rfl) fun K hK => ⟨?_, fun w' hC => ?_, hK _ ?_⟩
  rotate_left
  · (obtain ⟨⟨q0, q1⟩, q2, q3, q4, q5⟩ := HSK2.out _ hC; go_simp; first | done | with_reducible rfl | exact ⟨rfl, hC⟩)
  clear hK K
  simp only [Act.put, List.setIfInBounds_toArray, List.set_cons_zero, List.set_cons_succ]
  refine BigFrame.wpQuiet_want (by rfl) fun K hK => ⟨?_, fun w' hC => ?_, hK _ ?_⟩
  rotate_left
  · (obtain ⟨⟨q0, q1⟩, q2, q3, q4, q5⟩ := HSK2.out _ hC; go_simp; first | done | with_reducible rfl | exact ⟨rfl, hC⟩)
  clear hK K
  simp only [Act.put, List.setIfInBounds_toArray, List.set_cons_zero, List.set_cons_succ]
  refine BigFrame.wpQuiet_want (by rfl) fun K hK => ⟨?_, fun w' hC => ?_, hK _ ?_⟩
  rotate_left
  · (obtain ⟨⟨q0, q1⟩, q2, q3, q4, q5⟩ := HSK2.out _ hC; go_simp; first | done | with_reducible rfl | exact ⟨rfl, hC⟩)
  clear hK K
  simp only [Act.put, List.setIfInBounds_toArray, List.set_cons_zero, List.set_cons_succ]
  refine BigFrame.wpQuiet_want (by rfl) fun K hK => ⟨.int .i64 (v : Int), fun w' hC => (by go_simp; refine (HMV.out w').mono ?_; rintro e w2 ⟨rfl, hb⟩; exact ⟨rfl, hC.trans hb⟩), hK _ ?_⟩
  clear hK K
  simp only [Act.put, List.setIfInBounds_toArray, List.set_cons_zero, List.set_cons_succ]
  refine BigFrame.wpQuiet_want (by rfl) fun K hK => ⟨?_, fun w' hC => ?_, hK _ ?_⟩
  rotate_left
  · (obtain ⟨⟨q0, q1⟩, q2, q3, q4, q5⟩ := HSK2.out _ hC; go_simp; first | done | with_reducible rfl | exact ⟨rfl, hC⟩)
  clear hK K
  simp only [Act.put, List.setIfInBounds_toArray, List.set_cons_zero, List.set_cons_succ]
  refine BigFrame.wpQuiet_want (by rfl) fun K hK => ⟨?_, fun w' hC => ?_, hK _ ?_⟩
  rotate_left
  · (obtain ⟨⟨q0, q1⟩, q2, q3, q4, q5⟩ := HSK2.out _ hC; go_simp; first | done | with_reducible rfl | exact ⟨rfl, hC⟩)
  clear hK K
  simp only [Act.put, List.setIfInBounds_toArray, List.set_cons_zero, List.set_cons_succ]
  have HC0 := Lib.hid HC2.out.drew
  clear HC2
  refine wpQuiet_nil ?_
  intro w2 hC2
  have HC2 := Lib.hid hC2
  clear hC2
  go_wp2_with fail
  go_ret
  exact ⟨by rw [HV.out]; rfl, HE0.out.trans (HC0.out.trans HC2.out)⟩

end Go.Proofs.Ytfafccldngekgaa
