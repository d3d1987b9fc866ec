/- Pairs: the program's side. -/
import Derived.Test.YtenenlpfpkdplaaDoorPr
namespace Go.Proofs.YtenenlpfpkdplaaDoor
open Go.RowKit

set_option maxRecDepth 100000 in
set_option maxHeartbeats 1000000 in
theorem pairOf_any (B1 : Option Addr) (M n d1 m x : Nat) (w : World) (hM12 : M ≤ 12) (hx : x ≤ 12) (hm : m ≤ 12) :
    Calls Tryd.prog 108 #[.agg #[.int .i64 (M : Int), .slice B1 n d1], .int .i64 (m : Int), .int .i64 (x : Int)] w fun e w' => e = .returned (.int .i64 ((M * x + m : Nat) : Int)) ∧ Ex w w' := by
  have e0 : Ex w (w.alloc (.cells #[.int .i64 (M : Int), .slice B1 n d1] 37)) := (Ex.refl w).alloc _
  have b1 : Has (w.alloc (.cells #[.int .i64 (M : Int), .slice B1 n d1] 37)) (w.heap.size) 37 #[.int .i64 (M : Int), .slice B1 n d1] := (Has.newAt (w := w) (e := 37) (cs := #[.int .i64 (M : Int), .slice B1 n d1]) (k := w.heap.size) (by simp))
  have HE0 := Lib.hid e0
  have c1 := b1.cell 0
  obtain ⟨k0, hk0⟩ : ∃ k0, M * x = k0 := ⟨_, rfl⟩
  have hk : k0 ≤ 144 := by rw [← hk0]; exact Nat.le_trans (Nat.mul_le_mul hM12 hx) (by omega)
  have hpk : (M : Int) * (x : Int) = (k0 : Int) := by rw [← hk0]; simp
  have hw3 : IntKind.i64.wrap (k0 : Int) = (k0 : Int) := IntWalk.i64_in _ (by omega)
  have hw4 : IntKind.i64.wrap ((k0 : Int) + (m : Int)) = ((k0 + m : Nat) : Int) := by rw [IntWalk.i64_in _ (by omega)]; simp
  rw [hk0]
  clear hk0 b1 e0
  go_enter Tryd.func108, Tryd.ntmps108
  go_wp2_with fail
  go_ret
  exact ⟨rfl, HE0.out⟩

set_option maxRecDepth 100000 in
set_option maxHeartbeats 1000000 in
theorem partsOf_any (B1 : Option Addr) (M n d1 p : Nat) (w : World) (hM2 : 2 ≤ M) (hM12 : M ≤ 12) (hp : p ≤ 96) :
    Calls Tryd.prog 158 #[.agg #[.int .i64 (M : Int), .slice B1 n d1], .int .i64 (p : Int)] w fun e w' => e = .returned (.tuple #[.int .i64 ((p % M : Nat) : Int), .int .i64 ((p / M : Nat) : Int)]) ∧ Ex w w' := by
  have e0 : Ex w (w.alloc (.cells #[.int .i64 (M : Int), .slice B1 n d1] 37)) := (Ex.refl w).alloc _
  have b1 : Has (w.alloc (.cells #[.int .i64 (M : Int), .slice B1 n d1] 37)) (w.heap.size) 37 #[.int .i64 (M : Int), .slice B1 n d1] := (Has.newAt (w := w) (e := 37) (cs := #[.int .i64 (M : Int), .slice B1 n d1]) (k := w.heap.size) (by simp))
  have HE0 := Lib.hid e0
  have hM0 : ¬ M = 0 := by omega
  have hmt : p % M < M := Nat.mod_lt _ (by omega)
  have hxt : p / M ≤ p := Nat.div_le_self _ _
  obtain ⟨x, hx⟩ : ∃ x, p / M = x := ⟨_, rfl⟩
  obtain ⟨m, hmm⟩ : ∃ m, p % M = m := ⟨_, rfl⟩
  have htx : Int.tdiv (p : Int) (M : Int) = (x : Int) := by rw [← hx]; exact (Int.ofNat_tdiv p M).symm
  have hwtx : IntKind.i64.wrap (x : Int) = (x : Int) := IntWalk.i64_in _ (by rw [← hx]; omega)
  have htm : Int.tmod (p : Int) (M : Int) = (m : Int) := by rw [← hmm]; exact tmod_nat p M
  have hwx : IntKind.i64.wrap ((p : Int) / (M : Int)) = (x : Int) := by rw [← hx, ← Int.natCast_ediv, IntWalk.i64_in _ (by rw [hx]; omega)]
  have hwm : IntKind.i64.wrap ((p : Int) % (M : Int)) = (m : Int) := by rw [← hmm, ← Int.natCast_emod, IntWalk.i64_in _ (by rw [hmm]; omega)]
  rw [hx, hmm]
  clear hx hmm hmt hxt
  go_enter Tryd.func158, Tryd.ntmps158
  go_wp2_with fail
  generalize (w.alloc (.cells #[.int .i64 (M : Int), .slice B1 n d1] 37)) = W0 at *
  have HSK := Lib.hid (fun (W' : World) (hb : Ex W0 W') => (b1.ex hb).cell 0)
  clear b1 e0
  refine wp_region_quiet (C := fun w' => Ex W0 w') (by kernel_rfl) (by kernel_rfl) (Ex.refl W0).drew ?_
  refine BigFrame.wpQuiet_want (by rfl) fun K hK => ⟨?_, fun w' hC => ?_, hK _ ?_⟩
  rotate_left
  · (obtain q0 := HSK.out _ hC; go_simp; first | done | with_reducible rfl | exact ⟨rfl, hC⟩)
  clear hK K
  simp only [Act.put, List.setIfInBounds_toArray, List.set_cons_zero, List.set_cons_succ]
  refine BigFrame.wpQuiet_want (by rfl) fun K hK => ⟨?_, fun w' hC => ?_, hK _ ?_⟩
  rotate_left
  · (obtain q0 := HSK.out _ hC; go_simp; first | done | with_reducible rfl | exact ⟨rfl, hC⟩)
  clear hK K
  simp only [Act.put, List.setIfInBounds_toArray, List.set_cons_zero, List.set_cons_succ]
  refine BigFrame.wpQuiet_want (by rfl) fun K hK => ⟨?_, fun w' hC => ?_, hK _ ?_⟩
  rotate_left
  · (obtain q0 := HSK.out _ hC; go_simp; first | done | with_reducible rfl | exact ⟨rfl, hC⟩)
  clear hK K
  simp only [Act.put, List.setIfInBounds_toArray, List.set_cons_zero, List.set_cons_succ]
  refine BigFrame.wpQuiet_want (by rfl) fun K hK => ⟨?_, fun w' hC => ?_, hK _ ?_⟩
  rotate_left
  · (obtain q0 := HSK.out _ hC; go_simp; first | done | with_reducible rfl | exact ⟨rfl, hC⟩)
  clear hK K
  simp only [Act.put, List.setIfInBounds_toArray, List.set_cons_zero, List.set_cons_succ]
  refine BigFrame.wpQuiet_want (by rfl) fun K hK => ⟨?_, fun w' hC => ?_, hK _ ?_⟩
  rotate_left
  · (obtain q0 := HSK.out _ hC; go_simp; first | done | with_reducible rfl | exact ⟨rfl, hC⟩)
  clear hK K
  simp only [Act.put, List.setIfInBounds_toArray, List.set_cons_zero, List.set_cons_succ]
  refine BigFrame.wpQuiet_want (by rfl) fun K hK => ⟨?_, fun w' hC => ?_, hK _ ?_⟩
  rotate_left
  · (obtain q0 := HSK.out _ hC; go_simp; first | done | with_reducible rfl | exact ⟨rfl, hC⟩)
  clear hK K
  simp only [Act.put, List.setIfInBounds_toArray, List.set_cons_zero, List.set_cons_succ]
  refine BigFrame.wpQuiet_want (by rfl) fun K hK => ⟨?_, fun w' hC => ?_, hK _ ?_⟩
  rotate_left
  · (obtain q0 := HSK.out _ hC; go_simp; first | done | with_reducible rfl | exact ⟨rfl, hC⟩)
  clear hK K
  simp only [Act.put, List.setIfInBounds_toArray, List.set_cons_zero, List.set_cons_succ]
  refine BigFrame.wpQuiet_want (by rfl) fun K hK => ⟨?_, fun w' hC => ?_, hK _ ?_⟩
  rotate_left
  · (obtain q0 := HSK.out _ hC; go_simp; first | done | with_reducible rfl | exact ⟨rfl, hC⟩)
  clear hK K
  simp only [Act.put, List.setIfInBounds_toArray, List.set_cons_zero, List.set_cons_succ]
  refine BigFrame.wpQuiet_want (by rfl) fun K hK => ⟨?_, fun w' hC => ?_, hK _ ?_⟩
  rotate_left
  · (obtain q0 := HSK.out _ hC; go_simp; first | done | with_reducible rfl | exact ⟨rfl, hC⟩)
  clear hK K
  simp only [Act.put, List.setIfInBounds_toArray, List.set_cons_zero, List.set_cons_succ]
  refine BigFrame.wpQuiet_want (by rfl) fun K hK => ⟨?_, fun w' hC => ?_, hK _ ?_⟩
  rotate_left
  · (obtain q0 := HSK.out _ hC; go_simp; first | done | with_reducible rfl | exact ⟨rfl, hC⟩)
  clear hK K
  simp only [Act.put, List.setIfInBounds_toArray, List.set_cons_zero, List.set_cons_succ]
  refine wpQuiet_nil ?_
  intro w2 hC2
  have HC2 := Lib.hid hC2
  clear hC2
  go_wp2_with fail
  go_ret2
  exact ⟨rfl, HE0.out.trans HC2.out⟩

set_option maxRecDepth 100000 in
set_option maxHeartbeats 4000000 in
theorem pairProduct_any (B0 B1 : Option Addr) (t0 : List (List Int)) (M : Nat) (us : List Int) (d0 d1 p q : Nat) (w : World) (hR : RwsW w B0 t0) (hX : IntsW w B1 us) (hm : ModF t0 M us) (hp : p < M * t0.length) (hq : q < M * t0.length) :
    Calls Tryd.prog 159 #[.agg #[.slice B0 t0.length d0], .agg #[.int .i64 (M : Int), .slice B1 us.length d1], .int .i64 (p : Int), .int .i64 (q : Int)] w fun e w' => e = .returned (.int .i64 (pairV t0 M us p q : Int)) ∧ Ex w w' := by
  obtain ⟨b, o, bb, oo, C, rfl, hQ⟩ := hR.sq hm.g
  have hN8 := hm.g.n8
  have hM2 := hm.m2
  have hM12 := hm.m12
  have hK96 : M * t0.length ≤ 96 := Nat.le_trans (Nat.mul_le_mul hM12 hN8) (by omega)
  have hM0 : ¬ M = 0 := by omega
  have hxt := pair_el hp
  have hyt := pair_el hq
  have hmt : p % M < M := Nat.mod_lt _ (by omega)
  have hnt : q % M < M := Nat.mod_lt _ (by omega)
  have hxu : p / M < us.length := by rw [hm.len]; exact hxt
  obtain ⟨bx, ox, rfl, hbx, hcx⟩ := hX.ints.at_ hxu
  obtain ⟨hie, hi12⟩ := im_eq hm.rng hxu
  rw [hie] at hcx
  have hzl := hm.g.mul_lt hxt hyt
  have e0 : Ex w ((w.alloc (.cells #[.slice (some ⟨b, o, none⟩) t0.length d0] 35)).alloc (.cells #[.int .i64 (M : Int), .slice (some ⟨bx, ox, none⟩) us.length d1] 37)) := ((Ex.refl w).alloc _).alloc _
  have b0 : Has ((w.alloc (.cells #[.slice (some ⟨b, o, none⟩) t0.length d0] 35)).alloc (.cells #[.int .i64 (M : Int), .slice (some ⟨bx, ox, none⟩) us.length d1] 37)) (w.heap.size) 35 #[.slice (some ⟨b, o, none⟩) t0.length d0] := ((Has.newAt (w := w) (e := 35) (cs := #[.slice (some ⟨b, o, none⟩) t0.length d0]) (k := w.heap.size) (by simp)).alloc _)
  have b1 : Has ((w.alloc (.cells #[.slice (some ⟨b, o, none⟩) t0.length d0] 35)).alloc (.cells #[.int .i64 (M : Int), .slice (some ⟨bx, ox, none⟩) us.length d1] 37)) (w.heap.size + 1) 37 #[.int .i64 (M : Int), .slice (some ⟨bx, ox, none⟩) us.length d1] := (Has.newAt (w := (w.alloc (.cells #[.slice (some ⟨b, o, none⟩) t0.length d0] 35))) (e := 37) (cs := #[.int .i64 (M : Int), .slice (some ⟨bx, ox, none⟩) us.length d1]) (k := w.heap.size + 1) (by simp))
  have HRW := Lib.hid (fun W' (he : Ex w W') => And.intro ((hQ.ex he).row_ hxt) ((hQ.ex he).mul_ hm.g hxt hyt))
  have HE0 := Lib.hid e0
  have HP1 := Lib.hid (fun W => partsOf_any (some ⟨bx, ox, none⟩) M us.length d1 p W hM2 hM12 (by omega))
  have HP2 := Lib.hid (fun W => partsOf_any (some ⟨bx, ox, none⟩) M us.length d1 q W hM2 hM12 (by omega))
  have HV : Hid (pairV t0 M us p q = M * mul t0 (p / M) (q / M) + (p % M + im us (p / M) * (q % M)) % M) := Lib.hid rfl
  obtain ⟨x, hx⟩ : ∃ x, p / M = x := ⟨_, rfl⟩
  obtain ⟨m, hmm⟩ : ∃ m, p % M = m := ⟨_, rfl⟩
  obtain ⟨y, hy⟩ : ∃ y, q / M = y := ⟨_, rfl⟩
  obtain ⟨n, hn⟩ : ∃ n, q % M = n := ⟨_, rfl⟩
  rw [hx, hmm, hy, hn] at HV
  simp only [hx, hmm] at HP1
  simp only [hy, hn] at HP2
  simp only [hx, hy] at HRW hzl hxt hyt hxu hcx hi12
  rw [hmm] at hmt
  rw [hn] at hnt
  obtain ⟨u, hu⟩ : ∃ u, im us x = u := ⟨_, rfl⟩
  rw [hu] at hcx hi12 HV
  obtain ⟨z, hz⟩ : ∃ z, mul t0 x y = z := ⟨_, rfl⟩
  rw [hz] at HV hzl
  simp only [hz] at HRW
  obtain ⟨z0, hz0⟩ : ∃ z0, u * n = z0 := ⟨_, rfl⟩
  have hz144 : z0 ≤ 144 := by rw [← hz0]; exact Nat.le_trans (Nat.mul_le_mul (show u ≤ 12 by omega) (show n ≤ 12 by omega)) (by omega)
  have hpz : (u : Int) * (n : Int) = (z0 : Int) := by rw [← hz0]; simp
  rw [hz0] at HV
  obtain ⟨s0, hs0⟩ : ∃ s0, m + z0 = s0 := ⟨_, rfl⟩
  have hs156 : s0 ≤ 156 := by omega
  have hps : (m : Int) + (z0 : Int) = (s0 : Int) := by rw [← hs0]; simp
  rw [hs0] at HV
  obtain ⟨v, hv⟩ : ∃ v, s0 % M = v := ⟨_, rfl⟩
  have hvM : v < M := by rw [← hv]; exact Nat.mod_lt _ (by omega)
  rw [hv] at HV
  have htv : Int.tmod (s0 : Int) (M : Int) = (v : Int) := by rw [← hv]; exact tmod_nat s0 M
  have hwv : IntKind.i64.wrap ((s0 : Int) % (M : Int)) = (v : Int) := by rw [← hv, ← Int.natCast_emod, IntWalk.i64_in _ (by rw [hv]; omega)]
  have hw1 : IntKind.i64.wrap (z0 : Int) = (z0 : Int) := IntWalk.i64_in _ (by omega)
  have hw2 : IntKind.i64.wrap (s0 : Int) = (s0 : Int) := IntWalk.i64_in _ (by omega)
  have HPO := Lib.hid (fun W => pairOf_any (some ⟨bx, ox, none⟩) M us.length d1 v z W hM12 (by omega) (by omega))
  have HCX := Lib.hid hcx
  clear hR hX hm hQ hx hmm hy hn hu hz hz0 hs0 hv hie hcx hp hq hK96
  go_enter Tryd.func159, Tryd.ntmps159
  go_wp2_with fail
  generalize ((w.alloc (.cells #[.slice (some ⟨b, o, none⟩) t0.length d0] 35)).alloc (.cells #[.int .i64 (M : Int), .slice (some ⟨bx, ox, none⟩) us.length d1] 37)) = W0 at *
  refine (HP1.out _).mono ?_
  rintro e W1 ⟨rfl, he1⟩
  have c1 := (b1.ex he1).cell 0
  have c1' := (b1.ex he1).cell 1
  go_wp2_with fail
  refine (HP2.out _).mono ?_
  rintro e W2 ⟨rfl, he2⟩
  have he12 := he1.trans he2
  have HSK := Lib.hid (fun (W' : World) (hb : Ex W2.drew W') => And.intro (HRW.out W' (HE0.out.trans (he12.drew.trans hb))) (And.intro ((HE0.out.trans (he12.drew.trans hb)).below.cell (p := ⟨bx, ox + x, none⟩) hbx |>.trans HCX.out) (And.intro ((b0.ex (he12.drew.trans hb)).cell 0) (And.intro ((b1.ex (he12.drew.trans hb)).cell 0) ((b1.ex (he12.drew.trans hb)).cell 1)))))
  have HE2 := Lib.hid (HE0.out.trans he12.drew)
  clear b0 b1 e0 c1 c1' he1 he2 he12
  go_wp2_with fail
  refine wp_region_quiet (C := fun w' => Ex W2.drew w') (by kernel_rfl) (by kernel_rfl) (Ex.refl _) ?_
  refine BigFrame.wpQuiet_want (by rfl) fun K hK => ⟨?_, fun w' hC => ?_, hK _ ?_⟩
  rotate_left
  · (obtain ⟨⟨q0, q1⟩, q2, q3, q4, q5⟩ := HSK.out _ hC; go_simp; first | done | with_reducible rfl | exact ⟨rfl, hC⟩)
  clear hK K
  simp only [Act.put, List.setIfInBounds_toArray, List.set_cons_zero, List.set_cons_succ]
  refine BigFrame.wpQuiet_want (by rfl) fun K hK => ⟨?_, fun w' hC => ?_, hK _ ?_⟩
  rotate_left
  · (obtain ⟨⟨q0, q1⟩, q2, q3, q4, q5⟩ := HSK.out _ hC; go_simp; first | done | with_reducible rfl | exact ⟨rfl, hC⟩)
  clear hK K
  simp only [Act.put, List.setIfInBounds_toArray, List.set_cons_zero, List.set_cons_succ]
  refine BigFrame.wpQuiet_want (by rfl) fun K hK => ⟨?_, fun w' hC => ?_, hK _ ?_⟩
  rotate_left
  · (obtain ⟨⟨q0, q1⟩, q2, q3, q4, q5⟩ := HSK.out _ hC; go_simp; first | done | with_reducible rfl | exact ⟨rfl, hC⟩)
  clear hK K
  simp only [Act.put, List.setIfInBounds_toArray, List.set_cons_zero, List.set_cons_succ]
  refine BigFrame.wpQuiet_want (by rfl) fun K hK => ⟨?_, fun w' hC => ?_, hK _ ?_⟩
  rotate_left
  · (obtain ⟨⟨q0, q1⟩, q2, q3, q4, q5⟩ := HSK.out _ hC; go_simp; first | done | with_reducible rfl | exact ⟨rfl, hC⟩)
  clear hK K
  simp only [Act.put, List.setIfInBounds_toArray, List.set_cons_zero, List.set_cons_succ]
  refine BigFrame.wpQuiet_want (by rfl) fun K hK => ⟨?_, fun w' hC => ?_, hK _ ?_⟩
  rotate_left
  · (obtain ⟨⟨q0, q1⟩, q2, q3, q4, q5⟩ := HSK.out _ hC; go_simp; first | done | with_reducible rfl | exact ⟨rfl, hC⟩)
  clear hK K
  simp only [Act.put, List.setIfInBounds_toArray, List.set_cons_zero, List.set_cons_succ]
  refine BigFrame.wpQuiet_want (by rfl) fun K hK => ⟨?_, fun w' hC => ?_, hK _ ?_⟩
  rotate_left
  · (obtain ⟨⟨q0, q1⟩, q2, q3, q4, q5⟩ := HSK.out _ hC; go_simp; first | done | with_reducible rfl | exact ⟨rfl, hC⟩)
  clear hK K
  simp only [Act.put, List.setIfInBounds_toArray, List.set_cons_zero, List.set_cons_succ]
  refine BigFrame.wpQuiet_want (by rfl) fun K hK => ⟨?_, fun w' hC => ?_, hK _ ?_⟩
  rotate_left
  · (obtain ⟨⟨q0, q1⟩, q2, q3, q4, q5⟩ := HSK.out _ hC; go_simp; first | done | with_reducible rfl | exact ⟨rfl, hC⟩)
  clear hK K
  simp only [Act.put, List.setIfInBounds_toArray, List.set_cons_zero, List.set_cons_succ]
  refine BigFrame.wpQuiet_want (by rfl) fun K hK => ⟨?_, fun w' hC => ?_, hK _ ?_⟩
  rotate_left
  · (obtain ⟨⟨q0, q1⟩, q2, q3, q4, q5⟩ := HSK.out _ hC; go_simp; first | done | with_reducible rfl | exact ⟨rfl, hC⟩)
  clear hK K
  simp only [Act.put, List.setIfInBounds_toArray, List.set_cons_zero, List.set_cons_succ]
  refine BigFrame.wpQuiet_want (by rfl) fun K hK => ⟨?_, fun w' hC => ?_, hK _ ?_⟩
  rotate_left
  · (obtain ⟨⟨q0, q1⟩, q2, q3, q4, q5⟩ := HSK.out _ hC; go_simp; first | done | with_reducible rfl | exact ⟨rfl, hC⟩)
  clear hK K
  simp only [Act.put, List.setIfInBounds_toArray, List.set_cons_zero, List.set_cons_succ]
  refine BigFrame.wpQuiet_want (by rfl) fun K hK => ⟨?_, fun w' hC => ?_, hK _ ?_⟩
  rotate_left
  · (obtain ⟨⟨q0, q1⟩, q2, q3, q4, q5⟩ := HSK.out _ hC; go_simp; first | done | with_reducible rfl | exact ⟨rfl, hC⟩)
  clear hK K
  simp only [Act.put, List.setIfInBounds_toArray, List.set_cons_zero, List.set_cons_succ]
  refine BigFrame.wpQuiet_want (by rfl) fun K hK => ⟨?_, fun w' hC => ?_, hK _ ?_⟩
  rotate_left
  · (obtain ⟨⟨q0, q1⟩, q2, q3, q4, q5⟩ := HSK.out _ hC; go_simp; first | done | with_reducible rfl | exact ⟨rfl, hC⟩)
  clear hK K
  simp only [Act.put, List.setIfInBounds_toArray, List.set_cons_zero, List.set_cons_succ]
  refine BigFrame.wpQuiet_want (by rfl) fun K hK => ⟨?_, fun w' hC => ?_, hK _ ?_⟩
  rotate_left
  · (obtain ⟨⟨q0, q1⟩, q2, q3, q4, q5⟩ := HSK.out _ hC; go_simp; first | done | with_reducible rfl | exact ⟨rfl, hC⟩)
  clear hK K
  simp only [Act.put, List.setIfInBounds_toArray, List.set_cons_zero, List.set_cons_succ]
  refine BigFrame.wpQuiet_want (by rfl) fun K hK => ⟨?_, fun w' hC => ?_, hK _ ?_⟩
  rotate_left
  · (obtain ⟨⟨q0, q1⟩, q2, q3, q4, q5⟩ := HSK.out _ hC; go_simp; first | done | with_reducible rfl | exact ⟨rfl, hC⟩)
  clear hK K
  simp only [Act.put, List.setIfInBounds_toArray, List.set_cons_zero, List.set_cons_succ]
  refine BigFrame.wpQuiet_want (by rfl) fun K hK => ⟨?_, fun w' hC => ?_, hK _ ?_⟩
  rotate_left
  · (obtain ⟨⟨q0, q1⟩, q2, q3, q4, q5⟩ := HSK.out _ hC; go_simp; first | done | with_reducible rfl | exact ⟨rfl, hC⟩)
  clear hK K
  simp only [Act.put, List.setIfInBounds_toArray, List.set_cons_zero, List.set_cons_succ]
  refine BigFrame.wpQuiet_want (by rfl) fun K hK => ⟨?_, fun w' hC => ?_, hK _ ?_⟩
  rotate_left
  · (obtain ⟨⟨q0, q1⟩, q2, q3, q4, q5⟩ := HSK.out _ hC; go_simp; first | done | with_reducible rfl | exact ⟨rfl, hC⟩)
  clear hK K
  simp only [Act.put, List.setIfInBounds_toArray, List.set_cons_zero, List.set_cons_succ]
  refine BigFrame.wpQuiet_want (by rfl) fun K hK => ⟨?_, fun w' hC => ?_, hK _ ?_⟩
  rotate_left
  · (obtain ⟨⟨q0, q1⟩, q2, q3, q4, q5⟩ := HSK.out _ hC; go_simp; first | done | with_reducible rfl | exact ⟨rfl, hC⟩)
  clear hK K
  simp only [Act.put, List.setIfInBounds_toArray, List.set_cons_zero, List.set_cons_succ]
  refine BigFrame.wpQuiet_want (by rfl) fun K hK => ⟨?_, fun w' hC => ?_, hK _ ?_⟩
  rotate_left
  · (obtain ⟨⟨q0, q1⟩, q2, q3, q4, q5⟩ := HSK.out _ hC; go_simp; first | done | with_reducible rfl | exact ⟨rfl, hC⟩)
  clear hK K
  simp only [Act.put, List.setIfInBounds_toArray, List.set_cons_zero, List.set_cons_succ]
  refine BigFrame.wpQuiet_want (by rfl) fun K hK => ⟨?_, fun w' hC => ?_, hK _ ?_⟩
  rotate_left
  · (obtain ⟨⟨q0, q1⟩, q2, q3, q4, q5⟩ := HSK.out _ hC; go_simp; first | done | with_reducible rfl | exact ⟨rfl, hC⟩)
  clear hK K
  simp only [Act.put, List.setIfInBounds_toArray, List.set_cons_zero, List.set_cons_succ]
  refine BigFrame.wpQuiet_want (by rfl) fun K hK => ⟨?_, fun w' hC => ?_, hK _ ?_⟩
  rotate_left
  · (obtain ⟨⟨q0, q1⟩, q2, q3, q4, q5⟩ := HSK.out _ hC; go_simp; first | done | with_reducible rfl | exact ⟨rfl, hC⟩)
  clear hK K
  simp only [Act.put, List.setIfInBounds_toArray, List.set_cons_zero, List.set_cons_succ]
  refine BigFrame.wpQuiet_want (by rfl) fun K hK => ⟨?_, fun w' hC => ?_, hK _ ?_⟩
  rotate_left
  · (obtain ⟨⟨q0, q1⟩, q2, q3, q4, q5⟩ := HSK.out _ hC; go_simp; first | done | with_reducible rfl | exact ⟨rfl, hC⟩)
  clear hK K
  simp only [Act.put, List.setIfInBounds_toArray, List.set_cons_zero, List.set_cons_succ]
  refine BigFrame.wpQuiet_want (by rfl) fun K hK => ⟨?_, fun w' hC => ?_, hK _ ?_⟩
  rotate_left
  · (obtain ⟨⟨q0, q1⟩, q2, q3, q4, q5⟩ := HSK.out _ hC; go_simp; first | done | with_reducible rfl | exact ⟨rfl, hC⟩)
  clear hK K
  simp only [Act.put, List.setIfInBounds_toArray, List.set_cons_zero, List.set_cons_succ]
  refine BigFrame.wpQuiet_want (by rfl) fun K hK => ⟨.int .i64 ((M * z + v : Nat) : Int), fun w' hC => (by go_simp; refine (HPO.out w').mono ?_; rintro e w2 ⟨rfl, hb⟩; exact ⟨rfl, hC.trans hb⟩), hK _ ?_⟩
  clear hK K
  simp only [Act.put, List.setIfInBounds_toArray, List.set_cons_zero, List.set_cons_succ]
  refine BigFrame.wpQuiet_want (by rfl) fun K hK => ⟨?_, fun w' hC => ?_, hK _ ?_⟩
  rotate_left
  · (obtain ⟨⟨q0, q1⟩, q2, q3, q4, q5⟩ := HSK.out _ hC; go_simp; first | done | with_reducible rfl | exact ⟨rfl, hC⟩)
  clear hK K
  simp only [Act.put, List.setIfInBounds_toArray, List.set_cons_zero, List.set_cons_succ]
  refine wpQuiet_nil ?_
  intro w2 hC2
  have HC2 := Lib.hid hC2
  clear hC2
  go_wp2_with fail
  go_ret
  exact ⟨by rw [HV.out]; rfl, HE2.out.trans HC2.out⟩

end Go.Proofs.YtenenlpfpkdplaaDoor
