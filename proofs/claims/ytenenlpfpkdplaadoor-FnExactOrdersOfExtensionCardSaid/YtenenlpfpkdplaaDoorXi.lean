/- Extensions, by the program. -/
import Derived.Deep.RegionHeld3
import Derived.Deep.RegionWith
import Derived.Deep.DeepCutAuto
import Derived.Test.YtenenlpfpkdplaaDoorXm
import Derived.Test.YtenenlpfpkdplaaDoorGw
import Derived.Test.YtenenlpfpkdplaaDoorVal
import Derived.Test.YtenenlpfpkdplaaDoorQb
import Derived.Test.YtenenlpfpkdplaaDoorFi
namespace Go.Proofs.YtenenlpfpkdplaaDoor
open Go.RowKit Go.Shelf

attribute [local go_sem] Oper.semAt_some

theorem ints_two {w : World} {b : Nat} {x y : Int} (h : Has w b 2 #[.int .i64 x, .int .i64 y]) : IntsW w (some ⟨b, 0, none⟩) [x, y] :=
  .inr ⟨b, 0, rfl, h.lt, fun j hj => by
    rw [Nat.zero_add, h.cell j]
    match j, hj with
    | 0, _ => rfl
    | 1, _ => rfl⟩
theorem below_two {N x y : Nat} (hx : x < N) (hy : y < N) : belowB (N : Int) [(x : Int), (y : Int)] = true := by
  simp [belowB, inB]
  omega

set_option maxRecDepth 100000 in
set_option maxHeartbeats 4000000 in
theorem xoc_ex (A G F L : Nat) (B0 B1 B2 : Option Addr) (t : List (List Int)) (M : Nat) (us fs : List Int) (d0 d1 d2 p q : Nat) (w : World) (hA : Has w A 37 #[.int .i64 (M : Int), .slice B1 us.length d1]) (hG : Has w G 35 #[.slice B0 t.length d0]) (hF : Has w F 39 #[.int .i64 2, .slice B2 fs.length d2])
    (hR : RwsW w B0 t) (hX : IntsW w B1 us) (hFs : IntsW w B2 fs) (h : ExtF L t M us fs) (hL : L ≤ 96) (hp : p < t.length * M) (hq : q < t.length * M) :
    Calls Tryd.prog 157 #[.int .i64 (p : Int), .int .i64 (q : Int), .pointer (some ⟨A, 0, none⟩), .pointer (some ⟨G, 0, none⟩), .pointer (some ⟨F, 0, none⟩)] w fun e w' => e = .returned (.int .i64 (extN t M us fs p q : Int)) ∧ Ex w w' := by
  have hM2 := h.m.m2
  have hM12 := h.m.m12
  have hN8 := h.m.g.n8
  have hN1 := h.m.g.n1
  have hm0 := h.m0
  have hp96 : p ≤ 96 := by have := h.most; omega
  have hq96 : q ≤ 96 := by have := h.most; omega
  have hp' : p < M * t.length := by rw [Nat.mul_comm]; exact hp
  have hq' : q < M * t.length := by rw [Nat.mul_comm]; exact hq
  have hpl := pairV_lt h.m hp' hq'
  have hpm : M * t.length ≤ 96 := by rw [Nat.mul_comm]; have := h.most; omega
  have hx := h.x_lt hp
  have hy := h.x_lt hq
  obtain ⟨hf1, hf2⟩ := h.fct hx hy
  have hxy : pairV t M us p q / M < t.length := pair_el hpl
  have hmm : pairV t M us p q % M < M := Nat.mod_lt _ hm0
  have hep := ext_pair t M us fs p q hm0
  have HP1 := Lib.hid (fun W => partsOf_any B1 M us.length d1 p W hM2 hM12 hp96)
  have HP2 := Lib.hid (fun W => partsOf_any B1 M us.length d1 q W hM2 hM12 hq96)
  have HPP := Lib.hid (fun W (he : Ex w W) => pairProduct_any B0 B1 t M us d0 d1 p q W (hR.ex he) (hX.ex he) h.m hp' hq')
  have HP3 := Lib.hid (fun W => partsOf_any B1 M us.length d1 (pairV t M us p q) W hM2 hM12 (by omega))
  have HVA := Lib.hid (fun (b : Nat) W (he : Ex w W) (hb : Has W b 2 #[.int .i64 ((p / M : Nat) : Int), .int .i64 ((q / M : Nat) : Int)]) => hf1 ▸ valueAt_yes B0 B2 (some ⟨b, 0, none⟩) 2 t.length fs [((p / M : Nat) : Int), ((q / M : Nat) : Int)] d0 d2 2 W (hFs.ex he) (ints_two hb) hN8 hN1 (by omega) rfl h.len (below_two hx hy))
  obtain ⟨f, hfe⟩ : ∃ f, fctN t.length fs (p / M) (q / M) = f := ⟨_, rfl⟩
  obtain ⟨x, hxe⟩ : ∃ x, p / M = x := ⟨_, rfl⟩
  obtain ⟨y, hye⟩ : ∃ y, q / M = y := ⟨_, rfl⟩
  obtain ⟨u, hue⟩ : ∃ u, p % M = u := ⟨_, rfl⟩
  obtain ⟨v, hve⟩ : ∃ v, q % M = v := ⟨_, rfl⟩
  obtain ⟨pv, hpv⟩ : ∃ pv, pairV t M us p q = pv := ⟨_, rfl⟩
  rw [hfe] at hf2 hep HVA
  rw [hpv] at HPP HP3 hep hxy hmm
  rw [hxe, hue] at HP1
  rw [hye, hve] at HP2
  rw [hxe, hye] at HVA
  obtain ⟨m0, hm0e⟩ : ∃ m0, pv % M = m0 := ⟨_, rfl⟩
  obtain ⟨xy, hxye⟩ : ∃ xy, pv / M = xy := ⟨_, rfl⟩
  rw [hm0e, hxye] at HP3 hep
  rw [hm0e] at hmm
  rw [hxye] at hxy
  obtain ⟨r, hr⟩ : ∃ r, (m0 + f) % M = r := ⟨_, rfl⟩
  have hrM : r < M := by rw [← hr]; exact Nat.mod_lt _ hm0
  have hsum : ((m0 : Int) + (f : Int)) = ((m0 + f : Nat) : Int) := by simp
  obtain ⟨s, hs⟩ : ∃ s, m0 + f = s := ⟨_, rfl⟩
  rw [hs] at hsum hr
  have hs24 : s ≤ 24 := by omega
  have hw1 : IntKind.i64.wrap (s : Int) = (s : Int) := IntWalk.i64_in _ (by omega)
  have htm : Int.tmod (s : Int) (M : Int) = (r : Int) := by rw [← hr]; exact tmod_nat s M
  have hwr : IntKind.i64.wrap ((s : Int) % (M : Int)) = (r : Int) := by rw [← Int.natCast_emod, hr]; exact IntWalk.i64_in _ (by omega)
  have hM0 : ¬ M = 0 := by omega
  have HPO := Lib.hid (fun W => pairOf_any B1 M us.length d1 r xy W hM12 (by omega) (by omega))
  have HV : Hid (extN t M us fs p q = M * xy + r) := Lib.hid (by rw [hep, hs, hr])
  have c0 := hA.cell 0
  have c1 := hA.cell 1
  have HA := Lib.hid hA
  have HG := Lib.hid hG
  have HF := Lib.hid hF
  clear hA hG hF hR hX hFs h hp hq hp' hq' hpl hx hy hf1 hep hfe hxe hye hue hve hpv hm0e hxye hr hs hpm
  go_enter Tryd.func157, Tryd.ntmps157
  go_wp2_with fail
  refine (HP1.out _).mono ?_
  rintro e W1 ⟨rfl, he1⟩
  have k0 := (HA.out.ex he1).cell 0
  have k1 := (HA.out.ex he1).cell 1
  clear c0 c1
  go_wp2_with fail
  refine (HP2.out _).mono ?_
  rintro e W2 ⟨rfl, he2⟩
  have he12 := he1.trans he2
  have HE2 := Lib.hid he12.drew
  have HSK := Lib.hid (fun (W' : World) (hb : Ex W2.drew W') => And.intro ((HA.out.ex (he12.drew.trans hb)).cell 0) (And.intro ((HA.out.ex (he12.drew.trans hb)).cell 1) ((HG.out.ex (he12.drew.trans hb)).cell 0)))
  clear k0 k1 he1 he2 he12
  go_wp2_with fail
  refine wp_region_quiet (C := fun w' => Ex W2.drew w') (by kernel_rfl) (by kernel_rfl) (Ex.refl _) ?_
  refine BigFrame.wpQuiet_want (by rfl) fun K hK => ⟨?_, fun w' hC => ?_, hK _ ?_⟩
  rotate_left
  · (obtain ⟨q0, q1, q2⟩ := HSK.out _ hC; go_simp; first | done | with_reducible rfl | exact ⟨rfl, hC⟩)
  clear hK K
  simp only [Act.put, List.setIfInBounds_toArray, List.set_cons_zero, List.set_cons_succ]
  refine BigFrame.wpQuiet_want (by rfl) fun K hK => ⟨?_, fun w' hC => ?_, hK _ ?_⟩
  rotate_left
  · (obtain ⟨q0, q1, q2⟩ := HSK.out _ hC; go_simp; first | done | with_reducible rfl | exact ⟨rfl, hC⟩)
  clear hK K
  simp only [Act.put, List.setIfInBounds_toArray, List.set_cons_zero, List.set_cons_succ]
  refine BigFrame.wpQuiet_want (by rfl) fun K hK => ⟨?_, fun w' hC => ?_, hK _ ?_⟩
  rotate_left
  · (obtain ⟨q0, q1, q2⟩ := HSK.out _ hC; go_simp; first | done | with_reducible rfl | exact ⟨rfl, hC⟩)
  clear hK K
  simp only [Act.put, List.setIfInBounds_toArray, List.set_cons_zero, List.set_cons_succ]
  refine BigFrame.wpQuiet_want (by rfl) fun K hK => ⟨?_, fun w' hC => ?_, hK _ ?_⟩
  rotate_left
  · (obtain ⟨q0, q1, q2⟩ := HSK.out _ hC; go_simp; first | done | with_reducible rfl | exact ⟨rfl, hC⟩)
  clear hK K
  simp only [Act.put, List.setIfInBounds_toArray, List.set_cons_zero, List.set_cons_succ]
  refine BigFrame.wpQuiet_want (by rfl) fun K hK => ⟨?_, fun w' hC => ?_, hK _ ?_⟩
  rotate_left
  · (obtain ⟨q0, q1, q2⟩ := HSK.out _ hC; go_simp; first | done | with_reducible rfl | exact ⟨rfl, hC⟩)
  clear hK K
  simp only [Act.put, List.setIfInBounds_toArray, List.set_cons_zero, List.set_cons_succ]
  refine BigFrame.wpQuiet_want (by rfl) fun K hK => ⟨.int .i64 (pv : Int), fun w' hC => (by go_simp; refine (HPP.out w' (HE2.out.trans hC)).mono ?_; rintro e w2 ⟨rfl, hb⟩; exact ⟨rfl, hC.trans hb⟩), hK _ ?_⟩
  clear hK K
  simp only [Act.put, List.setIfInBounds_toArray, List.set_cons_zero, List.set_cons_succ]
  refine BigFrame.wpQuiet_want (by rfl) fun K hK => ⟨.tuple #[.int .i64 (m0 : Int), .int .i64 (xy : Int)], fun w' hC => (by go_simp; refine (HP3.out w').mono ?_; rintro e w2 ⟨rfl, hb⟩; exact ⟨rfl, hC.trans hb⟩), hK _ ?_⟩
  clear hK K
  simp only [Act.put, List.setIfInBounds_toArray, List.set_cons_zero, List.set_cons_succ]
  refine BigFrame.wpQuiet_want (by rfl) fun K hK => ⟨?_, fun w' hC => ?_, hK _ ?_⟩
  rotate_left
  · (obtain ⟨q0, q1, q2⟩ := HSK.out _ hC; go_simp; first | done | with_reducible rfl | exact ⟨rfl, hC⟩)
  clear hK K
  simp only [Act.put, List.setIfInBounds_toArray, List.set_cons_zero, List.set_cons_succ]
  refine BigFrame.wpQuiet_want (by rfl) fun K hK => ⟨?_, fun w' hC => ?_, hK _ ?_⟩
  rotate_left
  · (obtain ⟨q0, q1, q2⟩ := HSK.out _ hC; go_simp; first | done | with_reducible rfl | exact ⟨rfl, hC⟩)
  clear hK K
  simp only [Act.put, List.setIfInBounds_toArray, List.set_cons_zero, List.set_cons_succ]
  refine BigFrame.wpQuiet_want (by rfl) fun K hK => ⟨?_, fun w' hC => ?_, hK _ ?_⟩
  rotate_left
  · (obtain ⟨q0, q1, q2⟩ := HSK.out _ hC; go_simp; first | done | with_reducible rfl | exact ⟨rfl, hC⟩)
  clear hK K
  simp only [Act.put, List.setIfInBounds_toArray, List.set_cons_zero, List.set_cons_succ]
  refine BigFrame.wpQuiet_want (by rfl) fun K hK => ⟨?_, fun w' hC => ?_, hK _ ?_⟩
  rotate_left
  · (obtain ⟨q0, q1, q2⟩ := HSK.out _ hC; go_simp; first | done | with_reducible rfl | exact ⟨rfl, hC⟩)
  clear hK K
  simp only [Act.put, List.setIfInBounds_toArray, List.set_cons_zero, List.set_cons_succ]
  refine BigFrame.wpQuiet_want (by rfl) fun K hK => ⟨?_, fun w' hC => ?_, hK _ ?_⟩
  rotate_left
  · (obtain ⟨q0, q1, q2⟩ := HSK.out _ hC; go_simp; first | done | with_reducible rfl | exact ⟨rfl, hC⟩)
  clear hK K
  simp only [Act.put, List.setIfInBounds_toArray, List.set_cons_zero, List.set_cons_succ]
  refine wpQuiet_nil ?_
  intro w3 hC3
  have HE3 := Lib.hid (HE2.out.trans hC3)
  clear hC3 HSK HE2
  go_wp2_with fail
  have HCC := Lib.hid (fun W (he : Ex w W) => (⟨(HA.out.ex he).cell 0, (HA.out.ex he).cell 1, (HG.out.ex he).cell 0, (HF.out.ex he).cell 0, (HF.out.ex he).cell 1⟩ :
    W.cell? ⟨A, 0, none⟩ = some (.int .i64 (M : Int)) ∧ W.cell? ⟨A, 1, none⟩ = some (.slice B1 us.length d1) ∧ W.cell? ⟨G, 0, none⟩ = some (.slice B0 t.length d0) ∧ W.cell? ⟨F, 0, none⟩ = some (.int .i64 2) ∧ W.cell? ⟨F, 1, none⟩ = some (.slice B2 fs.length d2)))
  have hC0 := HCC.out _ HE3.out.drew
  refine Late.region (C := fun W => W.cell? ⟨A, 0, none⟩ = some (.int .i64 (M : Int)) ∧ W.cell? ⟨A, 1, none⟩ = some (.slice B1 us.length d1) ∧ W.cell? ⟨G, 0, none⟩ = some (.slice B0 t.length d0) ∧ W.cell? ⟨F, 0, none⟩ = some (.int .i64 2) ∧ W.cell? ⟨F, 1, none⟩ = some (.slice B2 fs.length d2))
    (fun j => j != 14) (by kernel_rfl) hC0 (fun hC => ?_)
  refine Late.take (i := 0) (oi := _) (v := ?_) rfl (by kernel_rfl) (by kernel_rfl) (by kernel_rfl) (by kernel_rfl) (fun _ _ _ h => h) (Or.inl ⟨by rfl, ?_⟩) hC ?_
  rotate_left
  · (intro w hSw; (try dsimp only at hSw); go_simp; first | done | with_reducible rfl)
  simp only [Act.put]
  refine Late.take (i := 1) (oi := _) (v := ?_) rfl (by kernel_rfl) (by kernel_rfl) (by kernel_rfl) (by kernel_rfl) (fun _ _ _ h => h) (Or.inl ⟨by rfl, ?_⟩) hC ?_
  rotate_left
  · (intro w hSw; (try dsimp only at hSw); go_simp; first | done | with_reducible rfl)
  simp only [Act.put]
  refine Late.take (i := 2) (oi := _) (v := ?_) rfl (by kernel_rfl) (by kernel_rfl) (by kernel_rfl) (by kernel_rfl) (fun _ _ _ h => h) (Or.inl ⟨by rfl, ?_⟩) hC ?_
  rotate_left
  · (intro w hSw; (try dsimp only at hSw); go_simp; first | done | with_reducible rfl)
  simp only [Act.put]
  refine Late.take (i := 3) (oi := _) (v := ?_) rfl (by kernel_rfl) (by kernel_rfl) (by kernel_rfl) (by kernel_rfl) (fun _ _ _ h => h) (Or.inl ⟨by rfl, ?_⟩) hC ?_
  rotate_left
  · (intro w hSw; (try dsimp only at hSw); go_simp; first | done | with_reducible rfl)
  simp only [Act.put]
  refine Late.take (i := 4) (oi := _) (v := ?_) rfl (by kernel_rfl) (by kernel_rfl) (by kernel_rfl) (by kernel_rfl) (fun _ _ _ h => h) (Or.inl ⟨by rfl, ?_⟩) hC ?_
  rotate_left
  · (intro w hSw; (try dsimp only at hSw); go_simp; first | done | with_reducible rfl)
  simp only [Act.put]
  refine Late.take (i := 5) (oi := _) (v := ?_) rfl (by kernel_rfl) (by kernel_rfl) (by kernel_rfl) (by kernel_rfl) (fun _ _ _ h => h) (Or.inl ⟨by rfl, ?_⟩) hC ?_
  rotate_left
  · (intro w hSw; (try dsimp only at hSw); go_simp; first | done | with_reducible rfl)
  simp only [Act.put]
  refine Late.take (i := 9) (oi := _) (v := ?_) rfl (by kernel_rfl) (by kernel_rfl) (by kernel_rfl) (by kernel_rfl) (fun _ _ _ h => h) (Or.inl ⟨by rfl, ?_⟩) hC ?_
  rotate_left
  · (intro w hSw; (try dsimp only at hSw); go_simp; first | done | with_reducible rfl)
  simp only [Act.put]
  refine Late.take (i := 10) (oi := _) (v := ?_) rfl (by kernel_rfl) (by kernel_rfl) (by kernel_rfl) (by kernel_rfl) (fun _ _ _ h => h) (Or.inl ⟨by rfl, ?_⟩) hC ?_
  rotate_left
  · (intro w hSw; (try dsimp only at hSw); go_simp; first | done | with_reducible rfl)
  simp only [Act.put]
  refine Late.take (i := 12) (oi := _) (v := ?_) rfl (by kernel_rfl) (by kernel_rfl) (by kernel_rfl) (by kernel_rfl) (fun _ _ _ h => h) (Or.inl ⟨by rfl, ?_⟩) hC ?_
  rotate_left
  · (intro w hSw; (try dsimp only at hSw); go_simp; first | done | with_reducible rfl)
  simp only [Act.put]
  clear hC hC0
  have hx0 := HE3.out.drew
  generalize w3.drew = X at *
  refine Late.one (i := 6) (o := _) (by kernel_rfl) rfl (fun K' hK' => ?_)
  go_simp
  have e1 := hx0.alloc (.cells #[.int .i64 (x : Int), .int .i64 (y : Int)] 2)
  have hb1 := Has.new X 2 #[.int .i64 (x : Int), .int .i64 (y : Int)]
  refine hK'.out _ _ (fun _ => HCC.out _ e1) (fun _ => ?_)
  clear hK' K'
  generalize X.alloc (.cells #[.int .i64 (x : Int), .int .i64 (y : Int)] 2) = X1 at *
  try simp only [Act.put, List.setIfInBounds_toArray, List.set_cons_zero, List.set_cons_succ]
  refine Late.one (i := 7) (o := _) (by kernel_rfl) rfl (fun K' hK' => ?_)
  rw [if_pos (by rfl)]
  go_simp
  refine (HVA.out _ X1 e1 hb1).mono ?_
  rintro e X2 ⟨rfl, he4⟩
  have e2 := e1.trans he4
  have hC2 := HCC.out _ e2
  refine hK'.out _ _ (fun _ => hC2) (fun _ => ?_)
  clear hK' K'
  try simp only [Act.put, List.setIfInBounds_toArray, List.set_cons_zero, List.set_cons_succ]
  refine Late.take (i := 8) (oi := _) (v := ?_) rfl (by kernel_rfl) (by kernel_rfl) (by kernel_rfl) (by kernel_rfl) (fun _ _ _ h => h) (Or.inl ⟨by rfl, ?_⟩) hC2 ?_
  rotate_left
  · (intro w hSw; (try dsimp only at hSw); go_simp; first | done | with_reducible rfl)
  simp only [Act.put]
  refine Late.take (i := 11) (oi := _) (v := ?_) rfl (by kernel_rfl) (by kernel_rfl) (by kernel_rfl) (by kernel_rfl) (fun _ _ _ h => h) (Or.inl ⟨by rfl, ?_⟩) hC2 ?_
  rotate_left
  · (intro w hSw; (try dsimp only at hSw); go_simp; first | done | with_reducible rfl)
  simp only [Act.put]
  refine Late.one (i := 13) (o := _) (by kernel_rfl) rfl (fun K' hK' => ?_)
  rw [if_pos (by rfl)]
  go_simp
  refine (HPO.out X2).mono ?_
  rintro e X3 ⟨rfl, he5⟩
  have HE9 := Lib.hid (e2.trans he5)
  refine hK'.out _ _ (fun _ => HCC.out _ HE9.out) (fun _ => ?_)
  clear hK' K'
  try simp only [Act.put, List.setIfInBounds_toArray, List.set_cons_zero, List.set_cons_succ]
  refine Late.one (i := 14) (o := _) (by kernel_rfl) rfl (fun K' hK' => ?_)
  go_simp
  refine hK'.out _ _ (fun h => by cases h) (fun _ => ?_)
  clear hK' K'
  try simp only [Act.put, List.setIfInBounds_toArray, List.set_cons_zero, List.set_cons_succ]
  refine Late.done (by kernel_rfl) ?_ _
  go_wp2_with fail
  go_ret
  exact ⟨by rw [HV.out]; rfl, HE9.out⟩

set_option maxRecDepth 100000 in
set_option maxHeartbeats 4000000 in
theorem extensionOf_has (L : Nat) (B0 B1 B2 : Option Addr) (t : List (List Int)) (M : Nat) (us fs : List Int) (d0 d1 d2 : Nat) (w : World) (hR : RwsW w B0 t) (hX : IntsW w B1 us) (hFs : IntsW w B2 fs) (h : ExtF L t M us fs) (hL : L ≤ 96) :
    Calls Tryd.prog 105 #[.agg #[.slice B0 t.length d0], .agg #[.int .i64 (M : Int), .slice B1 us.length d1], .agg #[.int .i64 2, .slice B2 fs.length d2]] w fun e w' => ∃ C n, e = .returned (.agg #[.slice C (extT t M us fs).length n]) ∧ Ex w w' ∧ OwnT w' w.heap.size w'.heap.size C (extT t M us fs) := by
  have e0 : Ex w ((((w.alloc (.cells #[.slice B0 t.length d0] 35)).alloc (.cells #[.int .i64 (M : Int), .slice B1 us.length d1] 37)).alloc (.cells #[.int .i64 2, .slice B2 fs.length d2] 39)).alloc (.cells #[.slice none 0 0] 35)) := ((((Ex.refl w).alloc _).alloc _).alloc _).alloc _
  have b0 : Has ((((w.alloc (.cells #[.slice B0 t.length d0] 35)).alloc (.cells #[.int .i64 (M : Int), .slice B1 us.length d1] 37)).alloc (.cells #[.int .i64 2, .slice B2 fs.length d2] 39)).alloc (.cells #[.slice none 0 0] 35)) (w.heap.size) 35 #[.slice B0 t.length d0] := ((((Has.newAt (w := w) (e := 35) (cs := #[.slice B0 t.length d0]) (k := w.heap.size) (by simp)).alloc _).alloc _).alloc _)
  have b1 : Has ((((w.alloc (.cells #[.slice B0 t.length d0] 35)).alloc (.cells #[.int .i64 (M : Int), .slice B1 us.length d1] 37)).alloc (.cells #[.int .i64 2, .slice B2 fs.length d2] 39)).alloc (.cells #[.slice none 0 0] 35)) (w.heap.size + 1) 37 #[.int .i64 (M : Int), .slice B1 us.length d1] := (((Has.newAt (w := (w.alloc (.cells #[.slice B0 t.length d0] 35))) (e := 37) (cs := #[.int .i64 (M : Int), .slice B1 us.length d1]) (k := w.heap.size + 1) (by simp)).alloc _).alloc _)
  have b2 : Has ((((w.alloc (.cells #[.slice B0 t.length d0] 35)).alloc (.cells #[.int .i64 (M : Int), .slice B1 us.length d1] 37)).alloc (.cells #[.int .i64 2, .slice B2 fs.length d2] 39)).alloc (.cells #[.slice none 0 0] 35)) (w.heap.size + 1 + 1) 39 #[.int .i64 2, .slice B2 fs.length d2] := ((Has.newAt (w := ((w.alloc (.cells #[.slice B0 t.length d0] 35)).alloc (.cells #[.int .i64 (M : Int), .slice B1 us.length d1] 37))) (e := 39) (cs := #[.int .i64 2, .slice B2 fs.length d2]) (k := w.heap.size + 1 + 1) (by simp)).alloc _)
  have b3 : Has ((((w.alloc (.cells #[.slice B0 t.length d0] 35)).alloc (.cells #[.int .i64 (M : Int), .slice B1 us.length d1] 37)).alloc (.cells #[.int .i64 2, .slice B2 fs.length d2] 39)).alloc (.cells #[.slice none 0 0] 35)) (w.heap.size + 1 + 1 + 1) 35 #[.slice none 0 0] := (Has.newAt (w := (((w.alloc (.cells #[.slice B0 t.length d0] 35)).alloc (.cells #[.int .i64 (M : Int), .slice B1 us.length d1] 37)).alloc (.cells #[.int .i64 2, .slice B2 fs.length d2] 39))) (e := 35) (cs := #[.slice none 0 0]) (k := w.heap.size + 1 + 1 + 1) (by simp))
  obtain ⟨W0, hW0⟩ : ∃ W0, ((((w.alloc (.cells #[.slice B0 t.length d0] 35)).alloc (.cells #[.int .i64 (M : Int), .slice B1 us.length d1] 37)).alloc (.cells #[.int .i64 2, .slice B2 fs.length d2] 39)).alloc (.cells #[.slice none 0 0] 35)) = W0 := ⟨_, rfl⟩
  rw [hW0] at e0 b0 b1 b2 b3
  have HW0 := Lib.hid hW0
  have hN8 := h.m.g.n8
  have hN1 := h.m.g.n1
  have hmf : ∀ (fn : Fn) (first cap : Array Value) (w : World), (Instr.makeFunc fn first cap).run Tryd.prog w = .ok (.func fn first cap) w := fun _ _ _ _ => rfl
  have hK96 : t.length * M ≤ 96 := by have := h.most; omega
  have HLN := Lib.hid (extT_len t M us fs)
  have HGW0 := fun W (he : Ex W0 W) => groupWith_has (t.length * M) 157 #[.pointer (some ⟨w.heap.size + 1, 0, none⟩), .pointer (some ⟨w.heap.size, 0, none⟩), .pointer (some ⟨w.heap.size + 1 + 1, 0, none⟩)] (fun x y => (extN t M us fs x y : Int)) W (by omega)
    (enters_of Tryd.func157 (by kernel_rfl) rfl)
    (fun W' he' x y hx hy => xoc_ex (w.heap.size + 1) w.heap.size (w.heap.size + 1 + 1) L B0 B1 B2 t M us fs d0 d1 d2 x y W' (b1.ex (he.trans he')) (b0.ex (he.trans he')) (b2.ex (he.trans he')) (hR.ex (e0.trans (he.trans he'))) (hX.ex (e0.trans (he.trans he'))) (hFs.ex (e0.trans (he.trans he'))) h hL hx hy)
  have HGW : Hid (∀ W (he : Ex W0 W), Calls Tryd.prog 86 #[.int .i64 ((t.length * M : Nat) : Int), .func (.func 157) #[] #[.pointer (some ⟨w.heap.size + 1, 0, none⟩), .pointer (some ⟨w.heap.size, 0, none⟩), .pointer (some ⟨w.heap.size + 1 + 1, 0, none⟩)]] W fun e w' => ∃ G R, e = .returned (.agg #[.slice (some ⟨R, 0, none⟩) (t.length * M) (t.length * M)]) ∧ Ex W w' ∧ W.heap.size ≤ G ∧ W.heap.size ≤ R ∧ Has w' G 2 (tab ((t.length * M) * (t.length * M)) fun p => .int .i64 (extN t M us fs (p / (t.length * M)) (p % (t.length * M)) : Int)) ∧ Has w' R 25 (rowsV G (t.length * M))) := Lib.hid HGW0
  have HT : Hid (extT t M us fs = mkT (t.length * M) (t.length * M) fun p q => (extN t M us fs p q : Int)) := Lib.hid rfl
  have HB0 := Lib.hid b0
  have HB1 := Lib.hid b1
  have HB3 := Lib.hid b3
  have HE0 := Lib.hid e0
  have HCC := Lib.hid (fun W (he : Ex W0 W) => (⟨(b0.ex he).cell 0, (b1.ex he).cell 0⟩ : W.cell? ⟨w.heap.size, 0, none⟩ = some (.slice B0 t.length d0) ∧ W.cell? ⟨w.heap.size + 1, 0, none⟩ = some (.int .i64 (M : Int))))
  obtain ⟨K, hK⟩ : ∃ K, t.length * M = K := ⟨_, rfl⟩
  have hKi : (t.length : Int) * (M : Int) = (K : Int) := by rw [← hK]; simp
  rw [hK] at hK96 HGW HT HLN
  rw [HLN.out]
  have hwK : IntKind.i64.wrap (K : Int) = (K : Int) := IntWalk.i64_in _ (by omega)
  clear hW0 hR hX hFs h hK HGW0 b0 b1 b2 b3 e0
  go_enter Tryd.func105, Tryd.ntmps105
  go_wp2_with fail
  rw [HW0.out]
  refine Late.region (C := fun W => W.cell? ⟨w.heap.size, 0, none⟩ = some (.slice B0 t.length d0) ∧ W.cell? ⟨w.heap.size + 1, 0, none⟩ = some (.int .i64 (M : Int))) (fun j => j != 7) (by kernel_rfl) (HCC.out _ (Ex.refl W0).drew) (fun hC => ?_)
  refine Late.take (i := 0) (oi := _) (v := ?_) rfl (by kernel_rfl) (by kernel_rfl) (by kernel_rfl) (by kernel_rfl) (fun _ _ _ h => h) (Or.inl ⟨by rfl, ?_⟩) hC ?_
  rotate_left
  · (intro w hSw; (try dsimp only at hSw); go_simp; first | done | with_reducible rfl)
  simp only [Act.put]
  refine Late.take (i := 2) (oi := _) (v := ?_) rfl (by kernel_rfl) (by kernel_rfl) (by kernel_rfl) (by kernel_rfl) (fun _ _ _ h => h) (Or.inl ⟨by rfl, ?_⟩) hC ?_
  rotate_left
  · (intro w hSw; (try dsimp only at hSw); go_simp; first | done | with_reducible rfl)
  simp only [Act.put]
  refine Late.take (i := 3) (oi := _) (v := ?_) rfl (by kernel_rfl) (by kernel_rfl) (by kernel_rfl) (by kernel_rfl) (fun _ _ _ h => h) (Or.inl ⟨by rfl, ?_⟩) hC ?_
  rotate_left
  · (intro w hSw; (try dsimp only at hSw); go_simp; first | done | with_reducible rfl)
  simp only [Act.put]
  refine Late.take (i := 5) (oi := _) (v := ?_) rfl (by kernel_rfl) (by kernel_rfl) (by kernel_rfl) (by kernel_rfl) (fun _ _ _ h => h) (Or.inl ⟨by rfl, ?_⟩) hC ?_
  rotate_left
  · (intro w hSw; (try dsimp only at hSw); go_simp; first | done | with_reducible rfl)
  simp only [Act.put]
  clear hC
  have hx0 := (Ex.refl W0).drew
  generalize W0.drew = X at *
  refine Late.one (i := 1) (o := _) (by kernel_rfl) rfl (fun K' hK' => ?_)
  rw [if_pos (by rfl)]
  go_simp
  refine (groupOrder_ex B0 t.length d0 X (by omega)).mono ?_
  rintro e X1 ⟨rfl, he1⟩
  have hx1 := hx0.trans he1
  have hC1 := HCC.out _ hx1
  refine hK'.out _ _ (fun _ => hC1) (fun _ => ?_)
  clear hK' K'
  try simp only [Act.put, List.setIfInBounds_toArray, List.set_cons_zero, List.set_cons_succ]
  refine Late.take (i := 4) (oi := _) (v := ?_) rfl (by kernel_rfl) (by kernel_rfl) (by kernel_rfl) (by kernel_rfl) (fun _ _ _ h => h) (Or.inl ⟨by rfl, ?_⟩) hC1 ?_
  rotate_left
  · (intro w hSw; (try dsimp only at hSw); go_simp; first | done | with_reducible rfl)
  simp only [Act.put]
  refine Late.one (i := 6) (o := _) (by kernel_rfl) rfl (fun K' hK' => ?_)
  rw [if_pos (by rfl)]
  go_simp
  refine (HGW.out X1 hx1).mono ?_
  rintro e X2 ⟨G, R, rfl, he2, hlG, hlR, hG, hR⟩
  have hx2 := hx1.trans he2
  have HBS := Lib.hid (HB3.out.ex hx2)
  have HE9 := Lib.hid (HE0.out.trans hx2)
  have HGH := Lib.hid hG
  have HRH := Lib.hid hR
  have hl1 := (HE0.out.trans hx1).size
  have hb3 := (HB3.out.ex hx1).lt
  have cr := HBS.out.cell 0
  have fr := HBS.out.free 0
  have hC2 := HCC.out _ hx2
  refine hK'.out _ _ (fun _ => hC2) (fun _ => ?_)
  clear hK' K' hG hR he2 hx2
  try simp only [Act.put, List.setIfInBounds_toArray, List.set_cons_zero, List.set_cons_succ]
  refine Late.one (i := 7) (o := _) (by kernel_rfl) rfl (fun K' hK' => ?_)
  go_simp
  refine hK'.out _ _ (fun h => by cases h) (fun _ => ?_)
  clear hK' K'
  try simp only [Act.put, List.setIfInBounds_toArray, List.set_cons_zero, List.set_cons_succ]
  refine Late.done (by kernel_rfl) ?_ _
  go_wp2_with fail
  have H4 := HBS.out.put1 (v := .slice (some ⟨R, 0, none⟩) K K)
  have c4 := H4.cell 0
  refine bodyPost_ret (v := .agg #[.slice (some ⟨R, 0, none⟩) K K]) (by simp [results, Tryd.results105, go_sem, c4]) rfl ⟨some ⟨R, 0, none⟩, K, rfl, HE9.out.setCell (by show w.heap.size ≤ w.heap.size + 1 + 1 + 1; omega) _, ?_⟩
  rw [HT.out]
  exact OwnT.of_block (HGH.out.far (p := ⟨w.heap.size + 1 + 1 + 1, 0, none⟩) (by show G ≠ w.heap.size + 1 + 1 + 1; omega) _) (HRH.out.far (p := ⟨w.heap.size + 1 + 1 + 1, 0, none⟩) (by show R ≠ w.heap.size + 1 + 1 + 1; omega) _) (by omega) (by omega)

end Go.Proofs.YtenenlpfpkdplaaDoor
