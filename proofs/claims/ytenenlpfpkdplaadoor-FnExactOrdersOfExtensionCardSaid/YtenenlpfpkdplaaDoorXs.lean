/- Extensions: the specification's table. -/
import Derived.Deep.RegionHeld3
import Derived.Deep.RegionWith
import Derived.Deep.DeepCutAuto
import Derived.Test.YtenenlpfpkdplaaDoorXm
import Derived.Test.YtenenlpfpkdplaaDoorXi
namespace Go.Proofs.YtenenlpfpkdplaaDoor
open Go.RowKit Go.Shelf

attribute [local go_sem] Oper.semAt_some

theorem GrowT.emptyAt {lo N : Nat} {V : Nat → Nat → Int} (w : World) (z : Nat) (hz : w.heap.size = z) (h : lo ≤ z) : GrowT (w.alloc (.cells #[] 25)) lo (.slice (some ⟨z, 0, none⟩) 0 0) 0 N V := by
  subst hz
  exact GrowT.empty w N V h
theorem intsW_cell {w : World} {b o : Nat} {xs : List Int} (h : IntsW w (some ⟨b, o, none⟩) xs) {k : Nat} (hk : k < xs.length) : w.cell? ⟨b, o + k, none⟩ = some (.int .i64 (nth xs k)) := by
  obtain ⟨b', o', e, _, hc⟩ := h.ints.at_ hk
  simp only [Option.some.injEq, Addr.mk.injEq, and_true] at e
  obtain ⟨rfl, rfl⟩ := e
  exact hc

/-- The numbers that a product in an extension is made of. -/
structure ExtP (t : List (List Int)) (M : Nat) (us fs : List Int) (p q x y u v e f z0 s r xy n a0 b0 : Nat) : Prop where
  hx : x < t.length
  hy : y < t.length
  t1 : Int.tdiv (p : Int) (M : Int) = (x : Int)
  t2 : Int.tdiv (q : Int) (M : Int) = (y : Int)
  t3 : Int.tmod (p : Int) (M : Int) = (u : Int)
  t4 : Int.tmod (q : Int) (M : Int) = (v : Int)
  w1 : IntKind.i64.wrap (x : Int) = (x : Int)
  w2 : IntKind.i64.wrap (y : Int) = (y : Int)
  q1 : IntKind.i64.wrap ((p : Int) / (M : Int)) = (x : Int)
  q2 : IntKind.i64.wrap ((q : Int) / (M : Int)) = (y : Int)
  q3 : IntKind.i64.wrap ((p : Int) % (M : Int)) = (u : Int)
  q4 : IntKind.i64.wrap ((q : Int) % (M : Int)) = (v : Int)
  he : nth us x = (e : Int)
  hxl : x < us.length
  hf : valR t.length fs [(x : Int), (y : Int)] = (f : Int)
  z1 : (e : Int) * (v : Int) = (z0 : Int)
  z2 : IntKind.i64.wrap (z0 : Int) = (z0 : Int)
  s0 : (u : Int) + (z0 : Int) = (a0 : Int)
  s1 : IntKind.i64.wrap (a0 : Int) = (a0 : Int)
  s2 : (a0 : Int) + (f : Int) = (s : Int)
  s3 : IntKind.i64.wrap (s : Int) = (s : Int)
  r1 : Int.tmod (s : Int) (M : Int) = (r : Int)
  r2 : IntKind.i64.wrap ((s : Int) % (M : Int)) = (r : Int)
  m1 : nth (row t x) y = (xy : Int)
  n1 : (M : Int) * (xy : Int) = (b0 : Int)
  n2 : IntKind.i64.wrap (b0 : Int) = (b0 : Int)
  n3 : (b0 : Int) + (r : Int) = (n : Int)
  n4 : IntKind.i64.wrap (n : Int) = (n : Int)
theorem ext_facts {L : Nat} {t : List (List Int)} {M : Nat} {us fs : List Int} (h : ExtF L t M us fs) {p q : Nat} (hp : p < t.length * M) (hq : q < t.length * M) : ∃ x y u v e f z0 s r xy n a0 b0, ExtP t M us fs p q x y u v e f z0 s r xy n a0 b0 ∧ extN t M us fs p q = n := by
  have hm0 := h.m0
  have hM12 := h.m.m12
  have hN8 := h.m.g.n8
  have hx := h.x_lt hp
  have hy := h.x_lt hq
  have hu : p % M < M := Nat.mod_lt _ hm0
  have hv : q % M < M := Nat.mod_lt _ hm0
  have hxl : p / M < us.length := by rw [h.m.len]; exact hx
  obtain ⟨he1, he2⟩ := im_eq h.m.rng hxl
  obtain ⟨hf1, hf2⟩ := h.fct hx hy
  have hxy := h.m.g.mul_lt hx hy
  have hz : im us (p / M) * (q % M) ≤ 144 := Nat.le_trans (Nat.mul_le_mul (show im us (p / M) ≤ 12 by omega) (show q % M ≤ 12 by omega)) (by omega)
  have hn : M * mul t (p / M) (q / M) ≤ 96 := Nat.le_trans (Nat.mul_le_mul hM12 (show mul t (p / M) (q / M) ≤ 8 by omega)) (by omega)
  have hw : ∀ z : Nat, z < 1000 → IntKind.i64.wrap (z : Int) = (z : Int) := fun z hz => IntWalk.i64_in _ (by omega)
  have hr : (p % M + im us (p / M) * (q % M) + fctN t.length fs (p / M) (q / M)) % M < M := Nat.mod_lt _ hm0
  refine ⟨_, _, _, _, _, _, _, _, _, _, _, _, _, ⟨hx, hy, (Int.ofNat_tdiv _ _).symm, (Int.ofNat_tdiv _ _).symm, tmod_nat _ _, tmod_nat _ _, hw _ (by omega), hw _ (by omega), by rw [← Int.natCast_ediv]; exact hw _ (by omega), by rw [← Int.natCast_ediv]; exact hw _ (by omega), by rw [← Int.natCast_emod]; exact hw _ (by omega), by rw [← Int.natCast_emod]; exact hw _ (by omega), he1, hxl, hf1, (Int.natCast_mul _ _).symm, hw _ (by omega), (Int.natCast_add _ _).symm, hw _ (by omega), (Int.natCast_add _ _).symm, hw _ (by omega), tmod_nat _ _, by rw [← Int.natCast_emod]; exact hw _ (by omega), h.m.g.ent hx hy, (Int.natCast_mul _ _).symm, hw _ (by omega), (Int.natCast_add _ _).symm, hw _ (by omega)⟩, rfl⟩

set_option maxRecDepth 100000 in
set_option maxHeartbeats 8000000 in
theorem l06Table_any (L : Nat) (B0 B1 B2 : Option Addr) (t : List (List Int)) (M : Nat) (us fs : List Int) (d0 d1 d2 : Nat) (w : World) (hR : RwsW w B0 t) (hX : IntsW w B1 us) (hFs : IntsW w B2 fs) (h : ExtF L t M us fs) (hL : L ≤ 96) :
    Calls Tryd.prog 61 #[.agg #[.slice B0 t.length d0], .agg #[.int .i64 (M : Int), .slice B1 us.length d1], .agg #[.int .i64 2, .slice B2 fs.length d2]] w fun e w' => ∃ C n, e = .returned (.slice C (extT t M us fs).length n) ∧ Ex w w' ∧ OwnT w' w.heap.size w'.heap.size C (extT t M us fs) := by
  obtain ⟨i0, hi, hi0, hi1, hi2⟩ := info_parts infoI
  obtain ⟨iS, gi, gi0, gi1, gi2⟩ := info_parts infoS
  have hN8 := h.m.g.n8
  have hN1 := h.m.g.n1
  have hM1 := h.m0
  have hM12 := h.m.m12
  have hul := h.m.len
  have hK96 : t.length * M ≤ 96 := by have := h.most; omega
  have hK1 : 0 < t.length * M := Nat.mul_pos hN1 hM1
  obtain ⟨b, o, bb, oo, C, rfl, hQ⟩ := hR.sq h.m.g
  obtain ⟨bu, ou, rfl, hbu, -⟩ := hX.ints.at_ (j := 0) (by omega)
  have HPF := Lib.hid (fun p q hp hq => ext_facts h (p := p) (q := q) hp hq)
  have HRO0 := Lib.hid (fun x y (hx : x < t.length) (hy : y < t.length) W (he : Ex w W) => (⟨(hQ.ex he).row_ hx, (hQ.ex he).ent_ hx hy⟩ : W.cell? ⟨b, o + x, none⟩ = some (.slice (some ⟨bb x, oo x, none⟩) t.length (C x)) ∧ W.cell? ⟨bb x, oo x + y, none⟩ = some (.int .i64 (nth (row t x) y))))
  have HUS := Lib.hid (fun x (hx : x < us.length) W (he : Ex w W) => ((he.below.cell (p := ⟨bu, ou + x, none⟩) hbu).trans (intsW_cell hX hx) : W.cell? ⟨bu, ou + x, none⟩ = some (.int .i64 (nth us x))))
  have HVA := Lib.hid (fun (bx x y f : Nat) W (he : Ex w W) (hx : x < t.length) (hy : y < t.length) (hf : valR t.length fs [(x : Int), (y : Int)] = (f : Int)) (hb : Has W bx 2 #[.int .i64 (x : Int), .int .i64 (y : Int)]) => hf ▸ l03At_any (some ⟨b, o, none⟩) B2 (some ⟨bx, 0, none⟩) 2 t.length fs [(x : Int), (y : Int)] d0 d2 2 W (hFs.ex he) (ints_two hb) hN8 hN1 (by omega) rfl h.len (belowB_inR (below_two hx hy)))
  have e0 : Ex w (((w.alloc (.cells #[.slice (some ⟨b, o, none⟩) t.length d0] 35)).alloc (.cells #[.int .i64 (M : Int), .slice (some ⟨bu, ou, none⟩) us.length d1] 37)).alloc (.cells #[.int .i64 2, .slice B2 fs.length d2] 39)) := (((Ex.refl w).alloc _).alloc _).alloc _
  have b0 : Has (((w.alloc (.cells #[.slice (some ⟨b, o, none⟩) t.length d0] 35)).alloc (.cells #[.int .i64 (M : Int), .slice (some ⟨bu, ou, none⟩) us.length d1] 37)).alloc (.cells #[.int .i64 2, .slice B2 fs.length d2] 39)) (w.heap.size) 35 #[.slice (some ⟨b, o, none⟩) t.length d0] := (((Has.newAt (w := w) (e := 35) (cs := #[.slice (some ⟨b, o, none⟩) t.length d0]) (k := w.heap.size) (by simp)).alloc _).alloc _)
  have b1 : Has (((w.alloc (.cells #[.slice (some ⟨b, o, none⟩) t.length d0] 35)).alloc (.cells #[.int .i64 (M : Int), .slice (some ⟨bu, ou, none⟩) us.length d1] 37)).alloc (.cells #[.int .i64 2, .slice B2 fs.length d2] 39)) (w.heap.size + 1) 37 #[.int .i64 (M : Int), .slice (some ⟨bu, ou, none⟩) us.length d1] := ((Has.newAt (w := (w.alloc (.cells #[.slice (some ⟨b, o, none⟩) t.length d0] 35))) (e := 37) (cs := #[.int .i64 (M : Int), .slice (some ⟨bu, ou, none⟩) us.length d1]) (k := w.heap.size + 1) (by simp)).alloc _)
  have b2 : Has (((w.alloc (.cells #[.slice (some ⟨b, o, none⟩) t.length d0] 35)).alloc (.cells #[.int .i64 (M : Int), .slice (some ⟨bu, ou, none⟩) us.length d1] 37)).alloc (.cells #[.int .i64 2, .slice B2 fs.length d2] 39)) (w.heap.size + 1 + 1) 39 #[.int .i64 2, .slice B2 fs.length d2] := (Has.newAt (w := ((w.alloc (.cells #[.slice (some ⟨b, o, none⟩) t.length d0] 35)).alloc (.cells #[.int .i64 (M : Int), .slice (some ⟨bu, ou, none⟩) us.length d1] 37))) (e := 39) (cs := #[.int .i64 2, .slice B2 fs.length d2]) (k := w.heap.size + 1 + 1) (by simp))
  have HT : Hid (extT t M us fs = mkT (t.length * M) (t.length * M) fun p q => (extN t M us fs p q : Int)) := Lib.hid rfl
  have HLN := Lib.hid (extT_len t M us fs)
  obtain ⟨K, hK⟩ : ∃ K, t.length * M = K := ⟨_, rfl⟩
  have hKi : (t.length : Int) * (M : Int) = (K : Int) := by rw [← hK]; simp
  rw [hK] at hK96 hK1 HPF HT HLN
  rw [HLN.out]
  have hwK : IntKind.i64.wrap (K : Int) = (K : Int) := IntWalk.i64_in _ (by omega)
  have hM0 : ¬ M = 0 := by omega
  have HB0 := Lib.hid b0
  have HB1 := Lib.hid b1
  have HB2 := Lib.hid b2
  have HE0 := Lib.hid e0
  obtain ⟨W0, hW0⟩ : ∃ W0, (((w.alloc (.cells #[.slice (some ⟨b, o, none⟩) t.length d0] 35)).alloc (.cells #[.int .i64 (M : Int), .slice (some ⟨bu, ou, none⟩) us.length d1] 37)).alloc (.cells #[.int .i64 2, .slice B2 fs.length d2] 39)) = W0 := ⟨_, rfl⟩
  rw [hW0] at HB0 HB1 HB2 HE0
  have HW0 := Lib.hid hW0
  have HKP := Lib.hid (fun (W' : World) (hb : Ex W0 W') => And.intro ((HB0.out.ex hb).cell 0) ((HB1.out.ex hb).cell 0))
  clear hR hX hFs hQ h hK hW0 b0 b1 b2 e0 hul
  go_enter Tryd.func61, Tryd.ntmps61
  go_upto_region 1 with (fail)
  rw [HW0.out]
  go_cut [7, 8] (fun s7 s8 wx => ∃ z : Nat, s7 = .int .i64 (K : Int) ∧ s8 = .slice (some ⟨z, 0, none⟩) 0 0 ∧ Ex W0 wx ∧ GrowT wx W0.heap.size s8 0 K fun p q => (extN t M us fs p q : Int))
  case first =>
    go_region_held3 (fun w' : World => w'.cell? ⟨w.heap.size, 0, none⟩ = some (.slice (some ⟨b, o, none⟩) t.length d0) ∧ w'.cell? ⟨w.heap.size + 1, 0, none⟩ = some (.int .i64 (M : Int)))
      (exact HKP.out _ (by (repeat' (first | assumption | exact Ex.refl _ | refine Ex.alloc ?_ _ | refine Ex.drew ?_ | refine Ex.setCell ?_ (by first | exact Nat.le_refl _ | assumption | (show _ ≤ _; omega) | (simp; omega) | simp) _ | refine Ex.trans ?_ (by assumption)))))
      (first
        | (go_at_call 89; refine (l01N_any (some ⟨b, o, none⟩) t.length d0 _ (by omega)).mono ?_; rintro e w' ⟨rfl, rfl⟩))
    all_goals
      go_wp2_with fail
      go_meet
    all_goals
      refine ⟨_, rfl, rfl, ?_, ?_⟩
      · (repeat' (first | with_reducible exact Ex.refl _ | with_reducible refine Ex.alloc ?_ _ | with_reducible refine Ex.drew ?_))
      · first
          | exact GrowT.emptyAt _ _ (by simp) (by simp)
          | exact (GrowT.emptyAt _ _ (by simp) (by simp)).ex (Ex.new _ _)
          | exact (GrowT.emptyAt _ _ (by simp) (by simp)).ex (Ex.refl _).drew
          | exact (GrowT.emptyAt _ _ (by simp) (by simp)).ex (Ex.new _ _).drew
  obtain ⟨W3, rfl⟩ : ∃ x : World, x = wc := ⟨_, rfl⟩
  obtain ⟨z, rfl, rfl, he3, hg3⟩ := hcut
  have HG3 := Lib.hid hg3
  have HX3 := Lib.hid he3
  clear hg3 he3 HKP
  go_wp2_with fail
  go_loopw [8, 9] (fun v i wr => ∃ k : Nat, k ≤ K ∧ i = .int .i64 (k : Int) ∧ Hid (Ex W0 wr) ∧ Hid (GrowT wr W0.heap.size v k K fun p q => (extN t M us fs p q : Int))) (fun _ i _ => K - (intOf i).toNat)
  case atStart => exact ⟨0, Nat.zero_le _, rfl, HX3, HG3⟩
  case round =>
    clear HX3 HG3
    obtain ⟨k, hk, rfl, HX, HG⟩ := hrel
    by_cases hlt : k < K
    · obtain ⟨wo, rfl⟩ : ∃ x : World, x = wr := ⟨_, rfl⟩
      obtain ⟨G, CC, hown, hrows⟩ := HG.out
      have HOW := Lib.hid hown
      have HRO := Lib.hid hrows
      have HGZ := Lib.hid (fun i (hi : i < k) => (hrows.lt hi : G i < wo.heap.size))
      have HEs := Lib.hid (Ex.new wo (.cells #[] 2))
      have HG0 : Hid (GrowI (wo.alloc (.cells #[] 2)) wo.heap.size (.slice (some ⟨wo.heap.size, 0, none⟩) 0 0) 0 (rowP (fun q => (extN t M us fs k q : Int)) 0)) := Lib.hid (GrowI.empty (lo := wo.heap.size) wo (Nat.le_refl _))
      have HPK := Lib.hid (fun q hq => HPF.out k q hlt hq)
      clear hown hrows HG
      go_wp2_with fail
      generalize wo.alloc (.cells #[] 2) = W4 at *
      go_loopw [10, 11] (fun rv i wq => ∃ j : Nat, j ≤ K ∧ i = .int .i64 (j : Int) ∧ Hid (Ex wo wq) ∧ Hid (GrowI wq wo.heap.size rv j (rowP (fun q => (extN t M us fs k q : Int)) j))) (fun _ i _ => K - (intOf i).toNat)
      case atStart => exact ⟨0, Nat.zero_le _, rfl, HEs, HG0⟩
      case round =>
        clear HEs HG0
        obtain ⟨j, hj, rfl, HEr, HGr⟩ := hrel
        by_cases hjl : j < K
        · obtain ⟨x, y, u, v, e, f, z0, s, r, xy, n, a0, b0, hf, hfe⟩ := HPK.out j hjl
          have HS : Hid (rowP (fun q => (extN t M us fs k q : Int)) (j + 1) = rowP (fun q => (extN t M us fs k q : Int)) j ++ [(n : Int)]) := Lib.hid (by rw [rowP_snoc, hfe])
          obtain ⟨hx, hy, t1, t2, t3, t4, w1, w2, q1, q2, q3, q4, hue, hxl, hvf, z1, z2, s0, s1, s2, s3, r1, r2, m1, n1, n2, n3, n4⟩ := hf
          have HCC := Lib.hid (fun W (he : Ex wo W) => (⟨(HB0.out.ex (HX.out.trans he)).cell 0, (HB1.out.ex (HX.out.trans he)).cell 0, (HB1.out.ex (HX.out.trans he)).cell 1, (HB2.out.ex (HX.out.trans he)).cell 0, (HB2.out.ex (HX.out.trans he)).cell 1, hue ▸ HUS.out x hxl W (HE0.out.trans (HX.out.trans he)), (HRO0.out x y hx hy W (HE0.out.trans (HX.out.trans he))).1, m1 ▸ (HRO0.out x y hx hy W (HE0.out.trans (HX.out.trans he))).2⟩ :
            W.cell? ⟨w.heap.size, 0, none⟩ = some (.slice (some ⟨b, o, none⟩) t.length d0) ∧ W.cell? ⟨w.heap.size + 1, 0, none⟩ = some (.int .i64 (M : Int)) ∧ W.cell? ⟨w.heap.size + 1, 1, none⟩ = some (.slice (some ⟨bu, ou, none⟩) us.length d1) ∧ W.cell? ⟨w.heap.size + 1 + 1, 0, none⟩ = some (.int .i64 2) ∧ W.cell? ⟨w.heap.size + 1 + 1, 1, none⟩ = some (.slice B2 fs.length d2) ∧ W.cell? ⟨bu, ou + x, none⟩ = some (.int .i64 (e : Int)) ∧ W.cell? ⟨b, o + x, none⟩ = some (.slice (some ⟨bb x, oo x, none⟩) t.length (C x)) ∧ W.cell? ⟨bb x, oo x + y, none⟩ = some (.int .i64 (xy : Int))))
          have HVX := Lib.hid (fun bx W (he : Ex wo W) hb => HVA.out bx x y f W (HE0.out.trans (HX.out.trans he)) hx hy hvf hb)
          have HSK := Lib.hid (fun (W' : World) (hb : Ex wr W') => HCC.out W' (HEr.out.trans hb))
          have HXL := Lib.hid hxl
          clear hfe hue hvf m1
          go_wp2_with fail
          refine wp_region_quiet (C := fun w' => Ex wr w') (by kernel_rfl) (by kernel_rfl) (Ex.refl wr).drew ?_
          refine BigFrame.wpQuiet_want (by rfl) fun K hK => ⟨?_, fun w' hC => ?_, hK _ ?_⟩
          rotate_left
          · (obtain ⟨q0, q1, q2, q3, q4, q5, q6, q7⟩ := HSK.out _ hC; go_simp; first | done | with_reducible rfl | exact ⟨rfl, hC⟩)
          clear hK K
          simp only [Act.put, List.setIfInBounds_toArray, List.set_cons_zero, List.set_cons_succ]
          refine BigFrame.wpQuiet_want (by rfl) fun K hK => ⟨?_, fun w' hC => ?_, hK _ ?_⟩
          rotate_left
          · (obtain ⟨q0, q1, q2, q3, q4, q5, q6, q7⟩ := HSK.out _ hC; go_simp; first | done | with_reducible rfl | exact ⟨rfl, hC⟩)
          clear hK K
          simp only [Act.put, List.setIfInBounds_toArray, List.set_cons_zero, List.set_cons_succ]
          refine BigFrame.wpQuiet_want (by rfl) fun K hK => ⟨?_, fun w' hC => ?_, hK _ ?_⟩
          rotate_left
          · (obtain ⟨q0, q1, q2, q3, q4, q5, q6, q7⟩ := HSK.out _ hC; go_simp; first | done | with_reducible rfl | exact ⟨rfl, hC⟩)
          clear hK K
          simp only [Act.put, List.setIfInBounds_toArray, List.set_cons_zero, List.set_cons_succ]
          refine BigFrame.wpQuiet_want (by rfl) fun K hK => ⟨?_, fun w' hC => ?_, hK _ ?_⟩
          rotate_left
          · (obtain ⟨q0, q1, q2, q3, q4, q5, q6, q7⟩ := HSK.out _ hC; go_simp; first | done | with_reducible rfl | exact ⟨rfl, hC⟩)
          clear hK K
          simp only [Act.put, List.setIfInBounds_toArray, List.set_cons_zero, List.set_cons_succ]
          refine BigFrame.wpQuiet_want (by rfl) fun K hK => ⟨?_, fun w' hC => ?_, hK _ ?_⟩
          rotate_left
          · (obtain ⟨q0, q1, q2, q3, q4, q5, q6, q7⟩ := HSK.out _ hC; go_simp; first | done | with_reducible rfl | exact ⟨rfl, hC⟩)
          clear hK K
          simp only [Act.put, List.setIfInBounds_toArray, List.set_cons_zero, List.set_cons_succ]
          refine BigFrame.wpQuiet_want (by rfl) fun K hK => ⟨?_, fun w' hC => ?_, hK _ ?_⟩
          rotate_left
          · (obtain ⟨q0, q1, q2, q3, q4, q5, q6, q7⟩ := HSK.out _ hC; go_simp; first | done | with_reducible rfl | exact ⟨rfl, hC⟩)
          clear hK K
          simp only [Act.put, List.setIfInBounds_toArray, List.set_cons_zero, List.set_cons_succ]
          refine BigFrame.wpQuiet_want (by rfl) fun K hK => ⟨?_, fun w' hC => ?_, hK _ ?_⟩
          rotate_left
          · (obtain ⟨q0, q1, q2, q3, q4, q5, q6, q7⟩ := HSK.out _ hC; go_simp; first | done | with_reducible rfl | exact ⟨rfl, hC⟩)
          clear hK K
          simp only [Act.put, List.setIfInBounds_toArray, List.set_cons_zero, List.set_cons_succ]
          refine BigFrame.wpQuiet_want (by rfl) fun K hK => ⟨?_, fun w' hC => ?_, hK _ ?_⟩
          rotate_left
          · (obtain ⟨q0, q1, q2, q3, q4, q5, q6, q7⟩ := HSK.out _ hC; go_simp; first | done | with_reducible rfl | exact ⟨rfl, hC⟩)
          clear hK K
          simp only [Act.put, List.setIfInBounds_toArray, List.set_cons_zero, List.set_cons_succ]
          refine BigFrame.wpQuiet_want (by rfl) fun K hK => ⟨?_, fun w' hC => ?_, hK _ ?_⟩
          rotate_left
          · (obtain ⟨q0, q1, q2, q3, q4, q5, q6, q7⟩ := HSK.out _ hC; go_simp; first | done | with_reducible rfl | exact ⟨rfl, hC⟩)
          clear hK K
          simp only [Act.put, List.setIfInBounds_toArray, List.set_cons_zero, List.set_cons_succ]
          refine BigFrame.wpQuiet_want (by rfl) fun K hK => ⟨?_, fun w' hC => ?_, hK _ ?_⟩
          rotate_left
          · (obtain ⟨q0, q1, q2, q3, q4, q5, q6, q7⟩ := HSK.out _ hC; go_simp; first | done | with_reducible rfl | exact ⟨rfl, hC⟩)
          clear hK K
          simp only [Act.put, List.setIfInBounds_toArray, List.set_cons_zero, List.set_cons_succ]
          refine wpQuiet_nil ?_
          intro wa hCa
          have HEa := Lib.hid (HEr.out.trans hCa)
          have HGa := Lib.hid (HGr.out.ex hCa)
          clear hCa HSK HEr HGr
          go_wp2_with fail
          have hC0 := HCC.out _ HEa.out.drew
          refine Late.region (C := fun W => W.cell? ⟨w.heap.size, 0, none⟩ = some (.slice (some ⟨b, o, none⟩) t.length d0) ∧ W.cell? ⟨w.heap.size + 1, 0, none⟩ = some (.int .i64 (M : Int)) ∧ W.cell? ⟨w.heap.size + 1, 1, none⟩ = some (.slice (some ⟨bu, ou, none⟩) us.length d1) ∧ W.cell? ⟨w.heap.size + 1 + 1, 0, none⟩ = some (.int .i64 2) ∧ W.cell? ⟨w.heap.size + 1 + 1, 1, none⟩ = some (.slice B2 fs.length d2) ∧ W.cell? ⟨bu, ou + x, none⟩ = some (.int .i64 (e : Int)) ∧ W.cell? ⟨b, o + x, none⟩ = some (.slice (some ⟨bb x, oo x, none⟩) t.length (C x)) ∧ W.cell? ⟨bb x, oo x + y, none⟩ = some (.int .i64 (xy : Int))) (fun j => j != 25) (by kernel_rfl) hC0 (fun hC => ?_)
          refine Late.take (i := 0) (oi := ⟨_, _, _, _, _, _⟩) (v := ?_) rfl (by kernel_rfl) (by kernel_rfl) (by kernel_rfl) (by kernel_rfl) (fun _ _ _ h => h) (Or.inl ⟨by rfl, ?_⟩) hC ?_
          rotate_left
          · (intro w hSw; (try dsimp only at hSw); go_simp; first | done | with_reducible rfl)
          simp only [Act.put, List.setIfInBounds_toArray, List.set_cons_zero, List.set_cons_succ]
          refine Late.take (i := 1) (oi := ⟨_, _, _, _, _, _⟩) (v := ?_) rfl (by kernel_rfl) (by kernel_rfl) (by kernel_rfl) (by kernel_rfl) (fun _ _ _ h => h) (Or.inl ⟨by rfl, ?_⟩) hC ?_
          rotate_left
          · (intro w hSw; (try dsimp only at hSw); go_simp; first | done | with_reducible rfl)
          simp only [Act.put, List.setIfInBounds_toArray, List.set_cons_zero, List.set_cons_succ]
          refine Late.take (i := 2) (oi := ⟨_, _, _, _, _, _⟩) (v := ?_) rfl (by kernel_rfl) (by kernel_rfl) (by kernel_rfl) (by kernel_rfl) (fun _ _ _ h => h) (Or.inl ⟨by rfl, ?_⟩) hC ?_
          rotate_left
          · (intro w hSw; (try dsimp only at hSw); go_simp; first | done | with_reducible rfl)
          simp only [Act.put, List.setIfInBounds_toArray, List.set_cons_zero, List.set_cons_succ]
          refine Late.take (i := 3) (oi := ⟨_, _, _, _, _, _⟩) (v := ?_) rfl (by kernel_rfl) (by kernel_rfl) (by kernel_rfl) (by kernel_rfl) (fun _ _ _ h => h) (Or.inl ⟨by rfl, ?_⟩) hC ?_
          rotate_left
          · (intro w hSw; (try dsimp only at hSw); go_simp; first | done | with_reducible rfl)
          simp only [Act.put, List.setIfInBounds_toArray, List.set_cons_zero, List.set_cons_succ]
          refine Late.take (i := 4) (oi := ⟨_, _, _, _, _, _⟩) (v := ?_) rfl (by kernel_rfl) (by kernel_rfl) (by kernel_rfl) (by kernel_rfl) (fun _ _ _ h => h) (Or.inl ⟨by rfl, ?_⟩) hC ?_
          rotate_left
          · (intro w hSw; (try dsimp only at hSw); go_simp; first | done | with_reducible rfl)
          simp only [Act.put, List.setIfInBounds_toArray, List.set_cons_zero, List.set_cons_succ]
          refine Late.take (i := 5) (oi := ⟨_, _, _, _, _, _⟩) (v := ?_) rfl (by kernel_rfl) (by kernel_rfl) (by kernel_rfl) (by kernel_rfl) (fun _ _ _ h => h) (Or.inl ⟨by rfl, ?_⟩) hC ?_
          rotate_left
          · (intro w hSw; (try dsimp only at hSw); go_simp; first | done | with_reducible rfl)
          simp only [Act.put, List.setIfInBounds_toArray, List.set_cons_zero, List.set_cons_succ]
          refine Late.take (i := 6) (oi := ⟨_, _, _, _, _, _⟩) (v := ?_) rfl (by kernel_rfl) (by kernel_rfl) (by kernel_rfl) (by kernel_rfl) (fun _ _ _ h => h) (Or.inl ⟨by rfl, ?_⟩) hC ?_
          rotate_left
          · (intro w hSw; (try dsimp only at hSw); go_simp; first | done | with_reducible rfl)
          simp only [Act.put, List.setIfInBounds_toArray, List.set_cons_zero, List.set_cons_succ]
          refine Late.take (i := 7) (oi := ⟨_, _, _, _, _, _⟩) (v := ?_) rfl (by kernel_rfl) (by kernel_rfl) (by kernel_rfl) (by kernel_rfl) (fun _ _ _ h => h) (Or.inl ⟨by rfl, ?_⟩) hC ?_
          rotate_left
          · (intro w hSw; (try dsimp only at hSw); go_simp; first | done | with_reducible rfl)
          simp only [Act.put, List.setIfInBounds_toArray, List.set_cons_zero, List.set_cons_succ]
          refine Late.take (i := 8) (oi := ⟨_, _, _, _, _, _⟩) (v := ?_) rfl (by kernel_rfl) (by kernel_rfl) (by kernel_rfl) (by kernel_rfl) (fun _ _ _ h => h) (Or.inl ⟨by rfl, ?_⟩) hC ?_
          rotate_left
          · (intro w hSw; (try dsimp only at hSw); go_simp; first | done | with_reducible rfl)
          simp only [Act.put, List.setIfInBounds_toArray, List.set_cons_zero, List.set_cons_succ]
          refine Late.take (i := 9) (oi := ⟨_, _, _, _, _, _⟩) (v := ?_) rfl (by kernel_rfl) (by kernel_rfl) (by kernel_rfl) (by kernel_rfl) (fun _ _ _ h => h) (Or.inl ⟨by rfl, ?_⟩) hC ?_
          rotate_left
          · (intro w hSw; (try dsimp only at hSw); go_simp; first | done | with_reducible rfl)
          simp only [Act.put, List.setIfInBounds_toArray, List.set_cons_zero, List.set_cons_succ]
          refine Late.take (i := 10) (oi := ⟨_, _, _, _, _, _⟩) (v := ?_) rfl (by kernel_rfl) (by kernel_rfl) (by kernel_rfl) (by kernel_rfl) (fun _ _ _ h => h) (Or.inl ⟨by rfl, ?_⟩) hC ?_
          rotate_left
          · (intro w hSw; (try dsimp only at hSw); go_simp; first | done | with_reducible rfl)
          simp only [Act.put, List.setIfInBounds_toArray, List.set_cons_zero, List.set_cons_succ]
          refine Late.take (i := 11) (oi := ⟨_, _, _, _, _, _⟩) (v := ?_) rfl (by kernel_rfl) (by kernel_rfl) (by kernel_rfl) (by kernel_rfl) (fun _ _ _ h => h) (Or.inl ⟨by rfl, ?_⟩) hC ?_
          rotate_left
          · (intro w hSw; (try dsimp only at hSw); go_simp; first | done | with_reducible rfl)
          simp only [Act.put, List.setIfInBounds_toArray, List.set_cons_zero, List.set_cons_succ]
          refine Late.take (i := 12) (oi := ⟨_, _, _, _, _, _⟩) (v := ?_) rfl (by kernel_rfl) (by kernel_rfl) (by kernel_rfl) (by kernel_rfl) (fun _ _ _ h => h) (Or.inl ⟨by rfl, ?_⟩) hC ?_
          rotate_left
          · (intro w hSw; (try dsimp only at hSw); go_simp; first | done | with_reducible rfl)
          simp only [Act.put, List.setIfInBounds_toArray, List.set_cons_zero, List.set_cons_succ]
          refine Late.take (i := 13) (oi := ⟨_, _, _, _, _, _⟩) (v := ?_) rfl (by kernel_rfl) (by kernel_rfl) (by kernel_rfl) (by kernel_rfl) (fun _ _ _ h => h) (Or.inl ⟨by rfl, ?_⟩) hC ?_
          rotate_left
          · (intro w hSw; (try dsimp only at hSw); go_simp; first | done | with_reducible rfl)
          simp only [Act.put, List.setIfInBounds_toArray, List.set_cons_zero, List.set_cons_succ]
          refine Late.take (i := 14) (oi := ⟨_, _, _, _, _, _⟩) (v := ?_) rfl (by kernel_rfl) (by kernel_rfl) (by kernel_rfl) (by kernel_rfl) (fun _ _ _ h => h) (Or.inl ⟨by rfl, ?_⟩) hC ?_
          rotate_left
          · (intro w hSw; (try dsimp only at hSw); go_simp; first | done | with_reducible rfl)
          simp only [Act.put, List.setIfInBounds_toArray, List.set_cons_zero, List.set_cons_succ]
          refine Late.take (i := 15) (oi := ⟨_, _, _, _, _, _⟩) (v := ?_) rfl (by kernel_rfl) (by kernel_rfl) (by kernel_rfl) (by kernel_rfl) (fun _ _ _ h => h) (Or.inl ⟨by rfl, ?_⟩) hC ?_
          rotate_left
          · (intro w hSw; (try dsimp only at hSw); go_simp; first | done | with_reducible rfl)
          simp only [Act.put, List.setIfInBounds_toArray, List.set_cons_zero, List.set_cons_succ]
          refine Late.take (i := 16) (oi := ⟨_, _, _, _, _, _⟩) (v := ?_) rfl (by kernel_rfl) (by kernel_rfl) (by kernel_rfl) (by kernel_rfl) (fun _ _ _ h => h) (Or.inl ⟨by rfl, ?_⟩) hC ?_
          rotate_left
          · (intro w hSw; (try dsimp only at hSw); go_simp; first | done | with_reducible rfl)
          simp only [Act.put, List.setIfInBounds_toArray, List.set_cons_zero, List.set_cons_succ]
          refine Late.take (i := 17) (oi := ⟨_, _, _, _, _, _⟩) (v := ?_) rfl (by kernel_rfl) (by kernel_rfl) (by kernel_rfl) (by kernel_rfl) (fun _ _ _ h => h) (Or.inl ⟨by rfl, ?_⟩) hC ?_
          rotate_left
          · (intro w hSw; (try dsimp only at hSw); go_simp; first | done | with_reducible rfl)
          simp only [Act.put, List.setIfInBounds_toArray, List.set_cons_zero, List.set_cons_succ]
          refine Late.take (i := 18) (oi := ⟨_, _, _, _, _, _⟩) (v := ?_) rfl (by kernel_rfl) (by kernel_rfl) (by kernel_rfl) (by kernel_rfl) (fun _ _ _ h => h) (Or.inl ⟨by rfl, ?_⟩) hC ?_
          rotate_left
          · (intro w hSw; (try dsimp only at hSw); go_simp; first | done | with_reducible rfl)
          simp only [Act.put, List.setIfInBounds_toArray, List.set_cons_zero, List.set_cons_succ]
          refine Late.take (i := 22) (oi := ⟨_, _, _, _, _, _⟩) (v := ?_) rfl (by kernel_rfl) (by kernel_rfl) (by kernel_rfl) (by kernel_rfl) (fun _ _ _ h => h) (Or.inl ⟨by rfl, ?_⟩) hC ?_
          rotate_left
          · (intro w hSw; (try dsimp only at hSw); go_simp; first | done | with_reducible rfl)
          simp only [Act.put, List.setIfInBounds_toArray, List.set_cons_zero, List.set_cons_succ]
          refine Late.take (i := 23) (oi := ⟨_, _, _, _, _, _⟩) (v := ?_) rfl (by kernel_rfl) (by kernel_rfl) (by kernel_rfl) (by kernel_rfl) (fun _ _ _ h => h) (Or.inl ⟨by rfl, ?_⟩) hC ?_
          rotate_left
          · (intro w hSw; (try dsimp only at hSw); go_simp; first | done | with_reducible rfl)
          simp only [Act.put, List.setIfInBounds_toArray, List.set_cons_zero, List.set_cons_succ]
          clear hC hC0
          have hx0 := HEa.out.drew
          have hg0 := HGa.out.ex (Ex.refl wa).drew
          generalize wa.drew = X at *
          refine Late.one (i := 19) (o := _) (by kernel_rfl) rfl (fun K' hK' => ?_)
          go_simp
          have e1 := hx0.alloc (.cells #[.int .i64 (x : Int), .int .i64 (y : Int)] 2)
          have g1 := hg0.ex (Ex.new X (.cells #[.int .i64 (x : Int), .int .i64 (y : Int)] 2))
          have hb1 := Has.new X 2 #[.int .i64 (x : Int), .int .i64 (y : Int)]
          refine hK'.out _ _ (fun _ => HCC.out _ e1) (fun _ => ?_)
          clear hK' K'
          generalize X.alloc (.cells #[.int .i64 (x : Int), .int .i64 (y : Int)] 2) = X1 at *
          try simp only [Act.put, List.setIfInBounds_toArray, List.set_cons_zero, List.set_cons_succ]
          refine Late.one (i := 20) (o := _) (by kernel_rfl) rfl (fun K' hK' => ?_)
          rw [if_pos (by rfl)]
          go_simp
          refine (HVX.out _ X1 e1 hb1).mono ?_
          rintro e' X2 ⟨rfl, he4⟩
          have e2 := e1.trans he4
          have g2 := g1.ex he4
          have hC2 := HCC.out _ e2
          refine hK'.out _ _ (fun _ => hC2) (fun _ => ?_)
          clear hK' K' e1 g1 hb1 he4 hx0 hg0
          try simp only [Act.put, List.setIfInBounds_toArray, List.set_cons_zero, List.set_cons_succ]
          refine Late.take (i := 21) (oi := ⟨_, _, _, _, _, _⟩) (v := ?_) rfl (by kernel_rfl) (by kernel_rfl) (by kernel_rfl) (by kernel_rfl) (fun _ _ _ h => h) (Or.inl ⟨by rfl, ?_⟩) hC2 ?_
          rotate_left
          · (intro w hSw; (try dsimp only at hSw); go_simp; first | done | with_reducible rfl)
          simp only [Act.put, List.setIfInBounds_toArray, List.set_cons_zero, List.set_cons_succ]
          refine Late.take (i := 24) (oi := ⟨_, _, _, _, _, _⟩) (v := ?_) rfl (by kernel_rfl) (by kernel_rfl) (by kernel_rfl) (by kernel_rfl) (fun _ _ _ h => h) (Or.inl ⟨by rfl, ?_⟩) hC2 ?_
          rotate_left
          · (intro w hSw; (try dsimp only at hSw); go_simp; first | done | with_reducible rfl)
          simp only [Act.put, List.setIfInBounds_toArray, List.set_cons_zero, List.set_cons_succ]
          refine Late.one (i := 25) (o := _) (by kernel_rfl) rfl (fun K' hK' => ?_)
          go_simp
          refine hK'.out _ _ (fun h => by cases h) (fun _ => ?_)
          clear hK' K' hC2
          try simp only [Act.put, List.setIfInBounds_toArray, List.set_cons_zero, List.set_cons_succ]
          refine Late.done (by kernel_rfl) ?_ _
          have HE := Lib.hid e2.drew
          have HG := Lib.hid (g2.ex (Ex.refl X2).drew)
          clear e2 g2
          go_wp2_with fail
          have hC0 := HCC.out _ HE.out
          refine Late.region (C := fun W => W.cell? ⟨w.heap.size, 0, none⟩ = some (.slice (some ⟨b, o, none⟩) t.length d0) ∧ W.cell? ⟨w.heap.size + 1, 0, none⟩ = some (.int .i64 (M : Int)) ∧ W.cell? ⟨w.heap.size + 1, 1, none⟩ = some (.slice (some ⟨bu, ou, none⟩) us.length d1) ∧ W.cell? ⟨w.heap.size + 1 + 1, 0, none⟩ = some (.int .i64 2) ∧ W.cell? ⟨w.heap.size + 1 + 1, 1, none⟩ = some (.slice B2 fs.length d2) ∧ W.cell? ⟨bu, ou + x, none⟩ = some (.int .i64 (e : Int)) ∧ W.cell? ⟨b, o + x, none⟩ = some (.slice (some ⟨bb x, oo x, none⟩) t.length (C x)) ∧ W.cell? ⟨bb x, oo x + y, none⟩ = some (.int .i64 (xy : Int))) (fun j => decide (j < 16)) (by kernel_rfl) hC0 (fun hC => ?_)
          refine Late.take (i := 0) (oi := ⟨_, _, _, _, _, _⟩) (v := ?_) rfl (by kernel_rfl) (by kernel_rfl) (by kernel_rfl) (by kernel_rfl) (fun _ _ _ h => h) (Or.inl ⟨by rfl, ?_⟩) hC ?_
          rotate_left
          · (intro w hSw; (try dsimp only at hSw); go_simp; first | done | with_reducible rfl)
          simp only [Act.put, List.setIfInBounds_toArray, List.set_cons_zero, List.set_cons_succ]
          refine Late.take (i := 1) (oi := ⟨_, _, _, _, _, _⟩) (v := ?_) rfl (by kernel_rfl) (by kernel_rfl) (by kernel_rfl) (by kernel_rfl) (fun _ _ _ h => h) (Or.inl ⟨by rfl, ?_⟩) hC ?_
          rotate_left
          · (intro w hSw; (try dsimp only at hSw); go_simp; first | done | with_reducible rfl)
          simp only [Act.put, List.setIfInBounds_toArray, List.set_cons_zero, List.set_cons_succ]
          refine Late.take (i := 2) (oi := ⟨_, _, _, _, _, _⟩) (v := ?_) rfl (by kernel_rfl) (by kernel_rfl) (by kernel_rfl) (by kernel_rfl) (fun _ _ _ h => h) (Or.inl ⟨by rfl, ?_⟩) hC ?_
          rotate_left
          · (intro w hSw; (try dsimp only at hSw); go_simp; first | done | with_reducible rfl)
          simp only [Act.put, List.setIfInBounds_toArray, List.set_cons_zero, List.set_cons_succ]
          refine Late.take (i := 3) (oi := ⟨_, _, _, _, _, _⟩) (v := ?_) rfl (by kernel_rfl) (by kernel_rfl) (by kernel_rfl) (by kernel_rfl) (fun _ _ _ h => h) (Or.inl ⟨by rfl, ?_⟩) hC ?_
          rotate_left
          · (intro w hSw; (try dsimp only at hSw); go_simp; first | done | with_reducible rfl)
          simp only [Act.put, List.setIfInBounds_toArray, List.set_cons_zero, List.set_cons_succ]
          refine Late.take (i := 4) (oi := ⟨_, _, _, _, _, _⟩) (v := ?_) rfl (by kernel_rfl) (by kernel_rfl) (by kernel_rfl) (by kernel_rfl) (fun _ _ _ h => h) (Or.inl ⟨by rfl, ?_⟩) hC ?_
          rotate_left
          · (intro w hSw; (try dsimp only at hSw); go_simp; first | done | with_reducible rfl)
          simp only [Act.put, List.setIfInBounds_toArray, List.set_cons_zero, List.set_cons_succ]
          refine Late.take (i := 5) (oi := ⟨_, _, _, _, _, _⟩) (v := ?_) rfl (by kernel_rfl) (by kernel_rfl) (by kernel_rfl) (by kernel_rfl) (fun _ _ _ h => h) (Or.inl ⟨by rfl, ?_⟩) hC ?_
          rotate_left
          · (intro w hSw; (try dsimp only at hSw); go_simp; first | done | with_reducible rfl)
          simp only [Act.put, List.setIfInBounds_toArray, List.set_cons_zero, List.set_cons_succ]
          refine Late.take (i := 6) (oi := ⟨_, _, _, _, _, _⟩) (v := ?_) rfl (by kernel_rfl) (by kernel_rfl) (by kernel_rfl) (by kernel_rfl) (fun _ _ _ h => h) (Or.inl ⟨by rfl, ?_⟩) hC ?_
          rotate_left
          · (intro w hSw; (try dsimp only at hSw); go_simp; first | done | with_reducible rfl)
          simp only [Act.put, List.setIfInBounds_toArray, List.set_cons_zero, List.set_cons_succ]
          refine Late.take (i := 7) (oi := ⟨_, _, _, _, _, _⟩) (v := ?_) rfl (by kernel_rfl) (by kernel_rfl) (by kernel_rfl) (by kernel_rfl) (fun _ _ _ h => h) (Or.inl ⟨by rfl, ?_⟩) hC ?_
          rotate_left
          · (intro w hSw; (try dsimp only at hSw); go_simp; first | done | with_reducible rfl)
          simp only [Act.put, List.setIfInBounds_toArray, List.set_cons_zero, List.set_cons_succ]
          refine Late.take (i := 8) (oi := ⟨_, _, _, _, _, _⟩) (v := ?_) rfl (by kernel_rfl) (by kernel_rfl) (by kernel_rfl) (by kernel_rfl) (fun _ _ _ h => h) (Or.inl ⟨by rfl, ?_⟩) hC ?_
          rotate_left
          · (intro w hSw; (try dsimp only at hSw); go_simp; first | done | with_reducible rfl)
          simp only [Act.put, List.setIfInBounds_toArray, List.set_cons_zero, List.set_cons_succ]
          refine Late.take (i := 9) (oi := ⟨_, _, _, _, _, _⟩) (v := ?_) rfl (by kernel_rfl) (by kernel_rfl) (by kernel_rfl) (by kernel_rfl) (fun _ _ _ h => h) (Or.inl ⟨by rfl, ?_⟩) hC ?_
          rotate_left
          · (intro w hSw; (try dsimp only at hSw); go_simp; first | done | with_reducible rfl)
          simp only [Act.put, List.setIfInBounds_toArray, List.set_cons_zero, List.set_cons_succ]
          refine Late.take (i := 10) (oi := ⟨_, _, _, _, _, _⟩) (v := ?_) rfl (by kernel_rfl) (by kernel_rfl) (by kernel_rfl) (by kernel_rfl) (fun _ _ _ h => h) (Or.inl ⟨by rfl, ?_⟩) hC ?_
          rotate_left
          · (intro w hSw; (try dsimp only at hSw); go_simp; first | done | with_reducible rfl)
          simp only [Act.put, List.setIfInBounds_toArray, List.set_cons_zero, List.set_cons_succ]
          refine Late.take (i := 11) (oi := ⟨_, _, _, _, _, _⟩) (v := ?_) rfl (by kernel_rfl) (by kernel_rfl) (by kernel_rfl) (by kernel_rfl) (fun _ _ _ h => h) (Or.inl ⟨by rfl, ?_⟩) hC ?_
          rotate_left
          · (intro w hSw; (try dsimp only at hSw); go_simp; first | done | with_reducible rfl)
          simp only [Act.put, List.setIfInBounds_toArray, List.set_cons_zero, List.set_cons_succ]
          refine Late.take (i := 12) (oi := ⟨_, _, _, _, _, _⟩) (v := ?_) rfl (by kernel_rfl) (by kernel_rfl) (by kernel_rfl) (by kernel_rfl) (fun _ _ _ h => h) (Or.inl ⟨by rfl, ?_⟩) hC ?_
          rotate_left
          · (intro w hSw; (try dsimp only at hSw); go_simp; first | done | with_reducible rfl)
          simp only [Act.put, List.setIfInBounds_toArray, List.set_cons_zero, List.set_cons_succ]
          refine Late.take (i := 13) (oi := ⟨_, _, _, _, _, _⟩) (v := ?_) rfl (by kernel_rfl) (by kernel_rfl) (by kernel_rfl) (by kernel_rfl) (fun _ _ _ h => h) (Or.inl ⟨by rfl, ?_⟩) hC ?_
          rotate_left
          · (intro w hSw; (try dsimp only at hSw); go_simp; first | done | with_reducible rfl)
          simp only [Act.put, List.setIfInBounds_toArray, List.set_cons_zero, List.set_cons_succ]
          clear hC hC0
          generalize X2.drew = X at *
          refine Late.one (i := 14) (o := _) (by kernel_rfl) rfl (fun K' hK' => ?_)
          go_simp
          have e1 := HE.out.alloc (.cells #[.int .i64 (n : Int)] 2)
          have g1 := HG.out.ex (Ex.new X (.cells #[.int .i64 (n : Int)] 2))
          have hn1 := cell_one_new X (.int .i64 (n : Int)) 2
          have hz1 : X.heap.size + 1 = (X.alloc (.cells #[.int .i64 (n : Int)] 2)).heap.size := by simp
          have hx1 := Ex.new X (.cells #[.int .i64 (n : Int)] 2)
          refine hK'.out _ _ (fun _ => HCC.out _ e1) (fun _ => ?_)
          clear hK' K'
          generalize X.alloc (.cells #[.int .i64 (n : Int)] 2) = w1 at *
          try simp only [Act.put, List.setIfInBounds_toArray, List.set_cons_zero, List.set_cons_succ]
          refine Late.one (i := 15) (o := _) (by kernel_rfl) rfl (fun K' hK' => ?_)
          rw [if_pos (by rfl)]
          refine wp_append_own _ _ _ 25 rfl wo.heap.size 2 i0 (.int .i64 0) 1 8 Tryd.underlying25 hi hi0 hi1 hi2 rfl (by decide) _ _ _ rfl g1.1 ⟨X.heap.size, 0, none⟩ 1 1 [.int .i64 (n : Int)] rfl rfl hn1 (by simp [Value.oneCell']) (by unfold maxLen; omega) (by omega) (by have := e1.size; omega) ?_
          intro v' w3 hown3 hgrow3 _
          have HE3 := Lib.hid (Ex.grew e1 g1 (Nat.le_refl _) hgrow3)
          have HG3 := Lib.hid (g1.snoc hown3)
          refine hK'.out _ _ (fun _ => HCC.out _ HE3.out) (fun _ => ?_)
          clear hK' K' hown3 hgrow3 g1 e1 hn1 hx1 
          try simp only [Act.put]
          refine Late.one (i := 16) (o := _) (by kernel_rfl) rfl (fun K' hK' => ?_)
          go_simp
          refine hK'.out _ _ (fun h => by cases h) (fun _ => ?_)
          clear hK' K'
          try simp only [Act.put, List.setIfInBounds_toArray, List.set_cons_zero, List.set_cons_succ]
          refine Late.done (by kernel_rfl) ?_ _
          go_wp2_with fail
          go_roundw
          case rel => exact ⟨j + 1, by omega, by go_num, HE3, by rw [HS.out]; exact HG3⟩
          case measure => simp [intOf]; omega
        · obtain rfl : j = K := by omega
          obtain ⟨g, cg, cs, rfl, hzg, hjc, hhas, hget⟩ := row_block HGr.out.1 hK1
          have HHAS := Lib.hid hhas
          have HGET := Lib.hid hget
          have HOM := Lib.hid (own_below HOW.out HEr.out)
          have HRM := Lib.hid (HRO.out.ex HEr.out)
          clear hhas hget
          go_wp2_with (at_builtin; refine wpList_append_own _ rfl _ _ 22 rfl W0.heap.size 25 iS (.slice none 0 0) 1 24 Tryd.underlying22 gi gi0 gi1 gi2 rfl (by decide) _ _ _ rfl (HOM.out.alloc _) ⟨wr.heap.size, 0, none⟩ 1 1 [.slice (some ⟨g, 0, none⟩) j cg] rfl rfl (cell_one_new _ _ _) (by simp [Value.oneCell']) (by unfold maxLen; omega) (by omega) (by have := (HX.out.trans HEr.out).size; simp; omega) ?_; intro v' w3 hown3 hgrow3 _; have HX3 := Lib.hid (Ex.grewR ((HX.out.trans HEr.out).alloc _) (HOM.out.alloc _) (Nat.le_refl _) hgrow3); have HGT := Lib.hid (GrowT.push (V := fun p q => (extN t M us fs p q : Int)) (HOM.out.alloc _) (HRM.out.ex (Ex.new wr _)) (Nat.le_trans HX.out.size hzg) (HHAS.out.alloc _) (fun i hi => (HGET.out i hi).trans (rowP_get hi)) (fun i hi => by have := HGZ.out i hi; omega) hgrow3 hown3); clear hown3 hgrow3)
          go_roundw
          case rel => exact ⟨k + 1, by omega, by go_num, HX3, HGT⟩
          case measure => simp [intOf]; omega
    · obtain rfl : k = K := by omega
      obtain ⟨A, cA, rfl, hO⟩ := HG.out.own
      have HO := Lib.hid hO
      clear hO
      go_wp2_with fail
      go_ret
      refine ⟨A, cA, rfl, HE0.out.trans HX.out, ?_⟩
      rw [HT.out]
      exact HO.out.mono HE0.out.size (Nat.le_refl _) (Nat.le_refl _)

end Go.Proofs.YtenenlpfpkdplaaDoor
