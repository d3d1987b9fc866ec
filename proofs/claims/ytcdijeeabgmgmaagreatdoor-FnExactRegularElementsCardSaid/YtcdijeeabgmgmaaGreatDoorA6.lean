/- Forms of factor sets: the specification's table. -/
import Derived.BigQuiet
import Derived.IntWalk
import Derived.Test.YtcdijeeabgmgmaaGreatDoorGw
import Derived.Test.YtcdijeeabgmgmaaGreatDoorLst
import Derived.Test.YtcdijeeabgmgmaaGreatDoorSh
import Derived.Test.YtcdijeeabgmgmaaGreatDoorA1
namespace Go.Proofs.YtcdijeeabgmgmaaGreatDoor
open Go.RowKit Go.Shelf

attribute [local go_sem] Oper.semAt_some

theorem ints_pr {w : World} {b : Nat} {x y : Int} (h : Has w b 2 #[.int .i64 x, .int .i64 y]) : IntsW w (some ⟨b, 0, none⟩) [x, y] :=
  .inr ⟨b, 0, rfl, h.lt, fun j hj => by
    rw [Nat.zero_add, h.cell j]
    match j, hj with
    | 0, _ => rfl
    | 1, _ => rfl⟩

set_option maxRecDepth 100000 in
set_option maxHeartbeats 8000000 in
theorem l10Form_any (B0 B2 : Option Addr) (t : List (List Int)) (M : Nat) (fs : List Int) (d0 d2 : Nat) (w : World) (hR : RwsW w B0 t) (hF : IntsW w B2 fs) (h : FacF t M fs) :
    Calls Tryz.prog 70 #[.agg #[.slice B0 t.length d0], .int .i64 (M : Int), .agg #[.int .i64 2, .slice B2 fs.length d2]] w fun e w' => ∃ C n, e = .returned (.slice C t.length n) ∧ Ex w w' ∧ OwnT w' w.heap.size w'.heap.size C (mkT t.length t.length (fF t M fs)) := by
  obtain ⟨i0, hi, hi0, hi1, hi2⟩ := info_parts infoI
  obtain ⟨iS, gi, gi0, gi1, gi2⟩ := info_parts infoS
  have hg := h.m.g
  have hn8 := hg.n8
  have hn1 := hg.n1
  have hM2 := h.m.m2
  have hM12 := h.m.m12
  obtain ⟨b, o, bb, oo, C, rfl, hQ⟩ := hR.sq hg
  have HTE := Lib.hid (fun x y (hx : x < t.length) (hy : y < t.length) W (he : Ex w W) => (⟨(hQ.ex he).row_ hx, by rw [(hQ.ex he).ent_ hx hy, hg.ent hx hy]⟩ : W.cell? ⟨b, o + x, none⟩ = some (.slice (some ⟨bb x, oo x, none⟩) t.length (C x)) ∧ W.cell? ⟨bb x, oo x + y, none⟩ = some (.int .i64 (mul t x y : Int))))
  have HAT := Lib.hid (fun x y (hx : x < t.length) (hy : y < t.length) (k : Nat) W (he : Ex w W) (hb : Has W k 2 #[.int .i64 (x : Int), .int .i64 (y : Int)]) => show Calls Tryz.prog 54 #[.agg #[.slice (some ⟨b, o, none⟩) t.length d0], .agg #[.int .i64 2, .slice B2 fs.length d2], .slice (some ⟨k, 0, none⟩) 2 2] W fun e w' => e = .returned (.int .i64 (vF t.length fs x y)) ∧ Ex W w' from l03At_any (some ⟨b, o, none⟩) B2 (some ⟨k, 0, none⟩) 2 t.length fs [(x : Int), (y : Int)] d0 d2 2 W (hF.ex he) (ints_pr hb) hn8 hn1 (by omega) rfl h.len (inR_two hx hy))
  have HVI := Lib.hid (fun x y (hx : x < t.length) (hy : y < t.length) => h.v_in hx hy)
  have HFE : Hid (∀ x y, mul t x y = mul t y x → fF t M fs x y = (vF t.length fs x y - vF t.length fs y x) % (M : Int)) := Lib.hid (fun x y e => by unfold fF dF; rw [if_pos e])
  have HFN : Hid (∀ x y, mul t x y ≠ mul t y x → fF t M fs x y = -1) := Lib.hid (fun x y e => by unfold fF; rw [if_neg e])
  have e0 : Ex w ((w.alloc (.cells #[.slice (some ⟨b, o, none⟩) t.length d0] 32)).alloc (.cells #[.int .i64 2, .slice B2 fs.length d2] 34)) := ((Ex.refl w).alloc _).alloc _
  have b0 : Has ((w.alloc (.cells #[.slice (some ⟨b, o, none⟩) t.length d0] 32)).alloc (.cells #[.int .i64 2, .slice B2 fs.length d2] 34)) (w.heap.size) 32 #[.slice (some ⟨b, o, none⟩) t.length d0] := ((Has.newAt (w := w) (e := 32) (cs := #[.slice (some ⟨b, o, none⟩) t.length d0]) (k := w.heap.size) (by simp)).alloc _)
  have b1 : Has ((w.alloc (.cells #[.slice (some ⟨b, o, none⟩) t.length d0] 32)).alloc (.cells #[.int .i64 2, .slice B2 fs.length d2] 34)) (w.heap.size + 1) 34 #[.int .i64 2, .slice B2 fs.length d2] := (Has.newAt (w := (w.alloc (.cells #[.slice (some ⟨b, o, none⟩) t.length d0] 32))) (e := 34) (cs := #[.int .i64 2, .slice B2 fs.length d2]) (k := w.heap.size + 1) (by simp))
  have HX : Hid (Ex w (((w.alloc (.cells #[.slice (some ⟨b, o, none⟩) t.length d0] 32)).alloc (.cells #[.int .i64 2, .slice B2 fs.length d2] 34)).alloc (.cells #[] 25))) := Lib.hid (e0.alloc _)
  have HA0 := Lib.hid (b0.alloc (.cells #[] 25))
  have HA1 := Lib.hid (b1.alloc (.cells #[] 25))
  obtain ⟨F, hFd⟩ : ∃ F, fF t M fs = F := ⟨_, rfl⟩
  have hg0 := GrowT.empty (lo := w.heap.size) ((w.alloc (.cells #[.slice (some ⟨b, o, none⟩) t.length d0] 32)).alloc (.cells #[.int .i64 2, .slice B2 fs.length d2] 34)) t.length F e0.size
  rw [show ((w.alloc (.cells #[.slice (some ⟨b, o, none⟩) t.length d0] 32)).alloc (.cells #[.int .i64 2, .slice B2 fs.length d2] 34)).heap.size = w.heap.size + 1 + 1 by simp] at hg0
  have HG := Lib.hid hg0
  rw [hFd] at HFE HFN ⊢
  obtain ⟨N, hN⟩ : ∃ N, t.length = N := ⟨_, rfl⟩
  obtain ⟨vf, hvf⟩ : ∃ vf, vF t.length fs = vf := ⟨_, rfl⟩
  obtain ⟨mu, hmu⟩ : ∃ mu, mul t = mu := ⟨_, rfl⟩
  rw [hvf] at HAT HVI HFE
  rw [hmu] at HTE HFE HFN
  rw [hN] at hn8 hn1 HTE HAT HVI HX HA0 HA1 HG ⊢
  clear hR hF h hg hQ b0 b1 e0 hg0 hFd hN hvf hmu
  go_enter Tryz.func70, Tryz.ntmps70
  go_wp2_with fail
  generalize ((w.alloc (.cells #[.slice (some ⟨b, o, none⟩) N d0] 32)).alloc (.cells #[.int .i64 2, .slice B2 fs.length d2] 34)).alloc (.cells #[] 25) = W2 at *
  go_loopw [7, 8] (fun v i wr => ∃ k : Nat, k ≤ N ∧ i = .int .i64 (k : Int) ∧ Hid (Ex w wr) ∧ Hid (Has wr w.heap.size 32 #[.slice (some ⟨b, o, none⟩) N d0]) ∧ Hid (Has wr (w.heap.size + 1) 34 #[.int .i64 2, .slice B2 fs.length d2]) ∧ Hid (GrowT wr w.heap.size v k N F)) (fun _ i _ => N - (intOf i).toNat)
  case atStart => exact ⟨0, Nat.zero_le _, rfl, HX, HA0, HA1, HG⟩
  case round =>
    clear HX HA0 HA1 HG
    obtain ⟨k, hk, rfl, HX, HA0, HA1, HG⟩ := hrel
    have c0 := HA0.out.cell 0
    obtain ⟨A, cA, rfl, -⟩ := HG.out.own
    by_cases hlt : k < N
    · go_wp2_with (go_at_call 40; refine (l01N_ex (some ⟨b, o, none⟩) N d0 wr (by omega)).mono ?_; rintro e wn ⟨rfl, hen⟩)
      have HX1 := Lib.hid (HX.out.trans hen)
      have HB0 := Lib.hid (HA0.out.ex hen)
      have HB1 := Lib.hid (HA1.out.ex hen)
      obtain ⟨G, CC, hown, hrows⟩ := HG.out
      have HOW := Lib.hid (own_below hown hen)
      have HRO := Lib.hid (hrows.ex hen)
      have HGZ := Lib.hid (fun i (hi : i < k) => (Nat.lt_of_lt_of_le (hrows.lt hi) hen.size : G i < wn.heap.size))
      have HE0 := Lib.hid (Ex.new wn (.cells #[] 2))
      have HG0 : Hid (GrowI (wn.alloc (.cells #[] 2)) wn.heap.size (.slice (some ⟨wn.heap.size, 0, none⟩) 0 0) 0 (rowP (fun y => F k y) 0)) := Lib.hid (GrowI.empty (lo := wn.heap.size) wn (Nat.le_refl _))
      clear hown hrows hen HX HA0 HA1 HG c0
      go_wp2_with fail
      generalize wn.alloc (.cells #[] 2) = W3 at *
      go_loopw [9, 10] (fun rv i wr => ∃ j : Nat, j ≤ N ∧ i = .int .i64 (j : Int) ∧ Hid (Ex wn wr) ∧ Hid (GrowI wr wn.heap.size rv j (rowP (fun y => F k y) j))) (fun _ i _ => N - (intOf i).toNat)
      case atStart => exact ⟨0, Nat.zero_le _, rfl, HE0, HG0⟩
      case round =>
        clear HE0 HG0
        obtain ⟨j, hj, rfl, HEr, HGr⟩ := hrel
        have c0 := (HB0.out.ex HEr.out).cell 0
        by_cases hjl : j < N
        · have HS : Hid (rowP (fun y => F k y) (j + 1) = rowP (fun y => F k y) j ++ [F k j]) := Lib.hid (by rw [rowP_snoc])
          have HEK := Lib.hid (fun W (he : Ex wr W) => (⟨(HB0.out.ex (HEr.out.trans he)).cell 0, (HTE.out k j hlt hjl W (HX1.out.trans (HEr.out.trans he))).1, (HTE.out k j hlt hjl W (HX1.out.trans (HEr.out.trans he))).2, (HTE.out j k hjl hlt W (HX1.out.trans (HEr.out.trans he))).1, (HTE.out j k hjl hlt W (HX1.out.trans (HEr.out.trans he))).2⟩ :
            W.cell? ⟨w.heap.size, 0, none⟩ = some (.slice (some ⟨b, o, none⟩) N d0) ∧ W.cell? ⟨b, o + k, none⟩ = some (.slice (some ⟨bb k, oo k, none⟩) N (C k)) ∧ W.cell? ⟨bb k, oo k + j, none⟩ = some (.int .i64 (mu k j : Int)) ∧ W.cell? ⟨b, o + j, none⟩ = some (.slice (some ⟨bb j, oo j, none⟩) N (C j)) ∧ W.cell? ⟨bb j, oo j + k, none⟩ = some (.int .i64 (mu j k : Int))))
          have hk0 : (0 : Int) ≤ (k : Int) := by omega
          have hkN : (k : Int) < (N : Int) := by omega
          have hj0 : (0 : Int) ≤ (j : Int) := by omega
          have hjN : (j : Int) < (N : Int) := by omega
          by_cases hm : mu k j = mu j k
          · have hv1 := HVI.out k j hlt hjl
            have hv2 := HVI.out j k hjl hlt
            have HFZ := Lib.hid (HFE.out k j hm)
            rw [hm] at HEK
            obtain ⟨q, hq⟩ : ∃ q, mu j k = q := ⟨_, rfl⟩
            rw [hq] at HEK
            have HA1 := Lib.hid (HAT.out k j hlt hjl)
            have HA2 := Lib.hid (HAT.out j k hjl hlt)
            obtain ⟨v, hv⟩ : ∃ v, vf k j = v := ⟨_, rfl⟩
            obtain ⟨u, hu⟩ : ∃ u, vf j k = u := ⟨_, rfl⟩
            rw [hv] at hv1 HFZ HA1
            rw [hu] at hv2 HFZ HA2
            have hws : IntKind.i64.wrap (v - u) = v - u := IntWalk.i64_in _ (by omega)
            have HMO := Lib.hid (fun W => l01Mod_e (v - u) M W (by omega) hM12 (by omega) (by omega))
            obtain ⟨z, hz⟩ : ∃ z, (v - u) % (M : Int) = z := ⟨_, rfl⟩
            rw [hz] at HFZ HMO
            rw [HFZ.out] at HS
            clear hm hq hv hu hz hv1 hv2
            go_wp2_with (go_at_call 40; refine (l01N_ex (some ⟨b, o, none⟩) N d0 _ (by omega)).mono ?_; rintro e wm ⟨rfl, hem⟩; have HEM := Lib.hid hem.drew; clear hem c0)
            refine wp_region_quiet (C := fun w' => Ex wm.drew w') (by kernel_rfl) (by kernel_rfl) (Ex.refl _) ?_
            have HSK := Lib.hid (fun W (he : Ex wm.drew W) => HEK.out W (HEM.out.trans he))
            refine BigFrame.wpQuiet_want (by rfl) fun K hK => ⟨?_, fun w' hC => ?_, hK _ ?_⟩
            rotate_left
            · (obtain ⟨q0, q1, q2, q3, q4⟩ := HSK.out _ hC; go_simp; first | done | with_reducible rfl | exact ⟨rfl, hC⟩)
            clear hK K
            simp only [Act.put, List.setIfInBounds_toArray, List.set_cons_zero, List.set_cons_succ]
            refine BigFrame.wpQuiet_want (by rfl) fun K hK => ⟨?_, fun w' hC => ?_, hK _ ?_⟩
            rotate_left
            · (obtain ⟨q0, q1, q2, q3, q4⟩ := HSK.out _ hC; go_simp; first | done | with_reducible rfl | exact ⟨rfl, hC⟩)
            clear hK K
            simp only [Act.put, List.setIfInBounds_toArray, List.set_cons_zero, List.set_cons_succ]
            refine BigFrame.wpQuiet_want (by rfl) fun K hK => ⟨?_, fun w' hC => ?_, hK _ ?_⟩
            rotate_left
            · (obtain ⟨q0, q1, q2, q3, q4⟩ := HSK.out _ hC; go_simp; first | done | with_reducible rfl | exact ⟨rfl, hC⟩)
            clear hK K
            simp only [Act.put, List.setIfInBounds_toArray, List.set_cons_zero, List.set_cons_succ]
            refine BigFrame.wpQuiet_want (by rfl) fun K hK => ⟨?_, fun w' hC => ?_, hK _ ?_⟩
            rotate_left
            · (obtain ⟨q0, q1, q2, q3, q4⟩ := HSK.out _ hC; go_simp; first | done | with_reducible rfl | exact ⟨rfl, hC⟩)
            clear hK K
            simp only [Act.put, List.setIfInBounds_toArray, List.set_cons_zero, List.set_cons_succ]
            refine BigFrame.wpQuiet_want (by rfl) fun K hK => ⟨?_, fun w' hC => ?_, hK _ ?_⟩
            rotate_left
            · (obtain ⟨q0, q1, q2, q3, q4⟩ := HSK.out _ hC; go_simp; first | done | with_reducible rfl | exact ⟨rfl, hC⟩)
            clear hK K
            simp only [Act.put, List.setIfInBounds_toArray, List.set_cons_zero, List.set_cons_succ]
            refine BigFrame.wpQuiet_want (by rfl) fun K hK => ⟨?_, fun w' hC => ?_, hK _ ?_⟩
            rotate_left
            · (obtain ⟨q0, q1, q2, q3, q4⟩ := HSK.out _ hC; go_simp; first | done | with_reducible rfl | exact ⟨rfl, hC⟩)
            clear hK K
            simp only [Act.put, List.setIfInBounds_toArray, List.set_cons_zero, List.set_cons_succ]
            refine BigFrame.wpQuiet_want (by rfl) fun K hK => ⟨?_, fun w' hC => ?_, hK _ ?_⟩
            rotate_left
            · (obtain ⟨q0, q1, q2, q3, q4⟩ := HSK.out _ hC; go_simp; first | done | with_reducible rfl | exact ⟨rfl, hC⟩)
            clear hK K
            simp only [Act.put, List.setIfInBounds_toArray, List.set_cons_zero, List.set_cons_succ]
            refine BigFrame.wpQuiet_want (by rfl) fun K hK => ⟨?_, fun w' hC => ?_, hK _ ?_⟩
            rotate_left
            · (obtain ⟨q0, q1, q2, q3, q4⟩ := HSK.out _ hC; go_simp; first | done | with_reducible rfl | exact ⟨rfl, hC⟩)
            clear hK K
            simp only [Act.put, List.setIfInBounds_toArray, List.set_cons_zero, List.set_cons_succ]
            refine BigFrame.wpQuiet_want (by rfl) fun K hK => ⟨?_, fun w' hC => ?_, hK _ ?_⟩
            rotate_left
            · (obtain ⟨q0, q1, q2, q3, q4⟩ := HSK.out _ hC; go_simp; first | done | with_reducible rfl | exact ⟨rfl, hC⟩)
            clear hK K
            simp only [Act.put, List.setIfInBounds_toArray, List.set_cons_zero, List.set_cons_succ]
            refine BigFrame.wpQuiet_want (by rfl) fun K hK => ⟨?_, fun w' hC => ?_, hK _ ?_⟩
            rotate_left
            · (obtain ⟨q0, q1, q2, q3, q4⟩ := HSK.out _ hC; go_simp; first | done | with_reducible rfl | exact ⟨rfl, hC⟩)
            clear hK K
            simp only [Act.put, List.setIfInBounds_toArray, List.set_cons_zero, List.set_cons_succ]
            refine BigFrame.wpQuiet_want (by rfl) fun K hK => ⟨?_, fun w' hC => ?_, hK _ ?_⟩
            rotate_left
            · (obtain ⟨q0, q1, q2, q3, q4⟩ := HSK.out _ hC; go_simp; first | done | with_reducible rfl | exact ⟨rfl, hC⟩)
            clear hK K
            simp only [Act.put, List.setIfInBounds_toArray, List.set_cons_zero, List.set_cons_succ]
            refine BigFrame.wpQuiet_want (by rfl) fun K hK => ⟨?_, fun w' hC => ?_, hK _ ?_⟩
            rotate_left
            · (obtain ⟨q0, q1, q2, q3, q4⟩ := HSK.out _ hC; go_simp; first | done | with_reducible rfl | exact ⟨rfl, hC⟩)
            clear hK K
            simp only [Act.put, List.setIfInBounds_toArray, List.set_cons_zero, List.set_cons_succ]
            refine BigFrame.wpQuiet_want (by rfl) fun K hK => ⟨?_, fun w' hC => ?_, hK _ ?_⟩
            rotate_left
            · (obtain ⟨q0, q1, q2, q3, q4⟩ := HSK.out _ hC; go_simp; first | done | with_reducible rfl | exact ⟨rfl, hC⟩)
            clear hK K
            simp only [Act.put, List.setIfInBounds_toArray, List.set_cons_zero, List.set_cons_succ]
            refine BigFrame.wpQuiet_want (by rfl) fun K hK => ⟨?_, fun w' hC => ?_, hK _ ?_⟩
            rotate_left
            · (obtain ⟨q0, q1, q2, q3, q4⟩ := HSK.out _ hC; go_simp; first | done | with_reducible rfl | exact ⟨rfl, hC⟩)
            clear hK K
            simp only [Act.put, List.setIfInBounds_toArray, List.set_cons_zero, List.set_cons_succ]
            refine BigFrame.wpQuiet_want (by rfl) fun K hK => ⟨?_, fun w' hC => ?_, hK _ ?_⟩
            rotate_left
            · (obtain ⟨q0, q1, q2, q3, q4⟩ := HSK.out _ hC; go_simp; first | done | with_reducible rfl | exact ⟨rfl, hC⟩)
            clear hK K
            simp only [Act.put, List.setIfInBounds_toArray, List.set_cons_zero, List.set_cons_succ]
            refine BigFrame.wpQuiet_want (by rfl) fun K hK => ⟨?_, fun w' hC => ?_, hK _ ?_⟩
            rotate_left
            · (obtain ⟨q0, q1, q2, q3, q4⟩ := HSK.out _ hC; go_simp; first | done | with_reducible rfl | exact ⟨rfl, hC⟩)
            clear hK K
            simp only [Act.put, List.setIfInBounds_toArray, List.set_cons_zero, List.set_cons_succ]
            refine BigFrame.wpQuiet_want (by rfl) fun K hK => ⟨?_, fun w' hC => ?_, hK _ ?_⟩
            rotate_left
            · (obtain ⟨q0, q1, q2, q3, q4⟩ := HSK.out _ hC; go_simp; first | done | with_reducible rfl | exact ⟨rfl, hC⟩)
            clear hK K
            simp only [Act.put, List.setIfInBounds_toArray, List.set_cons_zero, List.set_cons_succ]
            refine wpQuiet_nil ?_
            intro w2 hC2
            have HC2 := Lib.hid hC2
            clear hC2
            go_wp2_with fail
            have HX9 := Lib.hid ((HEM.out.trans HC2.out).drew)
            have HGq := HGr
            have HGr := Lib.hid (HGq.out.ex HX9.out)
            have HCC := Lib.hid (fun W (he : Ex wn W) => (⟨(HB0.out.ex he).cell 0, (HB1.out.ex he).cell 0, (HB1.out.ex he).cell 1⟩ :
              W.cell? ⟨w.heap.size, 0, none⟩ = some (.slice (some ⟨b, o, none⟩) N d0) ∧ W.cell? ⟨w.heap.size + 1, 0, none⟩ = some (.int .i64 2) ∧ W.cell? ⟨w.heap.size + 1, 1, none⟩ = some (.slice B2 fs.length d2)))
            have HA1 := Lib.hid (fun (p : Nat) W (he : Ex wn W) hb => HA1.out p W (HX1.out.trans he) hb)
            have HA2 := Lib.hid (fun (p : Nat) W (he : Ex wn W) hb => HA2.out p W (HX1.out.trans he) hb)
            have ex_X := HEr.out.trans HX9.out
            have hC0 := HCC.out _ ex_X
            refine Late.region (C := fun W => W.cell? ⟨w.heap.size, 0, none⟩ = some (.slice (some ⟨b, o, none⟩) N d0) ∧ W.cell? ⟨w.heap.size + 1, 0, none⟩ = some (.int .i64 2) ∧ W.cell? ⟨w.heap.size + 1, 1, none⟩ = some (.slice B2 fs.length d2)) (fun j => decide (j < 18)) (by kernel_rfl) hC0 (fun hC => ?_)
            clear hC0 HEK HEM HSK HGq HC2 HX9 HEr
            obtain ⟨X, hX⟩ : ∃ X, w2.drew = X := ⟨_, rfl⟩
            rw [hX] at HGr ex_X hC ⊢
            clear hX
            refine Late.take (i := 0) (oi := ⟨_, _, _, _, _, _⟩) (v := ?_) rfl (by kernel_rfl) (by kernel_rfl) (by kernel_rfl) (by kernel_rfl) (fun _ _ _ h => h) (Or.inl ⟨by rfl, ?_⟩) hC ?_
            rotate_left
            · (intro w hSw; (try dsimp only at hSw); go_simp; first | done | with_reducible rfl)
            simp only [Act.put, List.setIfInBounds_toArray, List.set_cons_zero, List.set_cons_succ]
            refine Late.take (i := 1) (oi := ⟨_, _, _, _, _, _⟩) (v := ?_) rfl (by kernel_rfl) (by kernel_rfl) (by kernel_rfl) (by kernel_rfl) (fun _ _ _ h => h) (Or.inl ⟨by rfl, ?_⟩) hC ?_
            rotate_left
            · (intro w hSw; (try dsimp only at hSw); go_simp; first | done | with_reducible rfl)
            simp only [Act.put, List.setIfInBounds_toArray, List.set_cons_zero, List.set_cons_succ]
            refine Late.take (i := 2) (oi := ⟨_, _, _, _, _, _⟩) (v := ?_) rfl (by kernel_rfl) (by kernel_rfl) (by kernel_rfl) (by kernel_rfl) (fun _ _ _ h => h) (Or.inl ⟨by rfl, ?_⟩) hC ?_
            rotate_left
            · (intro w hSw; (try dsimp only at hSw); go_simp; first | done | with_reducible rfl)
            simp only [Act.put, List.setIfInBounds_toArray, List.set_cons_zero, List.set_cons_succ]
            refine Late.take (i := 3) (oi := ⟨_, _, _, _, _, _⟩) (v := ?_) rfl (by kernel_rfl) (by kernel_rfl) (by kernel_rfl) (by kernel_rfl) (fun _ _ _ h => h) (Or.inl ⟨by rfl, ?_⟩) hC ?_
            rotate_left
            · (intro w hSw; (try dsimp only at hSw); go_simp; first | done | with_reducible rfl)
            simp only [Act.put, List.setIfInBounds_toArray, List.set_cons_zero, List.set_cons_succ]
            refine Late.take (i := 4) (oi := ⟨_, _, _, _, _, _⟩) (v := ?_) rfl (by kernel_rfl) (by kernel_rfl) (by kernel_rfl) (by kernel_rfl) (fun _ _ _ h => h) (Or.inl ⟨by rfl, ?_⟩) hC ?_
            rotate_left
            · (intro w hSw; (try dsimp only at hSw); go_simp; first | done | with_reducible rfl)
            simp only [Act.put, List.setIfInBounds_toArray, List.set_cons_zero, List.set_cons_succ]
            refine Late.take (i := 7) (oi := ⟨_, _, _, _, _, _⟩) (v := ?_) rfl (by kernel_rfl) (by kernel_rfl) (by kernel_rfl) (by kernel_rfl) (fun _ _ _ h => h) (Or.inl ⟨by rfl, ?_⟩) hC ?_
            rotate_left
            · (intro w hSw; (try dsimp only at hSw); go_simp; first | done | with_reducible rfl)
            simp only [Act.put, List.setIfInBounds_toArray, List.set_cons_zero, List.set_cons_succ]
            refine Late.take (i := 8) (oi := ⟨_, _, _, _, _, _⟩) (v := ?_) rfl (by kernel_rfl) (by kernel_rfl) (by kernel_rfl) (by kernel_rfl) (fun _ _ _ h => h) (Or.inl ⟨by rfl, ?_⟩) hC ?_
            rotate_left
            · (intro w hSw; (try dsimp only at hSw); go_simp; first | done | with_reducible rfl)
            simp only [Act.put, List.setIfInBounds_toArray, List.set_cons_zero, List.set_cons_succ]
            refine Late.take (i := 9) (oi := ⟨_, _, _, _, _, _⟩) (v := ?_) rfl (by kernel_rfl) (by kernel_rfl) (by kernel_rfl) (by kernel_rfl) (fun _ _ _ h => h) (Or.inl ⟨by rfl, ?_⟩) hC ?_
            rotate_left
            · (intro w hSw; (try dsimp only at hSw); go_simp; first | done | with_reducible rfl)
            simp only [Act.put, List.setIfInBounds_toArray, List.set_cons_zero, List.set_cons_succ]
            refine Late.take (i := 10) (oi := ⟨_, _, _, _, _, _⟩) (v := ?_) rfl (by kernel_rfl) (by kernel_rfl) (by kernel_rfl) (by kernel_rfl) (fun _ _ _ h => h) (Or.inl ⟨by rfl, ?_⟩) hC ?_
            rotate_left
            · (intro w hSw; (try dsimp only at hSw); go_simp; first | done | with_reducible rfl)
            simp only [Act.put, List.setIfInBounds_toArray, List.set_cons_zero, List.set_cons_succ]
            refine Late.take (i := 14) (oi := ⟨_, _, _, _, _, _⟩) (v := ?_) rfl (by kernel_rfl) (by kernel_rfl) (by kernel_rfl) (by kernel_rfl) (fun _ _ _ h => h) (Or.inl ⟨by rfl, ?_⟩) hC ?_
            rotate_left
            · (intro w hSw; (try dsimp only at hSw); go_simp; first | done | with_reducible rfl)
            simp only [Act.put, List.setIfInBounds_toArray, List.set_cons_zero, List.set_cons_succ]
            clear hC
            have hgr := HGr.out
            refine Late.two (i := 5) (j := 11) (oi := _) (oj := _) (by kernel_rfl) rfl rfl (fun K' hK' => ?_) (fun K' hK' => ?_)
            · try rw [if_pos (by rfl)]
              go_simp
              have ex_X1 := ex_X.alloc (.cells #[.int .i64 (k : Int), .int .i64 (j : Int)] 2)
              have hb1 := Has.new X 2 #[.int .i64 (k : Int), .int .i64 (j : Int)]
              have hgr := hgr.ex (Ex.new X (.cells #[.int .i64 (k : Int), .int .i64 (j : Int)] 2))
              refine hK'.out _ _ (fun _ => HCC.out _ ex_X1) (fun _ => ?_)
              clear hK' K'
              obtain ⟨p_hb1, hp_hb1⟩ : ∃ q, X.heap.size = q := ⟨_, rfl⟩
              rw [hp_hb1] at hb1 ⊢
              generalize X.alloc (.cells #[.int .i64 (k : Int), .int .i64 (j : Int)] 2) = X1 at *
              try simp only [Act.put, List.setIfInBounds_toArray, List.set_cons_zero, List.set_cons_succ]
              refine Late.two (i := 6) (j := 11) (oi := _) (oj := _) (by kernel_rfl) rfl rfl (fun K' hK' => ?_) (fun K' hK' => ?_)
              · try rw [if_pos (by rfl)]
                go_simp
                refine (HA1.out _ X1 ex_X1 hb1).mono ?_
                rintro e X2 ⟨rfl, he_X2⟩
                have ex_X2 := ex_X1.trans he_X2
                have hgr := hgr.ex he_X2
                refine hK'.out _ _ (fun _ => HCC.out _ ex_X2) (fun _ => ?_)
                clear hK' K'
                try simp only [Act.put, List.setIfInBounds_toArray, List.set_cons_zero, List.set_cons_succ]
                refine Late.one (i := 11) (o := _) (by kernel_rfl) rfl (fun K' hK' => ?_)
                try rw [if_pos (by rfl)]
                go_simp
                have ex_X3 := ex_X2.alloc (.cells #[.int .i64 (j : Int), .int .i64 (k : Int)] 2)
                have hb2 := Has.new X2 2 #[.int .i64 (j : Int), .int .i64 (k : Int)]
                have hgr := hgr.ex (Ex.new X2 (.cells #[.int .i64 (j : Int), .int .i64 (k : Int)] 2))
                refine hK'.out _ _ (fun _ => HCC.out _ ex_X3) (fun _ => ?_)
                clear hK' K'
                obtain ⟨p_hb2, hp_hb2⟩ : ∃ q, X2.heap.size = q := ⟨_, rfl⟩
                rw [hp_hb2] at hb2 ⊢
                generalize X2.alloc (.cells #[.int .i64 (j : Int), .int .i64 (k : Int)] 2) = X3 at *
                try simp only [Act.put, List.setIfInBounds_toArray, List.set_cons_zero, List.set_cons_succ]
                refine Late.one (i := 12) (o := _) (by kernel_rfl) rfl (fun K' hK' => ?_)
                try rw [if_pos (by rfl)]
                go_simp
                refine (HA2.out _ X3 ex_X3 hb2).mono ?_
                rintro e X4 ⟨rfl, he_X4⟩
                have ex_X4 := ex_X3.trans he_X4
                have hgr := hgr.ex he_X4
                refine hK'.out _ _ (fun _ => HCC.out _ ex_X4) (fun _ => ?_)
                clear hK' K'
                try simp only [Act.put, List.setIfInBounds_toArray, List.set_cons_zero, List.set_cons_succ]
                have hCX := HCC.out _ ex_X4
                refine Late.take (i := 13) (oi := ⟨_, _, _, _, _, _⟩) (v := ?_) rfl (by kernel_rfl) (by kernel_rfl) (by kernel_rfl) (by kernel_rfl) (fun _ _ _ h => h) (Or.inl ⟨by rfl, ?_⟩) hCX ?_
                rotate_left
                · (intro w hSw; (try dsimp only at hSw); go_simp; first | done | with_reducible rfl)
                simp only [Act.put, List.setIfInBounds_toArray, List.set_cons_zero, List.set_cons_succ]
                refine Late.one (i := 15) (o := _) (by kernel_rfl) rfl (fun K' hK' => ?_)
                try rw [if_pos (by rfl)]
                go_simp
                refine (HMO.out _).mono ?_
                rintro e X9 ⟨rfl, he9⟩
                have HE := Lib.hid (ex_X4.trans he9)
                have HG := Lib.hid (hgr.ex he9)
                have hzw := HE.out.size
                refine hK'.out _ _ (fun _ => HCC.out _ HE.out) (fun _ => ?_)
                clear hK' K' hCX
                try simp only [Act.put, List.setIfInBounds_toArray, List.set_cons_zero, List.set_cons_succ]
                refine Late.one (i := 16) (o := _) (by kernel_rfl) rfl (fun K' hK' => ?_)
                go_simp
                have e1 := HE.out.alloc (.cells #[.int .i64 (z : Int)] 2)
                have g1 := HG.out.ex (Ex.new X9 (.cells #[.int .i64 (z : Int)] 2))
                have hn1 := cell_one_new X9 (.int .i64 (z : Int)) 2
                have hz1 : X9.heap.size + 1 = (X9.alloc (.cells #[.int .i64 (z : Int)] 2)).heap.size := by simp
                have hx1 := Ex.new X9 (.cells #[.int .i64 (z : Int)] 2)
                refine hK'.out _ _ (fun _ => HCC.out _ e1) (fun _ => ?_)
                clear hK' K'
                generalize X9.alloc (.cells #[.int .i64 (z : Int)] 2) = w1 at *
                try simp only [Act.put, List.setIfInBounds_toArray, List.set_cons_zero, List.set_cons_succ]
                refine Late.one (i := 17) (o := _) (by kernel_rfl) rfl (fun K' hK' => ?_)
                rw [if_pos (by rfl)]
                refine wp_append_own _ _ _ 25 rfl wn.heap.size 2 i0 (.int .i64 0) 1 8 Tryz.underlying25 hi hi0 hi1 hi2 rfl (by decide) _ _ _ rfl g1.1 ⟨X9.heap.size, 0, none⟩ 1 1 [.int .i64 (z : Int)] rfl rfl hn1 (by simp [Value.oneCell']) (by unfold maxLen; omega) (by omega) (by have := e1.size; omega) ?_
                intro v' w3 hown3 hgrow3 _
                have HE3 := Lib.hid (Ex.grew e1 g1 (Nat.le_refl _) hgrow3)
                have HG3 := Lib.hid (g1.snoc hown3)
                refine hK'.out _ _ (fun _ => HCC.out _ HE3.out) (fun _ => ?_)
                clear hK' K' hown3 hgrow3 g1 e1 hn1 hx1 
                try simp only [Act.put]
                refine Late.one (i := 18) (o := _) (by kernel_rfl) rfl (fun K' hK' => ?_)
                go_simp
                refine hK'.out _ _ (fun h => by cases h) (fun _ => ?_)
                clear hK' K'
                try simp only [Act.put, List.setIfInBounds_toArray, List.set_cons_zero, List.set_cons_succ]
                refine Late.done (by kernel_rfl) ?_ _
                go_wp2_with fail
                go_roundw
                case rel => exact ⟨j + 1, by omega, by go_num, HE3, by rw [HS.out]; exact HG3⟩
                case measure => simp [intOf]; omega
              · try rw [if_pos (by rfl)]
                go_simp
                have ex_X2 := ex_X1.alloc (.cells #[.int .i64 (j : Int), .int .i64 (k : Int)] 2)
                have hb2 := Has.new X1 2 #[.int .i64 (j : Int), .int .i64 (k : Int)]
                have hb1 := hb1.ex (Ex.new X1 (.cells #[.int .i64 (j : Int), .int .i64 (k : Int)] 2))
                have hgr := hgr.ex (Ex.new X1 (.cells #[.int .i64 (j : Int), .int .i64 (k : Int)] 2))
                refine hK'.out _ _ (fun _ => HCC.out _ ex_X2) (fun _ => ?_)
                clear hK' K'
                obtain ⟨p_hb2, hp_hb2⟩ : ∃ q, X1.heap.size = q := ⟨_, rfl⟩
                rw [hp_hb2] at hb2 ⊢
                generalize X1.alloc (.cells #[.int .i64 (j : Int), .int .i64 (k : Int)] 2) = X2 at *
                try simp only [Act.put, List.setIfInBounds_toArray, List.set_cons_zero, List.set_cons_succ]
                refine Late.one (i := 6) (o := _) (by kernel_rfl) rfl (fun K' hK' => ?_)
                try rw [if_pos (by rfl)]
                go_simp
                refine (HA1.out _ X2 ex_X2 hb1).mono ?_
                rintro e X3 ⟨rfl, he_X3⟩
                have ex_X3 := ex_X2.trans he_X3
                have hb2 := hb2.ex he_X3
                have hgr := hgr.ex he_X3
                refine hK'.out _ _ (fun _ => HCC.out _ ex_X3) (fun _ => ?_)
                clear hK' K'
                try simp only [Act.put, List.setIfInBounds_toArray, List.set_cons_zero, List.set_cons_succ]
                refine Late.one (i := 12) (o := _) (by kernel_rfl) rfl (fun K' hK' => ?_)
                try rw [if_pos (by rfl)]
                go_simp
                refine (HA2.out _ X3 ex_X3 hb2).mono ?_
                rintro e X4 ⟨rfl, he_X4⟩
                have ex_X4 := ex_X3.trans he_X4
                have hgr := hgr.ex he_X4
                refine hK'.out _ _ (fun _ => HCC.out _ ex_X4) (fun _ => ?_)
                clear hK' K'
                try simp only [Act.put, List.setIfInBounds_toArray, List.set_cons_zero, List.set_cons_succ]
                have hCX := HCC.out _ ex_X4
                refine Late.take (i := 13) (oi := ⟨_, _, _, _, _, _⟩) (v := ?_) rfl (by kernel_rfl) (by kernel_rfl) (by kernel_rfl) (by kernel_rfl) (fun _ _ _ h => h) (Or.inl ⟨by rfl, ?_⟩) hCX ?_
                rotate_left
                · (intro w hSw; (try dsimp only at hSw); go_simp; first | done | with_reducible rfl)
                simp only [Act.put, List.setIfInBounds_toArray, List.set_cons_zero, List.set_cons_succ]
                refine Late.one (i := 15) (o := _) (by kernel_rfl) rfl (fun K' hK' => ?_)
                try rw [if_pos (by rfl)]
                go_simp
                refine (HMO.out _).mono ?_
                rintro e X9 ⟨rfl, he9⟩
                have HE := Lib.hid (ex_X4.trans he9)
                have HG := Lib.hid (hgr.ex he9)
                have hzw := HE.out.size
                refine hK'.out _ _ (fun _ => HCC.out _ HE.out) (fun _ => ?_)
                clear hK' K' hCX
                try simp only [Act.put, List.setIfInBounds_toArray, List.set_cons_zero, List.set_cons_succ]
                refine Late.one (i := 16) (o := _) (by kernel_rfl) rfl (fun K' hK' => ?_)
                go_simp
                have e1 := HE.out.alloc (.cells #[.int .i64 (z : Int)] 2)
                have g1 := HG.out.ex (Ex.new X9 (.cells #[.int .i64 (z : Int)] 2))
                have hn1 := cell_one_new X9 (.int .i64 (z : Int)) 2
                have hz1 : X9.heap.size + 1 = (X9.alloc (.cells #[.int .i64 (z : Int)] 2)).heap.size := by simp
                have hx1 := Ex.new X9 (.cells #[.int .i64 (z : Int)] 2)
                refine hK'.out _ _ (fun _ => HCC.out _ e1) (fun _ => ?_)
                clear hK' K'
                generalize X9.alloc (.cells #[.int .i64 (z : Int)] 2) = w1 at *
                try simp only [Act.put, List.setIfInBounds_toArray, List.set_cons_zero, List.set_cons_succ]
                refine Late.one (i := 17) (o := _) (by kernel_rfl) rfl (fun K' hK' => ?_)
                rw [if_pos (by rfl)]
                refine wp_append_own _ _ _ 25 rfl wn.heap.size 2 i0 (.int .i64 0) 1 8 Tryz.underlying25 hi hi0 hi1 hi2 rfl (by decide) _ _ _ rfl g1.1 ⟨X9.heap.size, 0, none⟩ 1 1 [.int .i64 (z : Int)] rfl rfl hn1 (by simp [Value.oneCell']) (by unfold maxLen; omega) (by omega) (by have := e1.size; omega) ?_
                intro v' w3 hown3 hgrow3 _
                have HE3 := Lib.hid (Ex.grew e1 g1 (Nat.le_refl _) hgrow3)
                have HG3 := Lib.hid (g1.snoc hown3)
                refine hK'.out _ _ (fun _ => HCC.out _ HE3.out) (fun _ => ?_)
                clear hK' K' hown3 hgrow3 g1 e1 hn1 hx1 
                try simp only [Act.put]
                refine Late.one (i := 18) (o := _) (by kernel_rfl) rfl (fun K' hK' => ?_)
                go_simp
                refine hK'.out _ _ (fun h => by cases h) (fun _ => ?_)
                clear hK' K'
                try simp only [Act.put, List.setIfInBounds_toArray, List.set_cons_zero, List.set_cons_succ]
                refine Late.done (by kernel_rfl) ?_ _
                go_wp2_with fail
                go_roundw
                case rel => exact ⟨j + 1, by omega, by go_num, HE3, by rw [HS.out]; exact HG3⟩
                case measure => simp [intOf]; omega
            · try rw [if_pos (by rfl)]
              go_simp
              have ex_X1 := ex_X.alloc (.cells #[.int .i64 (j : Int), .int .i64 (k : Int)] 2)
              have hb2 := Has.new X 2 #[.int .i64 (j : Int), .int .i64 (k : Int)]
              have hgr := hgr.ex (Ex.new X (.cells #[.int .i64 (j : Int), .int .i64 (k : Int)] 2))
              refine hK'.out _ _ (fun _ => HCC.out _ ex_X1) (fun _ => ?_)
              clear hK' K'
              obtain ⟨p_hb2, hp_hb2⟩ : ∃ q, X.heap.size = q := ⟨_, rfl⟩
              rw [hp_hb2] at hb2 ⊢
              generalize X.alloc (.cells #[.int .i64 (j : Int), .int .i64 (k : Int)] 2) = X1 at *
              try simp only [Act.put, List.setIfInBounds_toArray, List.set_cons_zero, List.set_cons_succ]
              refine Late.one (i := 5) (o := _) (by kernel_rfl) rfl (fun K' hK' => ?_)
              try rw [if_pos (by rfl)]
              go_simp
              have ex_X2 := ex_X1.alloc (.cells #[.int .i64 (k : Int), .int .i64 (j : Int)] 2)
              have hb1 := Has.new X1 2 #[.int .i64 (k : Int), .int .i64 (j : Int)]
              have hb2 := hb2.ex (Ex.new X1 (.cells #[.int .i64 (k : Int), .int .i64 (j : Int)] 2))
              have hgr := hgr.ex (Ex.new X1 (.cells #[.int .i64 (k : Int), .int .i64 (j : Int)] 2))
              refine hK'.out _ _ (fun _ => HCC.out _ ex_X2) (fun _ => ?_)
              clear hK' K'
              obtain ⟨p_hb1, hp_hb1⟩ : ∃ q, X1.heap.size = q := ⟨_, rfl⟩
              rw [hp_hb1] at hb1 ⊢
              generalize X1.alloc (.cells #[.int .i64 (k : Int), .int .i64 (j : Int)] 2) = X2 at *
              try simp only [Act.put, List.setIfInBounds_toArray, List.set_cons_zero, List.set_cons_succ]
              refine Late.one (i := 6) (o := _) (by kernel_rfl) rfl (fun K' hK' => ?_)
              try rw [if_pos (by rfl)]
              go_simp
              refine (HA1.out _ X2 ex_X2 hb1).mono ?_
              rintro e X3 ⟨rfl, he_X3⟩
              have ex_X3 := ex_X2.trans he_X3
              have hb2 := hb2.ex he_X3
              have hgr := hgr.ex he_X3
              refine hK'.out _ _ (fun _ => HCC.out _ ex_X3) (fun _ => ?_)
              clear hK' K'
              try simp only [Act.put, List.setIfInBounds_toArray, List.set_cons_zero, List.set_cons_succ]
              refine Late.one (i := 12) (o := _) (by kernel_rfl) rfl (fun K' hK' => ?_)
              try rw [if_pos (by rfl)]
              go_simp
              refine (HA2.out _ X3 ex_X3 hb2).mono ?_
              rintro e X4 ⟨rfl, he_X4⟩
              have ex_X4 := ex_X3.trans he_X4
              have hgr := hgr.ex he_X4
              refine hK'.out _ _ (fun _ => HCC.out _ ex_X4) (fun _ => ?_)
              clear hK' K'
              try simp only [Act.put, List.setIfInBounds_toArray, List.set_cons_zero, List.set_cons_succ]
              have hCX := HCC.out _ ex_X4
              refine Late.take (i := 13) (oi := ⟨_, _, _, _, _, _⟩) (v := ?_) rfl (by kernel_rfl) (by kernel_rfl) (by kernel_rfl) (by kernel_rfl) (fun _ _ _ h => h) (Or.inl ⟨by rfl, ?_⟩) hCX ?_
              rotate_left
              · (intro w hSw; (try dsimp only at hSw); go_simp; first | done | with_reducible rfl)
              simp only [Act.put, List.setIfInBounds_toArray, List.set_cons_zero, List.set_cons_succ]
              refine Late.one (i := 15) (o := _) (by kernel_rfl) rfl (fun K' hK' => ?_)
              try rw [if_pos (by rfl)]
              go_simp
              refine (HMO.out _).mono ?_
              rintro e X9 ⟨rfl, he9⟩
              have HE := Lib.hid (ex_X4.trans he9)
              have HG := Lib.hid (hgr.ex he9)
              have hzw := HE.out.size
              refine hK'.out _ _ (fun _ => HCC.out _ HE.out) (fun _ => ?_)
              clear hK' K' hCX
              try simp only [Act.put, List.setIfInBounds_toArray, List.set_cons_zero, List.set_cons_succ]
              refine Late.one (i := 16) (o := _) (by kernel_rfl) rfl (fun K' hK' => ?_)
              go_simp
              have e1 := HE.out.alloc (.cells #[.int .i64 (z : Int)] 2)
              have g1 := HG.out.ex (Ex.new X9 (.cells #[.int .i64 (z : Int)] 2))
              have hn1 := cell_one_new X9 (.int .i64 (z : Int)) 2
              have hz1 : X9.heap.size + 1 = (X9.alloc (.cells #[.int .i64 (z : Int)] 2)).heap.size := by simp
              have hx1 := Ex.new X9 (.cells #[.int .i64 (z : Int)] 2)
              refine hK'.out _ _ (fun _ => HCC.out _ e1) (fun _ => ?_)
              clear hK' K'
              generalize X9.alloc (.cells #[.int .i64 (z : Int)] 2) = w1 at *
              try simp only [Act.put, List.setIfInBounds_toArray, List.set_cons_zero, List.set_cons_succ]
              refine Late.one (i := 17) (o := _) (by kernel_rfl) rfl (fun K' hK' => ?_)
              rw [if_pos (by rfl)]
              refine wp_append_own _ _ _ 25 rfl wn.heap.size 2 i0 (.int .i64 0) 1 8 Tryz.underlying25 hi hi0 hi1 hi2 rfl (by decide) _ _ _ rfl g1.1 ⟨X9.heap.size, 0, none⟩ 1 1 [.int .i64 (z : Int)] rfl rfl hn1 (by simp [Value.oneCell']) (by unfold maxLen; omega) (by omega) (by have := e1.size; omega) ?_
              intro v' w3 hown3 hgrow3 _
              have HE3 := Lib.hid (Ex.grew e1 g1 (Nat.le_refl _) hgrow3)
              have HG3 := Lib.hid (g1.snoc hown3)
              refine hK'.out _ _ (fun _ => HCC.out _ HE3.out) (fun _ => ?_)
              clear hK' K' hown3 hgrow3 g1 e1 hn1 hx1 
              try simp only [Act.put]
              refine Late.one (i := 18) (o := _) (by kernel_rfl) rfl (fun K' hK' => ?_)
              go_simp
              refine hK'.out _ _ (fun h => by cases h) (fun _ => ?_)
              clear hK' K'
              try simp only [Act.put, List.setIfInBounds_toArray, List.set_cons_zero, List.set_cons_succ]
              refine Late.done (by kernel_rfl) ?_ _
              go_wp2_with fail
              go_roundw
              case rel => exact ⟨j + 1, by omega, by go_num, HE3, by rw [HS.out]; exact HG3⟩
              case measure => simp [intOf]; omega
          · have HFZ := Lib.hid (HFN.out k j hm)
            rw [HFZ.out] at HS
            obtain ⟨p, hp⟩ : ∃ p, mu k j = p := ⟨_, rfl⟩
            obtain ⟨q, hq⟩ : ∃ q, mu j k = q := ⟨_, rfl⟩
            rw [hp, hq] at HEK hm
            have hne : ((p : Int) != (q : Int)) = true := by simpa using fun e => hm (by omega)
            clear hm hp hq
            go_wp2_with (go_at_call 40; refine (l01N_ex (some ⟨b, o, none⟩) N d0 _ (by omega)).mono ?_; rintro e wm ⟨rfl, hem⟩; have HEM := Lib.hid hem.drew; clear hem c0)
            refine wp_region_quiet (C := fun w' => Ex wm.drew w') (by kernel_rfl) (by kernel_rfl) (Ex.refl _) ?_
            have HSK := Lib.hid (fun W (he : Ex wm.drew W) => HEK.out W (HEM.out.trans he))
            refine BigFrame.wpQuiet_want (by rfl) fun K hK => ⟨?_, fun w' hC => ?_, hK _ ?_⟩
            rotate_left
            · (obtain ⟨q0, q1, q2, q3, q4⟩ := HSK.out _ hC; go_simp; first | done | with_reducible rfl | exact ⟨rfl, hC⟩)
            clear hK K
            simp only [Act.put, List.setIfInBounds_toArray, List.set_cons_zero, List.set_cons_succ]
            refine BigFrame.wpQuiet_want (by rfl) fun K hK => ⟨?_, fun w' hC => ?_, hK _ ?_⟩
            rotate_left
            · (obtain ⟨q0, q1, q2, q3, q4⟩ := HSK.out _ hC; go_simp; first | done | with_reducible rfl | exact ⟨rfl, hC⟩)
            clear hK K
            simp only [Act.put, List.setIfInBounds_toArray, List.set_cons_zero, List.set_cons_succ]
            refine BigFrame.wpQuiet_want (by rfl) fun K hK => ⟨?_, fun w' hC => ?_, hK _ ?_⟩
            rotate_left
            · (obtain ⟨q0, q1, q2, q3, q4⟩ := HSK.out _ hC; go_simp; first | done | with_reducible rfl | exact ⟨rfl, hC⟩)
            clear hK K
            simp only [Act.put, List.setIfInBounds_toArray, List.set_cons_zero, List.set_cons_succ]
            refine BigFrame.wpQuiet_want (by rfl) fun K hK => ⟨?_, fun w' hC => ?_, hK _ ?_⟩
            rotate_left
            · (obtain ⟨q0, q1, q2, q3, q4⟩ := HSK.out _ hC; go_simp; first | done | with_reducible rfl | exact ⟨rfl, hC⟩)
            clear hK K
            simp only [Act.put, List.setIfInBounds_toArray, List.set_cons_zero, List.set_cons_succ]
            refine BigFrame.wpQuiet_want (by rfl) fun K hK => ⟨?_, fun w' hC => ?_, hK _ ?_⟩
            rotate_left
            · (obtain ⟨q0, q1, q2, q3, q4⟩ := HSK.out _ hC; go_simp; first | done | with_reducible rfl | exact ⟨rfl, hC⟩)
            clear hK K
            simp only [Act.put, List.setIfInBounds_toArray, List.set_cons_zero, List.set_cons_succ]
            refine BigFrame.wpQuiet_want (by rfl) fun K hK => ⟨?_, fun w' hC => ?_, hK _ ?_⟩
            rotate_left
            · (obtain ⟨q0, q1, q2, q3, q4⟩ := HSK.out _ hC; go_simp; first | done | with_reducible rfl | exact ⟨rfl, hC⟩)
            clear hK K
            simp only [Act.put, List.setIfInBounds_toArray, List.set_cons_zero, List.set_cons_succ]
            refine BigFrame.wpQuiet_want (by rfl) fun K hK => ⟨?_, fun w' hC => ?_, hK _ ?_⟩
            rotate_left
            · (obtain ⟨q0, q1, q2, q3, q4⟩ := HSK.out _ hC; go_simp; first | done | with_reducible rfl | exact ⟨rfl, hC⟩)
            clear hK K
            simp only [Act.put, List.setIfInBounds_toArray, List.set_cons_zero, List.set_cons_succ]
            refine BigFrame.wpQuiet_want (by rfl) fun K hK => ⟨?_, fun w' hC => ?_, hK _ ?_⟩
            rotate_left
            · (obtain ⟨q0, q1, q2, q3, q4⟩ := HSK.out _ hC; go_simp; first | done | with_reducible rfl | exact ⟨rfl, hC⟩)
            clear hK K
            simp only [Act.put, List.setIfInBounds_toArray, List.set_cons_zero, List.set_cons_succ]
            refine BigFrame.wpQuiet_want (by rfl) fun K hK => ⟨?_, fun w' hC => ?_, hK _ ?_⟩
            rotate_left
            · (obtain ⟨q0, q1, q2, q3, q4⟩ := HSK.out _ hC; go_simp; first | done | with_reducible rfl | exact ⟨rfl, hC⟩)
            clear hK K
            simp only [Act.put, List.setIfInBounds_toArray, List.set_cons_zero, List.set_cons_succ]
            refine BigFrame.wpQuiet_want (by rfl) fun K hK => ⟨?_, fun w' hC => ?_, hK _ ?_⟩
            rotate_left
            · (obtain ⟨q0, q1, q2, q3, q4⟩ := HSK.out _ hC; go_simp; first | done | with_reducible rfl | exact ⟨rfl, hC⟩)
            clear hK K
            simp only [Act.put, List.setIfInBounds_toArray, List.set_cons_zero, List.set_cons_succ]
            refine BigFrame.wpQuiet_want (by rfl) fun K hK => ⟨?_, fun w' hC => ?_, hK _ ?_⟩
            rotate_left
            · (obtain ⟨q0, q1, q2, q3, q4⟩ := HSK.out _ hC; go_simp; first | done | with_reducible rfl | exact ⟨rfl, hC⟩)
            clear hK K
            simp only [Act.put, List.setIfInBounds_toArray, List.set_cons_zero, List.set_cons_succ]
            refine BigFrame.wpQuiet_want (by rfl) fun K hK => ⟨?_, fun w' hC => ?_, hK _ ?_⟩
            rotate_left
            · (obtain ⟨q0, q1, q2, q3, q4⟩ := HSK.out _ hC; go_simp; first | done | with_reducible rfl | exact ⟨rfl, hC⟩)
            clear hK K
            simp only [Act.put, List.setIfInBounds_toArray, List.set_cons_zero, List.set_cons_succ]
            refine BigFrame.wpQuiet_want (by rfl) fun K hK => ⟨?_, fun w' hC => ?_, hK _ ?_⟩
            rotate_left
            · (obtain ⟨q0, q1, q2, q3, q4⟩ := HSK.out _ hC; go_simp; first | done | with_reducible rfl | exact ⟨rfl, hC⟩)
            clear hK K
            simp only [Act.put, List.setIfInBounds_toArray, List.set_cons_zero, List.set_cons_succ]
            refine BigFrame.wpQuiet_want (by rfl) fun K hK => ⟨?_, fun w' hC => ?_, hK _ ?_⟩
            rotate_left
            · (obtain ⟨q0, q1, q2, q3, q4⟩ := HSK.out _ hC; go_simp; first | done | with_reducible rfl | exact ⟨rfl, hC⟩)
            clear hK K
            simp only [Act.put, List.setIfInBounds_toArray, List.set_cons_zero, List.set_cons_succ]
            refine BigFrame.wpQuiet_want (by rfl) fun K hK => ⟨?_, fun w' hC => ?_, hK _ ?_⟩
            rotate_left
            · (obtain ⟨q0, q1, q2, q3, q4⟩ := HSK.out _ hC; go_simp; first | done | with_reducible rfl | exact ⟨rfl, hC⟩)
            clear hK K
            simp only [Act.put, List.setIfInBounds_toArray, List.set_cons_zero, List.set_cons_succ]
            refine BigFrame.wpQuiet_want (by rfl) fun K hK => ⟨?_, fun w' hC => ?_, hK _ ?_⟩
            rotate_left
            · (obtain ⟨q0, q1, q2, q3, q4⟩ := HSK.out _ hC; go_simp; first | done | with_reducible rfl | exact ⟨rfl, hC⟩)
            clear hK K
            simp only [Act.put, List.setIfInBounds_toArray, List.set_cons_zero, List.set_cons_succ]
            refine BigFrame.wpQuiet_want (by rfl) fun K hK => ⟨?_, fun w' hC => ?_, hK _ ?_⟩
            rotate_left
            · (obtain ⟨q0, q1, q2, q3, q4⟩ := HSK.out _ hC; go_simp; first | done | with_reducible rfl | exact ⟨rfl, hC⟩)
            clear hK K
            simp only [Act.put, List.setIfInBounds_toArray, List.set_cons_zero, List.set_cons_succ]
            refine wpQuiet_nil ?_
            intro w2 hC2
            have HE4 := Lib.hid (HEr.out.trans (HEM.out.trans hC2))
            have HG2 := Lib.hid (HGr.out.ex (HEM.out.trans hC2))
            have hzw := HE4.out.size
            clear hC2 HEM HSK HEK
            go_wp2_with (at_builtin; refine wpList_append_own _ rfl _ _ 25 rfl wn.heap.size 2 i0 (.int .i64 0) 1 8 Tryz.underlying25 hi hi0 hi1 hi2 rfl (by decide) _ _ _ rfl (HG2.out.1.alloc _) ⟨w2.heap.size, 0, none⟩ 1 1 [.int .i64 (-1)] rfl rfl (cell_one_new _ _ _) (by simp [Value.oneCell']) (by unfold maxLen; omega) (by omega) (by simp; omega) ?_; intro v' w3 hown3 hgrow3 _; have G3 := HG2.out.ex (Ex.new w2 (.cells #[.int .i64 (-1)] 2)); have HE5 := Lib.hid (Ex.grew (HE4.out.alloc _) G3 (Nat.le_refl _) hgrow3); have HG5 := Lib.hid (G3.snoc hown3); clear hown3 hgrow3 G3)
            go_roundw
            case rel => exact ⟨j + 1, by omega, by go_num, HE5, by rw [HS.out]; exact HG5⟩
            case measure => simp [intOf]; omega
        · obtain rfl : j = N := by omega
          go_wp2_with fail
          refine (l01N_ex (some ⟨b, o, none⟩) j d0 _ (by omega)).mono ?_
          rintro e wm ⟨rfl, hem⟩
          have hE := HEr.out.trans hem
          obtain ⟨g, cg, cs, rfl, hzg, hjc, hhas, hget⟩ := row_block (HGr.out.ex hem).1 hn1
          have HHAS := Lib.hid hhas
          have HGET := Lib.hid hget
          have HEM := Lib.hid hE
          have HOM := Lib.hid (own_below HOW.out hE)
          have HRM := Lib.hid (HRO.out.ex hE)
          clear hhas hget hE hem c0
          go_wp2_with (at_builtin; refine wpList_append_own _ rfl _ _ 22 rfl w.heap.size 25 iS (.slice none 0 0) 1 24 Tryz.underlying22 gi gi0 gi1 gi2 rfl (by decide) _ _ _ rfl (HOM.out.alloc _) ⟨wm.heap.size, 0, none⟩ 1 1 [.slice (some ⟨g, 0, none⟩) j cg] rfl rfl (cell_one_new _ _ _) (by simp [Value.oneCell']) (by unfold maxLen; omega) (by omega) (by have := (HX1.out.trans HEM.out).size; simp; omega) ?_; intro v' w3 hown3 hgrow3 _; have HX3 := Lib.hid (Ex.grewR ((HX1.out.trans HEM.out).alloc _) (HOM.out.alloc _) (Nat.le_refl _) hgrow3); have HB03 := Lib.hid (Has.grewR ((HB0.out.ex HEM.out).alloc _) (by decide) (HOM.out.alloc _) hgrow3); have HB13 := Lib.hid (Has.grewR ((HB1.out.ex HEM.out).alloc _) (by decide) (HOM.out.alloc _) hgrow3); have HGT := Lib.hid (GrowT.push (V := F) (HOM.out.alloc _) (HRM.out.ex (Ex.new wm _)) (Nat.le_trans HX1.out.size hzg) (HHAS.out.alloc _) (fun i hi => (HGET.out i hi).trans (rowP_get hi)) (fun i hi => by have := HGZ.out i hi; omega) hgrow3 hown3); clear hown3 hgrow3)
          go_roundw
          case rel => exact ⟨k + 1, by omega, by go_num, HX3, HB03, HB13, HGT⟩
          case measure => simp [intOf]; omega
    · obtain rfl : k = N := by omega
      go_wp2_with fail
      refine (l01N_ex (some ⟨b, o, none⟩) k d0 _ (by omega)).mono ?_
      rintro e wn ⟨rfl, hen⟩
      have HX9 := Lib.hid (HX.out.trans hen)
      have HG9 := Lib.hid (HG.out.ex hen)
      clear hen c0
      go_wp2_with fail
      go_ret
      obtain ⟨A', c', e', hO⟩ := HG9.out.own
      simp only [Value.slice.injEq] at e'
      obtain ⟨rfl, _, rfl⟩ := e'
      exact ⟨A, cA, rfl, HX9.out, hO⟩

end Go.Proofs.YtcdijeeabgmgmaaGreatDoor
