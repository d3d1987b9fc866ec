/- ProductOfCochains: products of lists of elements, and the program's closure. -/
import Derived.IntWalk
import Derived.Test.YtilhnmclleiodaaDoorMvt
namespace Go.Proofs.YtilhnmclleiodaaDoor
open Go.RowKit

set_option maxRecDepth 100000 in
set_option maxHeartbeats 2000000 in
theorem productOfList_any (A L : Option Addr) (t : List (List Int)) (xs : List Int) (c e : Nat) (w : World) (hR : RwsW w A t) (hg : IsGrp t) (hX : IntsW w L xs) (hx : xs.length ≤ 1048576) (hr : InR t.length xs) :
    Calls Tryd.prog 84 #[.agg #[.slice A t.length c], .slice L xs.length e] w fun e w' => e = .returned (.int .i64 (plF t xs xs.length : Int)) ∧ Ex w w' := by
  obtain ⟨b, o, bb, oo, C, rfl, hQ⟩ := hR.sq hg
  have e0 : Ex w (w.alloc (.cells #[.slice (some ⟨b, o, none⟩) t.length c] 31)) := (Ex.refl w).alloc _
  have b0 : Has (w.alloc (.cells #[.slice (some ⟨b, o, none⟩) t.length c] 31)) (w.heap.size) 31 #[.slice (some ⟨b, o, none⟩) t.length c] := (Has.newAt (w := w) (e := 31) (cs := #[.slice (some ⟨b, o, none⟩) t.length c]) (k := w.heap.size) (by simp))
  have HE0 := Lib.hid e0
  have HB0 := Lib.hid b0
  have HX := Lib.hid (hX.ex e0)
  have HR := Lib.hid hr
  have HG := Lib.hid hg
  have HQ := Lib.hid (hQ.ex e0)
  have hn8 := hg.n8
  clear hR hX hr hg hQ e0 b0
  go_enter Tryd.func84, Tryd.ntmps84
  go_wp2_with fail
  generalize (w.alloc (.cells #[.slice (some ⟨b, o, none⟩) t.length c] 31)) = W0 at *
  go_loopw [5, 10] (fun s i wr => ∃ k : Nat, k ≤ xs.length ∧ i = .int .i64 (k : Int) ∧ s = .int .i64 (plF t xs k : Int) ∧ Hid (Ex W0 wr)) (fun _ i _ => xs.length - (intOf i).toNat)
  case atStart => exact ⟨0, Nat.zero_le _, rfl, rfl, Lib.hid (Ex.refl _)⟩
  case round =>
    obtain ⟨k, hk, rfl, rfl, HE⟩ := hrel
    by_cases hlt : k < xs.length
    · obtain ⟨bx, ox, rfl, hbx, hcx⟩ := (HX.out.ex HE.out).ints.at_ hlt
      have hrk := HR.out k hlt
      obtain ⟨x, hx2⟩ : ∃ x : Nat, nth xs k = (x : Int) := ⟨(nth xs k).toNat, by omega⟩
      have hpl := plF_lt HG.out HR.out k hk
      have hxN : x < t.length := by omega
      have hq := HQ.out.exB HE.out (by have := HE0.out.size; omega)
      have c1 := hq.row_ hpl
      have c2 := hq.ent_ hpl hxN
      rw [HG.out.ent hpl hxN] at c2
      have HS : Hid (plF t xs (k + 1) = mul t (plF t xs k) x) := Lib.hid (by rw [plF, hx2]; rfl)
      rw [hx2] at hcx
      obtain ⟨u, hu⟩ : ∃ u, plF t xs k = u := ⟨_, rfl⟩
      rw [hu] at hpl c1 c2 HS ⊢
      obtain ⟨z, hz⟩ : ∃ z, mul t u x = z := ⟨_, rfl⟩
      rw [hz] at c2 HS
      clear hx2 hrk hq hu hz
      have cg := (HB0.out.ex HE.out).cell 0
      go_wp2_with fail
      go_roundw
      case rel => exact ⟨k + 1, by omega, by go_num, by rw [HS.out], HE⟩
      case measure => simp [intOf]; omega
    · obtain rfl : k = xs.length := by omega
      go_wp2_with fail
      go_ret
      exact ⟨rfl, HE0.out.trans HE.out⟩

/-- The value of a product at the list with the number k. -/
noncomputable def tmsV (t : List (List Int)) (M : Nat) (us fs gs : List Int) (p q k : Nat) : Int :=
  valR t.length fs ((lsL t.length (p + q) k).take p) * nth us (plF t (lsL t.length (p + q) k) p) * valR t.length gs ((lsL t.length (p + q) k).drop p) % (M : Int)

set_option maxRecDepth 100000 in
set_option maxHeartbeats 4000000 in
theorem tmc_ex (Bf Bg Bb Bh Ba : Nat) (A V U F G L : Option Addr) (t : List (List Int)) (M p q k : Nat) (vs us fs gs : List Int) (c0 c1 c2 c3 c4 c5 : Nat) (w : World)
    (hFc : Has w Bf 43 #[.int .i64 (p : Int), .slice F fs.length c1]) (hG : Has w Bg 31 #[.slice A t.length c0]) (hB : Has w Bb 28 #[.int .i64 (M : Int), .slice U us.length c2]) (hH : Has w Bh 43 #[.int .i64 (q : Int), .slice G gs.length c3]) (hA : Has w Ba 28 #[.int .i64 (M : Int), .slice V vs.length c4])
    (hR : RwsW w A t) (hU : IntsW w U us) (hF : IntsW w F fs) (hGs : IntsW w G gs) (hL : IntsW w L (lsL t.length (p + q) k)) (hc5 : p + q ≤ c5) (hm : ModF t M us) (hpq : p + q ≤ 3) (hdN : p + q = 0 ∨ 2 ≤ t.length) (hfl : fs.length = cellsN t.length p) (hfr : InR M fs) (hgl : gs.length = cellsN t.length q) (hgr : InR M gs) :
    Calls Tryd.prog 82 #[.slice L (lsL t.length (p + q) k).length c5, .pointer (some ⟨Bf, 0, none⟩), .pointer (some ⟨Bg, 0, none⟩), .pointer (some ⟨Bb, 0, none⟩), .pointer (some ⟨Bh, 0, none⟩), .pointer (some ⟨Ba, 0, none⟩)] w fun e w' => e = .returned (.int .i64 (tmsV t M us fs gs p q k)) ∧ Ex w w' := by
  have hgr' := hm.g
  have hn8 := hgr'.n8
  have hn1 := hgr'.n1
  have hM2 := hm.m2
  have hM12 := hm.m12
  obtain ⟨Ls, hLs⟩ : ∃ Ls, lsL t.length (p + q) k = Ls := ⟨_, rfl⟩
  have hLl : Ls.length = p + q := by rw [← hLs, lsL_len]
  have hLr : InR t.length Ls := by rw [← hLs]; exact lsL_in hdN
  have HT : Hid (tmsV t M us fs gs p q k = valR t.length fs (Ls.take p) * nth us (plF t Ls p) * valR t.length gs (Ls.drop p) % (M : Int)) := Lib.hid (by rw [tmsV, hLs])
  rw [hLs, hLl]
  rw [hLs] at hL
  clear hLs
  have htl : (Ls.take p).length = p := by rw [List.length_take]; omega
  have hdl : (Ls.drop p).length = q := by rw [List.length_drop]; omega
  have hv1 := valR_in (fs := fs) (show 0 < M by omega) (hLr.take p) htl hfl hfr
  have hv2 := valR_in (fs := gs) (show 0 < M by omega) (hLr.drop p) hdl hgl hgr
  have hpl := plF_lt hgr' hLr p (by omega)
  have hu := hm.rng _ (show plF t Ls p < us.length by rw [hm.len]; exact hpl)
  have HV1 := Lib.hid (fun W (he : Ex w W) => valueAt_yes A F L p t.length fs (Ls.take p) c0 c1 c5 W (hF.ex he) ((hL.ex he).take p) hn8 hn1 (by omega) htl hfl (inR_belowL (hLr.take p)))
  have HPL := Lib.hid (fun W (he : Ex w W) => productOfList_any A L t (Ls.take p) c0 c5 W (hR.ex he) hgr' ((hL.ex he).take p) (by omega) (hLr.take p))
  rw [htl] at HV1 HPL
  rw [plF_take t Ls p (Nat.le_refl _)] at HPL
  have hlu : us.length = t.length := hm.len
  obtain ⟨bu, ou, rfl, hbu, hcu⟩ := hU.ints.at_ (show plF t Ls p < us.length by rw [hm.len]; exact hpl)
  have HV2 := Lib.hid (fun (Y : Option Addr) (e : Nat) W (he : Ex w W) (hY : IntsW W Y (Ls.drop p)) => valueAt_yes A G Y q t.length gs (Ls.drop p) c0 c3 e W (hGs.ex he) hY hn8 hn1 (by omega) hdl hgl (inR_belowL (hLr.drop p)))
  rw [hdl] at HV2
  obtain ⟨v, hv⟩ : ∃ v, valR t.length fs (Ls.take p) = v := ⟨_, rfl⟩
  obtain ⟨y, hy⟩ : ∃ y, valR t.length gs (Ls.drop p) = y := ⟨_, rfl⟩
  obtain ⟨i, hi⟩ : ∃ i, plF t Ls p = i := ⟨_, rfl⟩
  rw [hv] at HV1 hv1
  rw [hy] at HV2 hv2
  rw [hi] at HPL hpl hu hcu
  rw [hv, hy, hi] at HT
  obtain ⟨u, hu'⟩ : ∃ u, nth us i = u := ⟨_, rfl⟩
  rw [hu'] at hu hcu HT
  have hvu0 : 0 ≤ v * u := Int.mul_nonneg hv1.1 hu.1
  have hvu : v * u ≤ 144 := by
    have h1 : v * u ≤ 12 * u := Int.mul_le_mul_of_nonneg_right (by omega) hu.1
    omega
  have hw1 : IntKind.i64.wrap (v * u) = v * u := IntWalk.i64_in _ (by omega)
  have hvy0 : 0 ≤ v * u * y := Int.mul_nonneg hvu0 hv2.1
  have hvy : v * u * y ≤ 1728 := by
    have h1 : v * u * y ≤ 144 * y := Int.mul_le_mul_of_nonneg_right (by omega) hv2.1
    omega
  have hw2 : IntKind.i64.wrap (v * u * y) = v * u * y := IntWalk.i64_in _ (by omega)
  have HTM : Hid (Int.tmod (v * u * y) (M : Int) = v * u * y % (M : Int)) := Lib.hid (Int.tmod_eq_emod_of_nonneg hvy0)
  have hM0 : ¬ M = 0 := by omega
  have hpl' : i < us.length := by omega
  have HCU := Lib.hid (fun W (he : Ex w W) => And.intro ((hFc.ex he).cell 0) (And.intro ((hFc.ex he).cell 1) (And.intro ((hG.ex he).cell 0) (And.intro ((hB.ex he).cell 1) (And.intro ((hH.ex he).cell 0) (And.intro ((hH.ex he).cell 1) (And.intro ((hA.ex he).cell 0) ((he.below.cell (p := ⟨bu, ou + i, none⟩) hbu).trans hcu))))))))
  have HL := Lib.hid hL
  have cf := hFc.cell 0
  clear hG hB hH hA hFc hR hU hF hGs hL hm hgr' hfl hfr hgl hgr hcu hv hy hi hu' hdN hLr htl hdl hvu hvy hvu0 hvy0
  have hpc : p ≤ c5 := by omega
  have hqq : p + q - p = q := by omega
  have hpp : (p : Int) ≤ (p : Int) + (q : Int) := by omega
  go_enter Tryd.func82, Tryd.ntmps82
  go_upto_region 1 with (fail)
  go_cut [8, 9] (fun s8 s9 wx => ∃ (Y : Option Addr) (e : Nat), s8 = .slice L p c5 ∧ s9 = .slice Y q e ∧ Hid (Ex w wx) ∧ Hid (∀ W, Ex w W → IntsW W Y (Ls.drop p)))
  case first =>
    have HSK := Lib.hid (fun W' (he : Ex w.drew W') => (HCU.out W' ((Ex.refl w).drew.trans he)).1)
    rcases Nat.eq_zero_or_pos (p + q) with h0 | h0
    · obtain rfl : p = 0 := by omega
      obtain rfl : q = 0 := by omega
      clear HV1 HV2 HPL
      refine wp_region_quiet (C := fun w' => Ex w.drew w') (by kernel_rfl) (by kernel_rfl) (Ex.refl _) ?_
      refine BigFrame.wpQuiet_want (by rfl) fun K hK => ⟨?_, fun w' hC => ?_, hK _ ?_⟩
      rotate_left
      · (obtain q0 := HSK.out _ hC; go_simp; first | done | with_reducible rfl | exact ⟨rfl, hC⟩)
      clear hK K
      simp only [Act.put, List.setIfInBounds_toArray, List.set_cons_zero, List.set_cons_succ]
      refine BigFrame.wpQuiet_want (by rfl) fun K hK => ⟨?_, fun w' hC => ?_, hK _ ?_⟩
      rotate_left
      · (obtain q0 := HSK.out _ hC; go_simp; first | done | with_reducible rfl | exact ⟨rfl, hC⟩)
      clear hK K
      simp only [Act.put, List.setIfInBounds_toArray, List.set_cons_zero, List.set_cons_succ]
      refine BigFrame.wpQuiet_want (by rfl) fun K hK => ⟨?_, fun w' hC => ?_, hK _ ?_⟩
      rotate_left
      · (obtain q0 := HSK.out _ hC; go_simp; first | done | with_reducible rfl | exact ⟨rfl, hC⟩)
      clear hK K
      simp only [Act.put, List.setIfInBounds_toArray, List.set_cons_zero, List.set_cons_succ]
      refine BigFrame.wpQuiet_want (by rfl) fun K hK => ⟨?_, fun w' hC => ?_, hK _ ?_⟩
      rotate_left
      · (obtain q0 := HSK.out _ hC; go_simp; first | done | with_reducible rfl | exact ⟨rfl, hC⟩)
      clear hK K
      simp only [Act.put, List.setIfInBounds_toArray, List.set_cons_zero, List.set_cons_succ]
      refine BigFrame.wpQuiet_want (by rfl) fun K hK => ⟨?_, fun w' hC => ?_, hK _ ?_⟩
      rotate_left
      · (obtain q0 := HSK.out _ hC; go_simp; first | done | with_reducible rfl | exact ⟨rfl, hC⟩)
      clear hK K
      simp only [Act.put, List.setIfInBounds_toArray, List.set_cons_zero, List.set_cons_succ]
      refine BigFrame.wpQuiet_want (by rfl) fun K hK => ⟨?_, fun w' hC => ?_, hK _ ?_⟩
      rotate_left
      · (obtain q0 := HSK.out _ hC; go_simp; first | done | with_reducible rfl | exact ⟨rfl, hC⟩)
      clear hK K
      simp only [Act.put, List.setIfInBounds_toArray, List.set_cons_zero, List.set_cons_succ]
      refine BigFrame.wpQuiet_want (by rfl) fun K hK => ⟨?_, fun w' hC => ?_, hK _ ?_⟩
      rotate_left
      · (obtain q0 := HSK.out _ hC; go_simp; first | done | with_reducible rfl | exact ⟨rfl, hC⟩)
      clear hK K
      simp only [Act.put, List.setIfInBounds_toArray, List.set_cons_zero, List.set_cons_succ]
      refine BigFrame.wpQuiet_want (by rfl) fun K hK => ⟨?_, fun w' hC => ?_, hK _ ?_⟩
      rotate_left
      · (obtain q0 := HSK.out _ hC; go_simp; first | done | with_reducible rfl | exact ⟨rfl, hC⟩)
      clear hK K
      simp only [Act.put, List.setIfInBounds_toArray, List.set_cons_zero, List.set_cons_succ]
      refine BigFrame.wpQuiet_want (by rfl) fun K hK => ⟨?_, fun w' hC => ?_, hK _ ?_⟩
      rotate_left
      · (obtain q0 := HSK.out _ hC; go_simp; first | done | with_reducible rfl | exact ⟨rfl, hC⟩)
      clear hK K
      simp only [Act.put, List.setIfInBounds_toArray, List.set_cons_zero, List.set_cons_succ]
      refine BigFrame.wpQuiet_want (by rfl) fun K hK => ⟨?_, fun w' hC => ?_, hK _ ?_⟩
      rotate_left
      · (obtain q0 := HSK.out _ hC; go_simp; first | done | with_reducible rfl | exact ⟨rfl, hC⟩)
      clear hK K
      simp only [Act.put, List.setIfInBounds_toArray, List.set_cons_zero, List.set_cons_succ]
      refine wpQuiet_nil ?_
      intro w2 hC2
      have HC2 := Lib.hid hC2
      clear hC2
      go_wp2_with fail
      go_meet
      exact ⟨L, c5, rfl, rfl, Lib.hid ((Ex.refl w).drew.trans HC2.out), Lib.hid fun _ _ => .inl (List.length_eq_zero_iff.1 (by rw [List.length_drop]; omega))⟩
    · obtain ⟨bl, ol, rfl, hbl, hcl⟩ := HL.out.ints.at_ (show 0 < Ls.length by omega)
      by_cases hcp : c5 = p
      · refine wp_region_quiet (C := fun w' => Ex w.drew w') (by kernel_rfl) (by kernel_rfl) (Ex.refl _) ?_
        refine BigFrame.wpQuiet_want (by rfl) fun K hK => ⟨?_, fun w' hC => ?_, hK _ ?_⟩
        rotate_left
        · (obtain q0 := HSK.out _ hC; go_simp; first | done | with_reducible rfl | exact ⟨rfl, hC⟩)
        clear hK K
        simp only [Act.put, List.setIfInBounds_toArray, List.set_cons_zero, List.set_cons_succ]
        refine BigFrame.wpQuiet_want (by rfl) fun K hK => ⟨?_, fun w' hC => ?_, hK _ ?_⟩
        rotate_left
        · (obtain q0 := HSK.out _ hC; go_simp; first | done | with_reducible rfl | exact ⟨rfl, hC⟩)
        clear hK K
        simp only [Act.put, List.setIfInBounds_toArray, List.set_cons_zero, List.set_cons_succ]
        refine BigFrame.wpQuiet_want (by rfl) fun K hK => ⟨?_, fun w' hC => ?_, hK _ ?_⟩
        rotate_left
        · (obtain q0 := HSK.out _ hC; go_simp; first | done | with_reducible rfl | exact ⟨rfl, hC⟩)
        clear hK K
        simp only [Act.put, List.setIfInBounds_toArray, List.set_cons_zero, List.set_cons_succ]
        refine BigFrame.wpQuiet_want (by rfl) fun K hK => ⟨?_, fun w' hC => ?_, hK _ ?_⟩
        rotate_left
        · (obtain q0 := HSK.out _ hC; go_simp; first | done | with_reducible rfl | exact ⟨rfl, hC⟩)
        clear hK K
        simp only [Act.put, List.setIfInBounds_toArray, List.set_cons_zero, List.set_cons_succ]
        refine BigFrame.wpQuiet_want (by rfl) fun K hK => ⟨?_, fun w' hC => ?_, hK _ ?_⟩
        rotate_left
        · (obtain q0 := HSK.out _ hC; go_simp; first | done | with_reducible rfl | exact ⟨rfl, hC⟩)
        clear hK K
        simp only [Act.put, List.setIfInBounds_toArray, List.set_cons_zero, List.set_cons_succ]
        refine BigFrame.wpQuiet_want (by rfl) fun K hK => ⟨?_, fun w' hC => ?_, hK _ ?_⟩
        rotate_left
        · (obtain q0 := HSK.out _ hC; go_simp; first | done | with_reducible rfl | exact ⟨rfl, hC⟩)
        clear hK K
        simp only [Act.put, List.setIfInBounds_toArray, List.set_cons_zero, List.set_cons_succ]
        refine BigFrame.wpQuiet_want (by rfl) fun K hK => ⟨?_, fun w' hC => ?_, hK _ ?_⟩
        rotate_left
        · (obtain q0 := HSK.out _ hC; go_simp; first | done | with_reducible rfl | exact ⟨rfl, hC⟩)
        clear hK K
        simp only [Act.put, List.setIfInBounds_toArray, List.set_cons_zero, List.set_cons_succ]
        refine BigFrame.wpQuiet_want (by rfl) fun K hK => ⟨?_, fun w' hC => ?_, hK _ ?_⟩
        rotate_left
        · (obtain q0 := HSK.out _ hC; go_simp; first | done | with_reducible rfl | exact ⟨rfl, hC⟩)
        clear hK K
        simp only [Act.put, List.setIfInBounds_toArray, List.set_cons_zero, List.set_cons_succ]
        refine BigFrame.wpQuiet_want (by rfl) fun K hK => ⟨?_, fun w' hC => ?_, hK _ ?_⟩
        rotate_left
        · (obtain q0 := HSK.out _ hC; go_simp; first | done | with_reducible rfl | exact ⟨rfl, hC⟩)
        clear hK K
        simp only [Act.put, List.setIfInBounds_toArray, List.set_cons_zero, List.set_cons_succ]
        refine BigFrame.wpQuiet_want (by rfl) fun K hK => ⟨?_, fun w' hC => ?_, hK _ ?_⟩
        rotate_left
        · (obtain q0 := HSK.out _ hC; go_simp; first | done | with_reducible rfl | exact ⟨rfl, hC⟩)
        clear hK K
        simp only [Act.put, List.setIfInBounds_toArray, List.set_cons_zero, List.set_cons_succ]
        refine wpQuiet_nil ?_
        intro w2 hC2
        have HC2 := Lib.hid hC2
        clear hC2
        go_wp2_with fail
        go_meet
        exact ⟨_, _, by rw [hcp], rfl, Lib.hid ((Ex.refl w).drew.trans HC2.out), Lib.hid fun _ _ => .inl (List.length_eq_zero_iff.1 (by rw [List.length_drop]; omega))⟩
      · have HLD := Lib.hid (fun W (he : Ex w W) => (HL.out.ex he).drop p)
        refine wp_region_quiet (C := fun w' => Ex w.drew w') (by kernel_rfl) (by kernel_rfl) (Ex.refl _) ?_
        refine BigFrame.wpQuiet_want (by rfl) fun K hK => ⟨?_, fun w' hC => ?_, hK _ ?_⟩
        rotate_left
        · (obtain q0 := HSK.out _ hC; go_simp; first | done | with_reducible rfl | exact ⟨rfl, hC⟩)
        clear hK K
        simp only [Act.put, List.setIfInBounds_toArray, List.set_cons_zero, List.set_cons_succ]
        refine BigFrame.wpQuiet_want (by rfl) fun K hK => ⟨?_, fun w' hC => ?_, hK _ ?_⟩
        rotate_left
        · (obtain q0 := HSK.out _ hC; go_simp; first | done | with_reducible rfl | exact ⟨rfl, hC⟩)
        clear hK K
        simp only [Act.put, List.setIfInBounds_toArray, List.set_cons_zero, List.set_cons_succ]
        refine BigFrame.wpQuiet_want (by rfl) fun K hK => ⟨?_, fun w' hC => ?_, hK _ ?_⟩
        rotate_left
        · (obtain q0 := HSK.out _ hC; go_simp; first | done | with_reducible rfl | exact ⟨rfl, hC⟩)
        clear hK K
        simp only [Act.put, List.setIfInBounds_toArray, List.set_cons_zero, List.set_cons_succ]
        refine BigFrame.wpQuiet_want (by rfl) fun K hK => ⟨?_, fun w' hC => ?_, hK _ ?_⟩
        rotate_left
        · (obtain q0 := HSK.out _ hC; go_simp; first | done | with_reducible rfl | exact ⟨rfl, hC⟩)
        clear hK K
        simp only [Act.put, List.setIfInBounds_toArray, List.set_cons_zero, List.set_cons_succ]
        refine BigFrame.wpQuiet_want (by rfl) fun K hK => ⟨?_, fun w' hC => ?_, hK _ ?_⟩
        rotate_left
        · (obtain q0 := HSK.out _ hC; go_simp; first | done | with_reducible rfl | exact ⟨rfl, hC⟩)
        clear hK K
        simp only [Act.put, List.setIfInBounds_toArray, List.set_cons_zero, List.set_cons_succ]
        refine BigFrame.wpQuiet_want (by rfl) fun K hK => ⟨?_, fun w' hC => ?_, hK _ ?_⟩
        rotate_left
        · (obtain q0 := HSK.out _ hC; go_simp; first | done | with_reducible rfl | exact ⟨rfl, hC⟩)
        clear hK K
        simp only [Act.put, List.setIfInBounds_toArray, List.set_cons_zero, List.set_cons_succ]
        refine BigFrame.wpQuiet_want (by rfl) fun K hK => ⟨?_, fun w' hC => ?_, hK _ ?_⟩
        rotate_left
        · (obtain q0 := HSK.out _ hC; go_simp; first | done | with_reducible rfl | exact ⟨rfl, hC⟩)
        clear hK K
        simp only [Act.put, List.setIfInBounds_toArray, List.set_cons_zero, List.set_cons_succ]
        refine BigFrame.wpQuiet_want (by rfl) fun K hK => ⟨?_, fun w' hC => ?_, hK _ ?_⟩
        rotate_left
        · (obtain q0 := HSK.out _ hC; go_simp; first | done | with_reducible rfl | exact ⟨rfl, hC⟩)
        clear hK K
        simp only [Act.put, List.setIfInBounds_toArray, List.set_cons_zero, List.set_cons_succ]
        refine BigFrame.wpQuiet_want (by rfl) fun K hK => ⟨?_, fun w' hC => ?_, hK _ ?_⟩
        rotate_left
        · (obtain q0 := HSK.out _ hC; go_simp; first | done | with_reducible rfl | exact ⟨rfl, hC⟩)
        clear hK K
        simp only [Act.put, List.setIfInBounds_toArray, List.set_cons_zero, List.set_cons_succ]
        refine BigFrame.wpQuiet_want (by rfl) fun K hK => ⟨?_, fun w' hC => ?_, hK _ ?_⟩
        rotate_left
        · (obtain q0 := HSK.out _ hC; go_simp; first | done | with_reducible rfl | exact ⟨rfl, hC⟩)
        clear hK K
        simp only [Act.put, List.setIfInBounds_toArray, List.set_cons_zero, List.set_cons_succ]
        refine wpQuiet_nil ?_
        intro w2 hC2
        have HC2 := Lib.hid hC2
        clear hC2
        go_wp2_with fail
        go_meet
        exact ⟨_, _, rfl, rfl, Lib.hid ((Ex.refl w).drew.trans HC2.out), HLD⟩
  obtain ⟨W1, rfl⟩ : ∃ x : World, x = wc := ⟨_, rfl⟩
  obtain ⟨Y, e5, rfl, rfl, HE1, HY⟩ := hcut
  have HSK := Lib.hid (fun W' (he : Ex W1.drew W') => HCU.out W' (HE1.out.drew.trans he))
  clear hpc hqq hpp
  go_wp2_with fail
  refine wp_region_quiet (C := fun w' => Ex W1.drew w') (by kernel_rfl) (by kernel_rfl) (Ex.refl _) ?_
  refine BigFrame.wpQuiet_want (by rfl) fun K hK => ⟨?_, fun w' hC => ?_, hK _ ?_⟩
  rotate_left
  · (obtain ⟨q0, q1, q2, q3, q4, q5, q6, q7⟩ := HSK.out _ hC; go_simp; first | done | with_reducible rfl | exact ⟨rfl, hC⟩)
  clear hK K
  simp only [Act.put, List.setIfInBounds_toArray, List.set_cons_zero, List.set_cons_succ]
  refine BigFrame.wpQuiet_want (by rfl) fun K hK => ⟨?_, fun w' hC => ?_, hK _ ?_⟩
  rotate_left
  · (obtain ⟨q0, q1, q2, q3, q4, q5, q6, q7⟩ := HSK.out _ hC; go_simp; first | done | with_reducible rfl | exact ⟨rfl, hC⟩)
  clear hK K
  simp only [Act.put, List.setIfInBounds_toArray, List.set_cons_zero, List.set_cons_succ]
  refine BigFrame.wpQuiet_want (by rfl) fun K hK => ⟨?_, fun w' hC => ?_, hK _ ?_⟩
  rotate_left
  · (obtain ⟨q0, q1, q2, q3, q4, q5, q6, q7⟩ := HSK.out _ hC; go_simp; first | done | with_reducible rfl | exact ⟨rfl, hC⟩)
  clear hK K
  simp only [Act.put, List.setIfInBounds_toArray, List.set_cons_zero, List.set_cons_succ]
  refine BigFrame.wpQuiet_want (by rfl) fun K hK => ⟨.int .i64 v, fun w' hC => (by go_simp; refine ((HV1.out w' (HE1.out.drew.trans hC))).mono ?_; rintro e w2 ⟨rfl, hb⟩; exact ⟨rfl, hC.trans hb⟩), hK _ ?_⟩
  clear hK K
  simp only [Act.put, List.setIfInBounds_toArray, List.set_cons_zero, List.set_cons_succ]
  refine BigFrame.wpQuiet_want (by rfl) fun K hK => ⟨?_, fun w' hC => ?_, hK _ ?_⟩
  rotate_left
  · (obtain ⟨q0, q1, q2, q3, q4, q5, q6, q7⟩ := HSK.out _ hC; go_simp; first | done | with_reducible rfl | exact ⟨rfl, hC⟩)
  clear hK K
  simp only [Act.put, List.setIfInBounds_toArray, List.set_cons_zero, List.set_cons_succ]
  refine BigFrame.wpQuiet_want (by rfl) fun K hK => ⟨?_, fun w' hC => ?_, hK _ ?_⟩
  rotate_left
  · (obtain ⟨q0, q1, q2, q3, q4, q5, q6, q7⟩ := HSK.out _ hC; go_simp; first | done | with_reducible rfl | exact ⟨rfl, hC⟩)
  clear hK K
  simp only [Act.put, List.setIfInBounds_toArray, List.set_cons_zero, List.set_cons_succ]
  refine BigFrame.wpQuiet_want (by rfl) fun K hK => ⟨?_, fun w' hC => ?_, hK _ ?_⟩
  rotate_left
  · (obtain ⟨q0, q1, q2, q3, q4, q5, q6, q7⟩ := HSK.out _ hC; go_simp; first | done | with_reducible rfl | exact ⟨rfl, hC⟩)
  clear hK K
  simp only [Act.put, List.setIfInBounds_toArray, List.set_cons_zero, List.set_cons_succ]
  refine BigFrame.wpQuiet_want (by rfl) fun K hK => ⟨?_, fun w' hC => ?_, hK _ ?_⟩
  rotate_left
  · (obtain ⟨q0, q1, q2, q3, q4, q5, q6, q7⟩ := HSK.out _ hC; go_simp; first | done | with_reducible rfl | exact ⟨rfl, hC⟩)
  clear hK K
  simp only [Act.put, List.setIfInBounds_toArray, List.set_cons_zero, List.set_cons_succ]
  refine BigFrame.wpQuiet_want (by rfl) fun K hK => ⟨.int .i64 (i : Int), fun w' hC => (by go_simp; refine ((HPL.out w' (HE1.out.drew.trans hC))).mono ?_; rintro e w2 ⟨rfl, hb⟩; exact ⟨rfl, hC.trans hb⟩), hK _ ?_⟩
  clear hK K
  simp only [Act.put, List.setIfInBounds_toArray, List.set_cons_zero, List.set_cons_succ]
  refine BigFrame.wpQuiet_want (by rfl) fun K hK => ⟨?_, fun w' hC => ?_, hK _ ?_⟩
  rotate_left
  · (obtain ⟨q0, q1, q2, q3, q4, q5, q6, q7⟩ := HSK.out _ hC; go_simp; first | done | with_reducible rfl | exact ⟨rfl, hC⟩)
  clear hK K
  simp only [Act.put, List.setIfInBounds_toArray, List.set_cons_zero, List.set_cons_succ]
  refine BigFrame.wpQuiet_want (by rfl) fun K hK => ⟨?_, fun w' hC => ?_, hK _ ?_⟩
  rotate_left
  · (obtain ⟨q0, q1, q2, q3, q4, q5, q6, q7⟩ := HSK.out _ hC; go_simp; first | done | with_reducible rfl | exact ⟨rfl, hC⟩)
  clear hK K
  simp only [Act.put, List.setIfInBounds_toArray, List.set_cons_zero, List.set_cons_succ]
  refine BigFrame.wpQuiet_want (by rfl) fun K hK => ⟨?_, fun w' hC => ?_, hK _ ?_⟩
  rotate_left
  · (obtain ⟨q0, q1, q2, q3, q4, q5, q6, q7⟩ := HSK.out _ hC; go_simp; first | done | with_reducible rfl | exact ⟨rfl, hC⟩)
  clear hK K
  simp only [Act.put, List.setIfInBounds_toArray, List.set_cons_zero, List.set_cons_succ]
  refine BigFrame.wpQuiet_want (by rfl) fun K hK => ⟨?_, fun w' hC => ?_, hK _ ?_⟩
  rotate_left
  · (obtain ⟨q0, q1, q2, q3, q4, q5, q6, q7⟩ := HSK.out _ hC; go_simp; first | done | with_reducible rfl | exact ⟨rfl, hC⟩)
  clear hK K
  simp only [Act.put, List.setIfInBounds_toArray, List.set_cons_zero, List.set_cons_succ]
  refine BigFrame.wpQuiet_want (by rfl) fun K hK => ⟨?_, fun w' hC => ?_, hK _ ?_⟩
  rotate_left
  · (obtain ⟨q0, q1, q2, q3, q4, q5, q6, q7⟩ := HSK.out _ hC; go_simp; first | done | with_reducible rfl | exact ⟨rfl, hC⟩)
  clear hK K
  simp only [Act.put, List.setIfInBounds_toArray, List.set_cons_zero, List.set_cons_succ]
  refine BigFrame.wpQuiet_want (by rfl) fun K hK => ⟨?_, fun w' hC => ?_, hK _ ?_⟩
  rotate_left
  · (obtain ⟨q0, q1, q2, q3, q4, q5, q6, q7⟩ := HSK.out _ hC; go_simp; first | done | with_reducible rfl | exact ⟨rfl, hC⟩)
  clear hK K
  simp only [Act.put, List.setIfInBounds_toArray, List.set_cons_zero, List.set_cons_succ]
  refine BigFrame.wpQuiet_want (by rfl) fun K hK => ⟨.int .i64 y, fun w' hC => (by go_simp; refine ((HV2.out Y e5 w' (HE1.out.drew.trans hC) (HY.out w' (HE1.out.drew.trans hC)))).mono ?_; rintro e w2 ⟨rfl, hb⟩; exact ⟨rfl, hC.trans hb⟩), hK _ ?_⟩
  clear hK K
  simp only [Act.put, List.setIfInBounds_toArray, List.set_cons_zero, List.set_cons_succ]
  refine BigFrame.wpQuiet_want (by rfl) fun K hK => ⟨?_, fun w' hC => ?_, hK _ ?_⟩
  rotate_left
  · (obtain ⟨q0, q1, q2, q3, q4, q5, q6, q7⟩ := HSK.out _ hC; go_simp; first | done | with_reducible rfl | exact ⟨rfl, hC⟩)
  clear hK K
  simp only [Act.put, List.setIfInBounds_toArray, List.set_cons_zero, List.set_cons_succ]
  refine BigFrame.wpQuiet_want (by rfl) fun K hK => ⟨?_, fun w' hC => ?_, hK _ ?_⟩
  rotate_left
  · (obtain ⟨q0, q1, q2, q3, q4, q5, q6, q7⟩ := HSK.out _ hC; go_simp; first | done | with_reducible rfl | exact ⟨rfl, hC⟩)
  clear hK K
  simp only [Act.put, List.setIfInBounds_toArray, List.set_cons_zero, List.set_cons_succ]
  refine BigFrame.wpQuiet_want (by rfl) fun K hK => ⟨?_, fun w' hC => ?_, hK _ ?_⟩
  rotate_left
  · (obtain ⟨q0, q1, q2, q3, q4, q5, q6, q7⟩ := HSK.out _ hC; go_simp; first | done | with_reducible rfl | exact ⟨rfl, hC⟩)
  clear hK K
  simp only [Act.put, List.setIfInBounds_toArray, List.set_cons_zero, List.set_cons_succ]
  refine BigFrame.wpQuiet_want (by rfl) fun K hK => ⟨?_, fun w' hC => ?_, hK _ ?_⟩
  rotate_left
  · (obtain ⟨q0, q1, q2, q3, q4, q5, q6, q7⟩ := HSK.out _ hC; go_simp; first | done | with_reducible rfl | exact ⟨rfl, hC⟩)
  clear hK K
  simp only [Act.put, List.setIfInBounds_toArray, List.set_cons_zero, List.set_cons_succ]
  refine BigFrame.wpQuiet_want (by rfl) fun K hK => ⟨?_, fun w' hC => ?_, hK _ ?_⟩
  rotate_left
  · (obtain ⟨q0, q1, q2, q3, q4, q5, q6, q7⟩ := HSK.out _ hC; go_simp; first | done | with_reducible rfl | exact ⟨rfl, hC⟩)
  clear hK K
  simp only [Act.put, List.setIfInBounds_toArray, List.set_cons_zero, List.set_cons_succ]
  refine wpQuiet_nil ?_
  intro w2 hC2
  have HC2 := Lib.hid hC2
  clear hC2
  go_wp2_with fail
  go_ret
  exact ⟨by rw [HT.out, ← HTM.out]; rfl, HE1.out.drew.trans HC2.out⟩

end Go.Proofs.YtilhnmclleiodaaDoor
