/- RegularElements: the specification's side. -/
import Derived.Test.YtcdijeeabgmgmaaGreatDoorA2
import Derived.Test.YtcdijeeabgmgmaaGreatDoorA6
import Derived.Test.YtcdijeeabgmgmaaGreatDoorA11
namespace Go.Proofs.YtcdijeeabgmgmaaGreatDoor
open Go.RowKit Go.Shelf

attribute [local go_sem] Oper.semAt_some

/-- Are the first numbers of a row at most 0? -/
def rgK (F : Nat → Nat → Int) (k j : Nat) : Bool := (List.range j).all fun y => decide (F k y ≤ 0)
theorem rgK_succ (F : Nat → Nat → Int) (k j : Nat) : rgK F k (j + 1) = (rgK F k j && decide (F k j ≤ 0)) := by simp [rgK, List.range_succ]
theorem rgK_all {t : List (List Int)} {M : Nat} {fs : List Int} (hM : 0 < M) (k : Nat) : rgK (fF t M fs) k t.length = rgB t M fs k := by
  rw [Bool.eq_iff_iff, rgB_iff, rgK, List.all_eq_true]
  constructor
  · intro h y hy
    exact (fF_le hM).2 (by simpa using h y (List.mem_range.2 hy))
  · intro h y hy
    have := (fF_le hM).1 (h y (List.mem_range.1 hy))
    simpa using this

set_option maxRecDepth 100000 in
set_option maxHeartbeats 4000000 in
theorem l10Regular_any (B0 B2 : Option Addr) (t : List (List Int)) (M : Nat) (fs : List Int) (d0 d2 : Nat) (w : World) (hR : RwsW w B0 t) (hF : IntsW w B2 fs) (h : FacF t M fs) :
    Calls Tryz.prog 35 #[.agg #[.slice B0 t.length d0], .int .i64 (M : Int), .agg #[.int .i64 2, .slice B2 fs.length d2]] w fun e w' => ∃ C n, e = .returned (.slice C (selI (rgB t M fs) t.length).length n) ∧ Ex w w' ∧ OwnL w' w.heap.size w'.heap.size C (selI (rgB t M fs) t.length) := by
  obtain ⟨i0, hi, hi0, hi1, hi2⟩ := info_parts infoI
  have hn8 := h.m.g.n8
  have hn1 := h.m.g.n1
  have hM2 := h.m.m2
  have e0 : Ex w ((w.alloc (.cells #[.slice B0 t.length d0] 32)).alloc (.cells #[.int .i64 2, .slice B2 fs.length d2] 34)) := ((Ex.refl w).alloc _).alloc _
  have b0 : Has ((w.alloc (.cells #[.slice B0 t.length d0] 32)).alloc (.cells #[.int .i64 2, .slice B2 fs.length d2] 34)) (w.heap.size) 32 #[.slice B0 t.length d0] := ((Has.newAt (w := w) (e := 32) (cs := #[.slice B0 t.length d0]) (k := w.heap.size) (by simp)).alloc _)
  have b1 : Has ((w.alloc (.cells #[.slice B0 t.length d0] 32)).alloc (.cells #[.int .i64 2, .slice B2 fs.length d2] 34)) (w.heap.size + 1) 34 #[.int .i64 2, .slice B2 fs.length d2] := (Has.newAt (w := (w.alloc (.cells #[.slice B0 t.length d0] 32))) (e := 34) (cs := #[.int .i64 2, .slice B2 fs.length d2]) (k := w.heap.size + 1) (by simp))
  have HFO := Lib.hid (l10Form_any B0 B2 t M fs d0 d2 _ (hR.ex e0) (hF.ex e0) h)
  have HKA := Lib.hid (fun k => rgK_all (t := t) (M := M) (fs := fs) (by omega) k)
  have HE := Lib.hid e0
  have c0 := b0.cell 0
  have c1 := b1.cell 0
  have c1' := b1.cell 1
  obtain ⟨P, hP⟩ : ∃ P, rgB t M fs = P := ⟨_, rfl⟩
  obtain ⟨F, hFe⟩ : ∃ F, fF t M fs = F := ⟨_, rfl⟩
  obtain ⟨N, hN⟩ : ∃ N, t.length = N := ⟨_, rfl⟩
  rw [hP, hFe, hN] at HKA
  rw [hFe, hN] at HFO
  rw [hN] at HE c0 hn8 hn1
  rw [hP, hN]
  clear hR hF h b0 b1 e0 hP hFe hN hM2
  go_enter Tryz.func35, Tryz.ntmps35
  go_wp2_with fail
  generalize ((w.alloc (.cells #[.slice B0 N d0] 32)).alloc (.cells #[.int .i64 2, .slice B2 fs.length d2] 34)) = W0 at *
  refine HFO.out.mono ?_
  rintro e W1 ⟨C, n, rfl, he1, ho⟩
  have hrw := ho.rws
  obtain ⟨b, o, bb, oo, Cc, rfl, hQ⟩ := Rws.sq hrw (by rw [mkT_len]; omega) (fun i hi => by rw [mkT_len] at hi; rw [mkT_row_len hi, mkT_len])
  have HTE := Lib.hid (fun x y (hx : x < N) (hy : y < N) W (he : Ex W1 W) => (⟨by have hh := (hQ.ex he).row_ (i := x) (by rw [mkT_len]; exact hx); rw [mkT_len] at hh; exact hh, by rw [(hQ.ex he).ent_ (by rw [mkT_len]; exact hx) (by rw [mkT_len]; exact hy), mkT_ent hx hy]⟩ : W.cell? ⟨b, o + x, none⟩ = some (.slice (some ⟨bb x, oo x, none⟩) N (Cc x)) ∧ W.cell? ⟨bb x, oo x + y, none⟩ = some (.int .i64 (F x y))))
  have HE1 := Lib.hid (HE.out.trans he1)
  have HE2 := Lib.hid (Ex.new W1 (.cells #[] 2))
  have HG2 := Lib.hid (GrowI.empty (lo := W1.heap.size) W1 (Nat.le_refl _))
  clear ho hrw hQ he1 c0 c1 c1' HFO
  go_wp2_with fail
  generalize W1.alloc (.cells #[] 2) = W2 at *
  go_loopw [8, 9] (fun v i wr => ∃ k : Nat, k ≤ N ∧ i = .int .i64 (k : Int) ∧ Hid (Ex W1 wr) ∧ Hid (GrowI wr W1.heap.size v (selI P k).length (selI P k))) (fun _ i _ => N - (intOf i).toNat)
  case atStart => exact ⟨0, Nat.zero_le _, rfl, HE2, HG2⟩
  case round =>
    clear HE2 HG2
    obtain ⟨k, hk, rfl, HX, HG⟩ := hrel
    have hkl : (selI P k).length ≤ k := selI_len
    by_cases hlt : k < N
    · go_wp2_with fail
      go_loopw [10, 11] (fun g i wr' => ∃ j : Nat, j ≤ N ∧ i = .int .i64 (j : Int) ∧ g = .bool (rgK F k j) ∧ wr' = wr) (fun _ i _ => N - (intOf i).toNat)
      case atStart => exact ⟨0, Nat.zero_le _, rfl, rfl, rfl⟩
      case round =>
        obtain ⟨j, hj, rfl, rfl, rfl⟩ := hrel
        by_cases hjl : j < N
        · obtain ⟨r1, r2⟩ := HTE.out k j hlt hjl _ HX.out
          have hs := rgK_succ F k j
          obtain ⟨g, hg⟩ : ∃ g, rgK F k j = g := ⟨_, rfl⟩
          obtain ⟨f, hf⟩ : ∃ f, F k j = f := ⟨_, rfl⟩
          rw [hg, hf] at hs
          rw [hf] at r2
          rw [hg]
          have HS := Lib.hid hs
          have hk0 : (0 : Int) ≤ (k : Int) := by omega
          have hkN : (k : Int) < (N : Int) := by omega
          have hj0 : (0 : Int) ≤ (j : Int) := by omega
          have hjN : (j : Int) < (N : Int) := by omega
          clear hs hg hf
          cases g with
          | true =>
            rw [Bool.true_and] at HS
            go_wp2_with fail
            go_roundw
            case rel => exact ⟨j + 1, by omega, by go_num, by rw [HS.out], by first | exact rfl | exact trivial⟩
            case measure => simp [intOf]; omega
          | false =>
            rw [Bool.false_and] at HS
            go_wp2_with fail
            go_roundw
            case rel => exact ⟨j + 1, by omega, by go_num, by rw [HS.out], by first | exact rfl | exact trivial⟩
            case measure => simp [intOf]; omega
        · obtain rfl : j = N := by omega
          rw [HKA.out k]
          have hz : W1.heap.size ≤ _ := HX.out.size
          cases hq : P k with
          | true =>
            have HKI := Lib.hid (selI_yes hq)
            clear hq
            obtain ⟨xs, hxs⟩ : ∃ xs, selI P k = xs := ⟨_, rfl⟩
            rw [hxs] at HG HKI hkl
            clear hxs
            go_wp2_with (at_builtin; refine wpList_append_own _ rfl _ _ 25 rfl W1.heap.size 2 i0 (.int .i64 0) 1 8 Tryz.underlying25 hi hi0 hi1 hi2 rfl (by decide) _ _ _ rfl (HG.out.1.alloc _) ⟨wr.heap.size, 0, none⟩ 1 1 [.int .i64 (k : Int)] rfl rfl (cell_one_new _ _ _) (by simp [Value.oneCell']) (by unfold maxLen; omega) (by omega) (by simp; omega) ?_; intro v' w3 hown3 hgrow3 _; have G3 := HG.out.ex (Ex.new wr (.cells #[.int .i64 (k : Int)] 2)); have HX5 := Lib.hid (Ex.grew (HX.out.alloc _) G3 (Nat.le_refl _) hgrow3); have HG5 := Lib.hid (G3.snoc hown3); clear hown3 hgrow3 G3)
            go_roundw
            case rel => exact ⟨k + 1, by omega, by go_num, HX5, by rw [HKI.out, List.length_append]; exact HG5⟩
            case measure => simp [intOf]; omega
          | false =>
            have HKI := Lib.hid (selI_no hq)
            clear hq
            go_wp2_with fail
            go_roundw
            case rel => exact ⟨k + 1, by omega, by go_num, HX, by rw [HKI.out]; exact HG⟩
            case measure => simp [intOf]; omega
    · obtain rfl : k = N := by omega
      obtain ⟨A', n', rfl, hO⟩ := HG.out.own
      have HO := Lib.hid hO
      clear hO
      go_wp2_with fail
      go_ret
      exact ⟨A', n', rfl, HE1.out.trans HX.out, HO.out.mono HE1.out.size (Nat.le_refl _) (Nat.le_refl _)⟩

set_option maxRecDepth 100000 in
set_option maxHeartbeats 2000000 in
theorem specRegularElements_ex (t0 : List (List Int)) (m1 m2 : Int) (t2 : List Int) : ∀ (B0 : Option Addr) (d0 : Nat) (B2 : Option Addr) (d2 : Nat) (W : World), RwsW W B0 t0 → IntsW W B2 t2 → SmallT t0 → t2.length ≤ 1048576 →
    Calls Tryz.prog 8 #[.agg #[.slice B0 t0.length d0], .int .i64 m1, .agg #[.int .i64 m2, .slice B2 t2.length d2]] W fun e W' => ∃ (C0 : Option Addr) (e0 : Nat), e = .returned (.tuple #[.slice C0 (yRegularElements0 t0 m1 m2 t2).length e0, .int .i64 (qRegularElements1 t0 m1 m2 t2)]) ∧ Ex W W' ∧ OwnL W' W.heap.size W'.heap.size C0 (yRegularElements0 t0 m1 m2 t2) := by
  intro B0 d0 B2 d2 w hR hF hs hf
  have e0 : Ex w ((w.alloc (.cells #[.slice B0 t0.length d0] 32)).alloc (.cells #[.int .i64 m2, .slice B2 t2.length d2] 34)) := ((Ex.refl w).alloc _).alloc _
  have b0 : Has ((w.alloc (.cells #[.slice B0 t0.length d0] 32)).alloc (.cells #[.int .i64 m2, .slice B2 t2.length d2] 34)) (w.heap.size) 32 #[.slice B0 t0.length d0] := ((Has.newAt (w := w) (e := 32) (cs := #[.slice B0 t0.length d0]) (k := w.heap.size) (by simp)).alloc _)
  have b1 : Has ((w.alloc (.cells #[.slice B0 t0.length d0] 32)).alloc (.cells #[.int .i64 m2, .slice B2 t2.length d2] 34)) (w.heap.size + 1) 34 #[.int .i64 m2, .slice B2 t2.length d2] := (Has.newAt (w := (w.alloc (.cells #[.slice B0 t0.length d0] 32))) (e := 34) (cs := #[.int .i64 m2, .slice B2 t2.length d2]) (k := w.heap.size + 1) (by simp))
  have HFS := Lib.hid (l10Given_any B0 B2 t0 m1 m2 t2 d0 d2 _ (hR.ex e0) (hF.ex e0) hs hf)
  have HE := Lib.hid e0
  have HB0 := Lib.hid b0
  have HB1 := Lib.hid b1
  have c0 := b0.cell 0
  have c1 := b1.cell 0
  have c1' := b1.cell 1
  clear b0 b1
  by_cases hz : c10 t0 m1 m2 t2 = 0
  · obtain ⟨M, rfl, rfl, h⟩ := c10_yes hz
    have HFO := Lib.hid (fun W (he : Ex w W) => l10Regular_any B0 B2 t0 M t2 d0 d2 W (hR.ex he) (hF.ex he) h)
    have HQ := Lib.hid (re_yes hz)
    rw [hz] at HFS
    clear hR hF hs hf hz h e0
    go_enter Tryz.func8, Tryz.ntmps8
    go_wp2_with fail
    generalize ((w.alloc (.cells #[.slice B0 t0.length d0] 32)).alloc (.cells #[.int .i64 2, .slice B2 t2.length d2] 34)) = W0 at *
    refine HFS.out.mono ?_
    rintro e W1 ⟨rfl, he1⟩
    have HE1 := Lib.hid (HE.out.trans he1)
    have k0 := (HB0.out.ex he1).cell 0
    have k1 := (HB1.out.ex he1).cell 0
    have k1' := (HB1.out.ex he1).cell 1
    clear he1 c0 c1 c1'
    go_wp2_with fail
    refine (HFO.out W1 HE1.out).mono ?_
    rintro e W5 ⟨C5, n5, rfl, he5, ho5⟩
    have HE5 := Lib.hid (HE1.out.trans he5)
    have HO5 := Lib.hid (ho5.mono HE1.out.size (Nat.le_refl _) (Nat.le_refl _))
    clear he5 ho5 k0 k1 k1'
    go_wp2_with fail
    go_ret2
    exact ⟨C5, n5, by rw [HQ.out.1, HQ.out.2]; rfl, HE5.out, by rw [HQ.out.1]; exact HO5.out⟩
  · have HQ := Lib.hid (re_no hz)
    obtain ⟨C, hC⟩ : ∃ C, c10 t0 m1 m2 t2 = C := ⟨_, rfl⟩
    rw [hC] at HFS HQ hz
    have hne : (C != 0) = true := by simpa using hz
    clear hR hF hs hf hz e0 hC
    go_enter Tryz.func8, Tryz.ntmps8
    go_wp2_with fail
    generalize ((w.alloc (.cells #[.slice B0 t0.length d0] 32)).alloc (.cells #[.int .i64 m2, .slice B2 t2.length d2] 34)) = W0 at *
    refine HFS.out.mono ?_
    rintro e W1 ⟨rfl, he1⟩
    have HE1 := Lib.hid (HE.out.trans he1)
    clear he1 c0 c1 c1'
    go_wp2_with fail
    go_ret2
    exact ⟨none, 0, by rw [HQ.out.1, HQ.out.2]; rfl, HE1.out, by rw [HQ.out.1]; exact OwnL.nil _ _ _ (Nat.le_refl _)⟩

end Go.Proofs.YtcdijeeabgmgmaaGreatDoor
