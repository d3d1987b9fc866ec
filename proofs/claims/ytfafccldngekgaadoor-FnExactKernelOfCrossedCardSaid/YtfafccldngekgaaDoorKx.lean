/- KernelOfCrossed: both contracts. -/
import Derived.Test.YtfafccldngekgaaDoorCa
import Derived.Test.YtfafccldngekgaaDoorCb
import Derived.Test.YtfafccldngekgaaDoorEw
namespace Go.Proofs.YtfafccldngekgaaDoor
open Go.RowKit

noncomputable def yKernelOfCrossed0 (t : List (List Int)) (m : Int) (us fs : List Int) : List Int := if crC t m us fs = 0 then wthI 0 fs t.length else []
noncomputable def qKernelOfCrossed1 (t : List (List Int)) (m : Int) (us fs : List Int) : Int := crC t m us fs
theorem crC_zero' {t : List (List Int)} {m : Int} {us fs : List Int} (h : crC t m us fs = 0) : ∃ M : Nat, m = (M : Int) ∧ ModF t M us ∧ fs.length = t.length ∧ InR M fs := by
  by_cases hn : ncC t m us fs = 0
  · obtain ⟨h1, h2⟩ := ncC_zero hn
    obtain ⟨M, rfl, hm⟩ := gmB_f h1
    exact ⟨M, rfl, hm, numB_true h2⟩
  · rw [crC_nc hn] at h
    exact absurd h hn
theorem kernelOfCrossed_small0 (t : List (List Int)) (m : Int) (us fs : List Int) : (yKernelOfCrossed0 t m us fs).length ≤ 1048576 := by
  unfold yKernelOfCrossed0
  split
  · rename_i h
    obtain ⟨M, _, hF, _⟩ := crC_zero' h
    have := hF.g.n8
    have := wthI_len 0 fs t.length
    omega
  · simp

set_option maxRecDepth 100000 in
set_option maxHeartbeats 4000000 in
theorem specKernelOfCrossed_ex (t0 : List (List Int)) (m1 : Int) (t1 : List Int) (t2 : List Int) : ∀ (B0 : Option Addr) (d0 : Nat) (B1 : Option Addr) (d1 : Nat) (B2 : Option Addr) (d2 : Nat) (W : World), RwsW W B0 t0 → IntsW W B1 t1 → IntsW W B2 t2 → SmallT t0 → t1.length ≤ 1048576 → t2.length ≤ 1048576 →
    Calls Tryd.prog 7 #[.agg #[.slice B0 t0.length d0], .agg #[.int .i64 m1, .slice B1 t1.length d1], .slice B2 t2.length d2] W fun e W' => ∃ (C0 : Option Addr) (e0 : Nat), e = .returned (.tuple #[.slice C0 (yKernelOfCrossed0 t0 m1 t1 t2).length e0, .int .i64 (qKernelOfCrossed1 t0 m1 t1 t2)]) ∧ Ex W W' ∧ OwnL W' W.heap.size W'.heap.size C0 (yKernelOfCrossed0 t0 m1 t1 t2) := by
  intro B0 d0 B1 d1 B2 d2 w hR hX hF hs hu hf
  obtain ⟨i0, hi, hi0, hi1, hi2⟩ := info_parts infoI
  have e0 : Ex w ((w.alloc (.cells #[.slice B0 t0.length d0] 32)).alloc (.cells #[.int .i64 m1, .slice B1 t1.length d1] 34)) := ((Ex.refl w).alloc _).alloc _
  have b0 : Has ((w.alloc (.cells #[.slice B0 t0.length d0] 32)).alloc (.cells #[.int .i64 m1, .slice B1 t1.length d1] 34)) (w.heap.size) 32 #[.slice B0 t0.length d0] := ((Has.newAt (w := w) (e := 32) (cs := #[.slice B0 t0.length d0]) (k := w.heap.size) (by simp)).alloc _)
  have b1 : Has ((w.alloc (.cells #[.slice B0 t0.length d0] 32)).alloc (.cells #[.int .i64 m1, .slice B1 t1.length d1] 34)) (w.heap.size + 1) 34 #[.int .i64 m1, .slice B1 t1.length d1] := (Has.newAt (w := (w.alloc (.cells #[.slice B0 t0.length d0] 32))) (e := 34) (cs := #[.int .i64 m1, .slice B1 t1.length d1]) (k := w.heap.size + 1) (by simp))
  have HC := Lib.hid (l05Given_ex B0 B1 B2 t0 m1 t1 t2 d0 d1 d2 _ (hR.ex e0) (hX.ex e0) (hF.ex e0) hs hu hf)
  have HE0 := Lib.hid e0
  by_cases hg : crC t0 m1 t1 t2 = 0
  · obtain ⟨M, rfl, hm, hl, hr⟩ := crC_zero' hg
    have HQ : Hid (yKernelOfCrossed0 t0 (M : Int) t1 t2 = wthI 0 t2 t0.length ∧ qKernelOfCrossed1 t0 (M : Int) t1 t2 = 0) := Lib.hid ⟨by rw [yKernelOfCrossed0, if_pos hg], hg⟩
    rw [hg] at HC
    have hN1 := hm.g.n1
    have hN8 := hm.g.n8
    obtain ⟨bf, of, rfl, hbf, -⟩ := hF.ints.at_ (j := 0) (by omega)
    have HU := Lib.hid (fun k (hk : k < t0.length) W (he : Ex w W) => (⟨by omega, ints_cell (hF.ex he).ints (by omega)⟩ : k < t2.length ∧ W.cell? ⟨bf, of + k, none⟩ = some (.int .i64 (nth t2 k))))
    clear hR hX hF hs hu hg hr hm hl
    go_enter Tryd.func7, Tryd.ntmps7
    go_wp2_with fail
    generalize ((w.alloc (.cells #[.slice B0 t0.length d0] 32)).alloc (.cells #[.int .i64 (M : Int), .slice B1 t1.length d1] 34)) = W0 at *
    refine HC.out.mono ?_
    rintro e W1 ⟨rfl, he1⟩
    have g0 := GrowI.empty (lo := w.heap.size) W1 (e0.trans he1).size
    have HB0 := Lib.hid ((b0.ex he1).alloc (.cells #[] 2))
    have HE1 := Lib.hid ((e0.trans he1).alloc (.cells #[] 2))
    have HG0 := Lib.hid g0
    clear b0 b1 e0 g0 he1
    go_wp2_with fail
    generalize W1.alloc (.cells #[] 2) = W2 at *
    go_loopw [9, 10] (fun v i wr => ∃ k : Nat, k ≤ t0.length ∧ i = .int .i64 (k : Int) ∧ Hid (Ex w wr) ∧ Hid (Has wr w.heap.size 32 #[.slice B0 t0.length d0]) ∧ Hid (GrowI wr w.heap.size v (wthI 0 t2 k).length (wthI 0 t2 k))) (fun _ i _ => t0.length - (intOf i).toNat)
    case atStart => exact ⟨0, Nat.zero_le _, rfl, HE1, HB0, Lib.hid (by exact HG0.out)⟩
    case round =>
      obtain ⟨k, hk, rfl, HE', HA, HG'⟩ := hrel
      have c0 := HA.out.cell 0
      have hkl := wthI_len 0 t2 k
      by_cases hlt : k < t0.length
      · have HUC := Lib.hid (HU.out k hlt)
        have hkf : k < t2.length := (HU.out k hlt w (Ex.refl _)).1
        have hkz : (0 : Int) ≤ (k : Int) := by omega
        have hkn : (k : Int) < (t2.length : Int) := by omega
        cases hq : (nth t2 k == 0) with
        | true =>
          have HKI := Lib.hid (wthI_yes hq)
          obtain ⟨z, hz⟩ : ∃ z, nth t2 k = z := ⟨_, rfl⟩
          rw [hz] at HUC hq
          obtain ⟨xs, hxs⟩ : ∃ xs, wthI 0 t2 k = xs := ⟨_, rfl⟩
          rw [hxs] at HG' HKI hkl
          clear hxs hz
          go_wp2_with (first
            | (go_at_call 24; refine (l01N_ex _ t0.length d0 _ (by omega)).mono ?_; rintro e wn ⟨rfl, hen⟩; have HE := Lib.hid (HE'.out.trans hen); have HAn := Lib.hid (HA.out.ex hen); have HG := Lib.hid (HG'.out.ex hen); have hxc := (HUC.out wn HE.out).2; have hz := HE.out.size; clear hen c0)
            | (at_builtin; refine wpList_append_own _ rfl _ _ 25 rfl w.heap.size 2 i0 (.int .i64 0) 1 8 Tryd.underlying25 hi hi0 hi1 hi2 rfl (by decide) _ _ _ rfl (HG.out.1.alloc _) ⟨wn.heap.size, 0, none⟩ 1 1 [.int .i64 (k : Int)] rfl rfl (cell_one_new _ _ _) (by simp [Value.oneCell']) (by unfold maxLen; omega) (by omega) (by simp; omega) ?_; intro v' w3 hown3 hgrow3 _; have G3 := HG.out.ex (Ex.new wn (.cells #[.int .i64 (k : Int)] 2)); have HE3 := Lib.hid (Ex.grew (HE.out.alloc _) G3 (Nat.le_refl _) hgrow3); have HA3 := Lib.hid (Has.grew (HAn.out.alloc _) (by decide) G3 hgrow3); have HG3 := Lib.hid (G3.snoc hown3); clear hown3 hgrow3 G3))
          go_roundw
          case rel => exact ⟨k + 1, by omega, by go_num, HE3, HA3, by rw [HKI.out, List.length_append]; exact HG3⟩
          case measure => simp [intOf]; omega
        | false =>
          have HKI := Lib.hid (wthI_no hq)
          obtain ⟨z, hz⟩ : ∃ z, nth t2 k = z := ⟨_, rfl⟩
          rw [hz] at HUC hq
          clear hz
          go_wp2_with (go_at_call 24; refine (l01N_ex _ t0.length d0 _ (by omega)).mono ?_; rintro e wn ⟨rfl, hen⟩; have HE := Lib.hid (HE'.out.trans hen); have HAn := Lib.hid (HA.out.ex hen); have HG := Lib.hid (HG'.out.ex hen); have hxc := (HUC.out wn HE.out).2; clear hen c0)
          go_roundw
          case rel => exact ⟨k + 1, by omega, by go_num, HE, HAn, by rw [HKI.out]; exact HG⟩
          case measure => simp [intOf]; omega
      · obtain rfl : k = t0.length := by omega
        go_wp2_with (go_at_call 24; refine (l01N_ex _ t0.length d0 _ (by omega)).mono ?_; rintro e wn ⟨rfl, hen⟩; have HE1' := Lib.hid (HE'.out.trans hen); have HG1 := Lib.hid (HG'.out.ex hen); clear hen c0)
        obtain ⟨A', n', rfl, hO⟩ := HG1.out.own
        have HO := Lib.hid hO
        clear hO
        go_ret2
        exact ⟨A', n', by rw [HQ.out.1, HQ.out.2]; rfl, HE1'.out, by rw [HQ.out.1]; exact HO.out⟩
  · have HQ : Hid (yKernelOfCrossed0 t0 m1 t1 t2 = [] ∧ qKernelOfCrossed1 t0 m1 t1 t2 = crC t0 m1 t1 t2) := Lib.hid ⟨by rw [yKernelOfCrossed0, if_neg hg], rfl⟩
    obtain ⟨z, hz⟩ : ∃ z, crC t0 m1 t1 t2 = z := ⟨_, rfl⟩
    rw [hz] at HC HQ hg
    have hzb : (z != 0) = true := by simpa using hg
    clear hR hX hF hg hz
    go_enter Tryd.func7, Tryd.ntmps7
    go_wp2_with fail
    generalize ((w.alloc (.cells #[.slice B0 t0.length d0] 32)).alloc (.cells #[.int .i64 m1, .slice B1 t1.length d1] 34)) = W0 at *
    refine HC.out.mono ?_
    rintro e W1 ⟨rfl, he1⟩
    go_wp2_with fail
    go_ret2
    exact ⟨none, 0, by rw [HQ.out.1, HQ.out.2]; rfl, HE0.out.trans he1, by rw [HQ.out.1]; exact OwnL.nil _ _ _ (Nat.le_refl _)⟩

set_option maxRecDepth 100000 in
set_option maxHeartbeats 4000000 in
theorem implKernelOfCrossed_ex (t0 : List (List Int)) (m1 : Int) (t1 : List Int) (t2 : List Int) : ∀ (B0 : Option Addr) (d0 : Nat) (B1 : Option Addr) (d1 : Nat) (B2 : Option Addr) (d2 : Nat) (W : World), RwsW W B0 t0 → IntsW W B1 t1 → IntsW W B2 t2 → SmallT t0 → t1.length ≤ 1048576 → t2.length ≤ 1048576 → TabL W →
    Calls Tryd.prog 11 #[.agg #[.slice B0 t0.length d0], .agg #[.int .i64 m1, .slice B1 t1.length d1], .slice B2 t2.length d2] W fun e W' => ∃ (C0 : Option Addr) (e0 : Nat), e = .returned (.tuple #[.slice C0 (yKernelOfCrossed0 t0 m1 t1 t2).length e0, .int .i64 (qKernelOfCrossed1 t0 m1 t1 t2)]) ∧ Ex W W' ∧ OwnL W' W.heap.size W'.heap.size C0 (yKernelOfCrossed0 t0 m1 t1 t2) := by
  intro B0 d0 B1 d1 B2 d2 w hR hX hF hs hu hf hT
  have e0 : Ex w ((w.alloc (.cells #[.slice B0 t0.length d0] 32)).alloc (.cells #[.int .i64 m1, .slice B1 t1.length d1] 34)) := ((Ex.refl w).alloc _).alloc _
  have b0 : Has ((w.alloc (.cells #[.slice B0 t0.length d0] 32)).alloc (.cells #[.int .i64 m1, .slice B1 t1.length d1] 34)) (w.heap.size) 32 #[.slice B0 t0.length d0] := ((Has.newAt (w := w) (e := 32) (cs := #[.slice B0 t0.length d0]) (k := w.heap.size) (by simp)).alloc _)
  have b1 : Has ((w.alloc (.cells #[.slice B0 t0.length d0] 32)).alloc (.cells #[.int .i64 m1, .slice B1 t1.length d1] 34)) (w.heap.size + 1) 34 #[.int .i64 m1, .slice B1 t1.length d1] := (Has.newAt (w := (w.alloc (.cells #[.slice B0 t0.length d0] 32))) (e := 34) (cs := #[.int .i64 m1, .slice B1 t1.length d1]) (k := w.heap.size + 1) (by simp))
  have HC := Lib.hid (crossedCode_ex B0 B1 B2 t0 m1 t1 t2 d0 d1 d2 _ (hR.ex e0) (hX.ex e0) (hF.ex e0) hs hu hf)
  have HE0 := Lib.hid e0
  by_cases hg : crC t0 m1 t1 t2 = 0
  · obtain ⟨M, rfl, hm, hl, hr⟩ := crC_zero' hg
    have hN8 := hm.g.n8
    have HQ : Hid (yKernelOfCrossed0 t0 (M : Int) t1 t2 = wthI 0 t2 t2.length ∧ qKernelOfCrossed1 t0 (M : Int) t1 t2 = 0) := Lib.hid ⟨by rw [yKernelOfCrossed0, if_pos hg, hl], hg⟩
    rw [hg] at HC
    have HEW := Lib.hid (fun W (he : Ex w W) => elementsWith_any B2 t2 0 d2 W (hF.ex he) (by omega) (hT.ex he))
    obtain ⟨ys, hys⟩ : ∃ ys, wthI 0 t2 t2.length = ys := ⟨_, rfl⟩
    rw [hys] at HQ HEW
    clear hR hX hF hs hu hg hr hm hl hT hys
    go_enter Tryd.func11, Tryd.ntmps11
    go_wp2_with fail
    generalize ((w.alloc (.cells #[.slice B0 t0.length d0] 32)).alloc (.cells #[.int .i64 (M : Int), .slice B1 t1.length d1] 34)) = W0 at *
    refine HC.out.mono ?_
    rintro e W1 ⟨rfl, he1⟩
    have HE1 := Lib.hid (HE0.out.trans he1)
    go_wp2_with fail
    refine (HEW.out W1 HE1.out).mono ?_
    rintro e W2 ⟨A', c', rfl, he2, ho2⟩
    have HO := Lib.hid ho2
    have HE2 := Lib.hid (HE1.out.trans he2)
    clear ho2 he2
    go_wp2_with fail
    go_ret2
    exact ⟨A', c', by rw [HQ.out.1, HQ.out.2]; rfl, HE2.out, by rw [HQ.out.1]; exact HO.out.mono HE1.out.size (Nat.le_refl _) HO.out.le⟩
  · have HQ : Hid (yKernelOfCrossed0 t0 m1 t1 t2 = [] ∧ qKernelOfCrossed1 t0 m1 t1 t2 = crC t0 m1 t1 t2) := Lib.hid ⟨by rw [yKernelOfCrossed0, if_neg hg], rfl⟩
    obtain ⟨z, hz⟩ : ∃ z, crC t0 m1 t1 t2 = z := ⟨_, rfl⟩
    rw [hz] at HC HQ hg
    have hzb : (z != 0) = true := by simpa using hg
    clear hR hX hF hg hz hT
    go_enter Tryd.func11, Tryd.ntmps11
    go_wp2_with fail
    generalize ((w.alloc (.cells #[.slice B0 t0.length d0] 32)).alloc (.cells #[.int .i64 m1, .slice B1 t1.length d1] 34)) = W0 at *
    refine HC.out.mono ?_
    rintro e W1 ⟨rfl, he1⟩
    go_wp2_with fail
    go_ret2
    exact ⟨none, 0, by rw [HQ.out.1, HQ.out.2]; rfl, HE0.out.trans he1, by rw [HQ.out.1]; exact OwnL.nil _ _ _ (Nat.le_refl _)⟩

end Go.Proofs.YtfafccldngekgaaDoor
