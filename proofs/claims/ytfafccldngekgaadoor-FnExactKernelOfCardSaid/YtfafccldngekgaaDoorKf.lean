/- KernelOf, where the program takes the elements with a number: both contracts. -/
import Derived.Test.YtfafccldngekgaaDoorCel
import Derived.Test.YtfafccldngekgaaDoorMnm
import Derived.Test.YtfafccldngekgaaDoorEw
import Derived.Test.YtfafccldngekgaaDoorIsg
namespace Go.Proofs.YtfafccldngekgaaDoor
open Go.RowKit Go.Shelf

attribute [local go_sem] Oper.semAt_some

/-- The numbers of the units that are 1, below k. -/
def kerN (us : List Int) (k : Nat) : List Nat := (List.range k).filter fun i => nth us i == 1
def kerI (us : List Int) (k : Nat) : List Int := (kerN us k).map fun a : Nat => (a : Int)
theorem kerN_zero (us : List Int) : kerN us 0 = [] := rfl
theorem kerI_yes {us : List Int} {k : Nat} (h : (nth us k == 1) = true) : kerI us (k + 1) = kerI us k ++ [(k : Int)] := by simp [kerI, kerN, List.range_succ, h]
theorem kerI_no {us : List Int} {k : Nat} (h : (nth us k == 1) = false) : kerI us (k + 1) = kerI us k := by simp [kerI, kerN, List.range_succ, h]
theorem kerI_len (us : List Int) (k : Nat) : (kerI us k).length ≤ k := by
  simp only [kerI, kerN, List.length_map]
  exact Nat.le_trans (List.length_filter_le _ _) (by simp)
/-- A set with just these elements has this list. -/
theorem elI_of {s n : Nat} {us : List Int} (hn : n ≤ 8) (h : ∀ a, a < 8 → s.testBit a = (decide (a < n) && (nth us a == 1))) : elI s = kerI us n := by
  unfold elI kerI
  congr 1
  unfold elN kerN
  have h8 : List.range 8 = List.range n ++ (List.range (8 - n)).map (n + ·) := by rw [← List.range_add]; congr 1; omega
  have h1 : (List.range n).filter (fun a => s.testBit a) = (List.range n).filter fun i => nth us i == 1 := List.filter_congr fun a ha => by
    have := List.mem_range.1 ha
    rw [h a (by omega)]
    simp [this]
  have h2 : ((List.range (8 - n)).map (n + ·)).filter (fun a => s.testBit a) = [] := List.filter_eq_nil_iff.2 fun a ha => by
    obtain ⟨b, hb, rfl⟩ := List.mem_map.1 ha
    have := List.mem_range.1 hb
    rw [h _ (by omega), decide_eq_false (by omega)]
    simp
  rw [h8, List.filter_append, h1, h2, List.append_nil]

noncomputable def yKernelOf0 (t : List (List Int)) (m : Int) (us : List Int) : List Int := if gmB t m us = true then kerI us us.length else []
noncomputable def qKernelOf1 (t : List (List Int)) (m : Int) (us : List Int) : Int := gmC t m us
section
variable {t : List (List Int)} {m : Int} {us : List Int}
theorem ke_no (h : gmB t m us = false) : yKernelOf0 t m us = [] ∧ qKernelOf1 t m us = 1 := by simp [yKernelOf0, qKernelOf1, h, gmC_no h]
theorem ke_yes (h : gmB t m us = true) : yKernelOf0 t m us = kerI us us.length ∧ qKernelOf1 t m us = 0 := by simp [yKernelOf0, qKernelOf1, h, gmC_yes h]
theorem kernelOf_small0 (t : List (List Int)) (m : Int) (us : List Int) : (yKernelOf0 t m us).length ≤ 1048576 := by
  unfold yKernelOf0
  split
  · rename_i h
    obtain ⟨M, _, hF⟩ := gmB_f h
    have := hF.len
    have := hF.g.n8
    have := kerI_len us us.length
    omega
  · simp
end

set_option maxRecDepth 100000 in
set_option maxHeartbeats 2000000 in
theorem specKernelOf_ex (t0 : List (List Int)) (m1 : Int) (t1 : List Int) : ∀ (B0 : Option Addr) (d0 : Nat) (B1 : Option Addr) (d1 : Nat) (W : World), RwsW W B0 t0 → IntsW W B1 t1 → SmallT t0 → t1.length ≤ 1048576 →
    Calls Tryd.prog 19 #[.agg #[.slice B0 t0.length d0], .agg #[.int .i64 m1, .slice B1 t1.length d1]] W fun e W' => ∃ (C0 : Option Addr) (e0 : Nat), e = .returned (.tuple #[.slice C0 (yKernelOf0 t0 m1 t1).length e0, .int .i64 (qKernelOf1 t0 m1 t1)]) ∧ Ex W W' ∧ OwnL W' W.heap.size W'.heap.size C0 (yKernelOf0 t0 m1 t1) := by
  intro B0 d0 B1 d1 w hR hX hs hu
  obtain ⟨i0, hi, hi0, hi1, hi2⟩ := info_parts infoI
  have e0 : Ex w (((w.alloc (.cells #[.slice B0 t0.length d0] 32)).alloc (.cells #[.int .i64 m1, .slice B1 t1.length d1] 34)).alloc (.cells #[.int .i64 m1, .slice B1 t1.length d1] 34)) := (((Ex.refl w).alloc _).alloc _).alloc _
  have b0 : Has (((w.alloc (.cells #[.slice B0 t0.length d0] 32)).alloc (.cells #[.int .i64 m1, .slice B1 t1.length d1] 34)).alloc (.cells #[.int .i64 m1, .slice B1 t1.length d1] 34)) (w.heap.size) 32 #[.slice B0 t0.length d0] := (((Has.newAt (w := w) (e := 32) (cs := #[.slice B0 t0.length d0]) (k := w.heap.size) (by simp)).alloc _).alloc _)
  have b1 : Has (((w.alloc (.cells #[.slice B0 t0.length d0] 32)).alloc (.cells #[.int .i64 m1, .slice B1 t1.length d1] 34)).alloc (.cells #[.int .i64 m1, .slice B1 t1.length d1] 34)) (w.heap.size + 1) 34 #[.int .i64 m1, .slice B1 t1.length d1] := ((Has.newAt (w := (w.alloc (.cells #[.slice B0 t0.length d0] 32))) (e := 34) (cs := #[.int .i64 m1, .slice B1 t1.length d1]) (k := w.heap.size + 1) (by simp)).alloc _)
  have b2 : Has (((w.alloc (.cells #[.slice B0 t0.length d0] 32)).alloc (.cells #[.int .i64 m1, .slice B1 t1.length d1] 34)).alloc (.cells #[.int .i64 m1, .slice B1 t1.length d1] 34)) (w.heap.size + 1 + 1) 34 #[.int .i64 m1, .slice B1 t1.length d1] := (Has.newAt (w := ((w.alloc (.cells #[.slice B0 t0.length d0] 32)).alloc (.cells #[.int .i64 m1, .slice B1 t1.length d1] 34))) (e := 34) (cs := #[.int .i64 m1, .slice B1 t1.length d1]) (k := w.heap.size + 1 + 1) (by simp))
  have HC := Lib.hid (l02Code_ex B0 B1 t0 m1 t1 d0 d1 (w.heap.size + 1 + 1) _ (hR.ex e0) (hX.ex e0) hs hu b2)
  cases hg : gmB t0 m1 t1 with
  | false =>
    rw [gmC_no hg] at HC
    have HQ := Lib.hid (ke_no hg)
    clear hg hR hX
    go_enter Tryd.func19, Tryd.ntmps19
    go_wp2_with fail
    generalize (((w.alloc (.cells #[.slice B0 t0.length d0] 32)).alloc (.cells #[.int .i64 m1, .slice B1 t1.length d1] 34)).alloc (.cells #[.int .i64 m1, .slice B1 t1.length d1] 34)) = W0 at *
    refine HC.out.mono ?_
    rintro e W1 ⟨rfl, he1⟩
    have HE1 := Lib.hid (e0.trans he1)
    clear b0 b1 b2 e0 he1
    go_wp2_with fail
    go_ret2
    exact ⟨none, 0, by rw [HQ.out.1, HQ.out.2]; rfl, HE1.out, by rw [HQ.out.1]; exact OwnL.nil _ _ _ (Nat.le_refl _)⟩
  | true =>
    rw [gmC_yes hg] at HC
    have HQ := Lib.hid (ke_yes hg)
    obtain ⟨M, rfl, hF⟩ := gmB_f hg
    have hl8 : t1.length ≤ 8 := by rw [hF.len]; exact hF.g.n8
    have HX := Lib.hid hX
    clear hg hR hX hF hs hu
    go_enter Tryd.func19, Tryd.ntmps19
    go_wp2_with fail
    generalize (((w.alloc (.cells #[.slice B0 t0.length d0] 32)).alloc (.cells #[.int .i64 (M : Int), .slice B1 t1.length d1] 34)).alloc (.cells #[.int .i64 (M : Int), .slice B1 t1.length d1] 34)) = W0 at *
    refine HC.out.mono ?_
    rintro e W1 ⟨rfl, he1⟩
    have HE1 := Lib.hid ((e0.trans he1).alloc (.cells #[] 2))
    have HB1 := Lib.hid ((b1.ex he1).alloc (.cells #[] 2))
    have HG1 := Lib.hid (GrowI.empty (lo := w.heap.size) W1 (e0.trans he1).size)
    clear b0 b1 b2 e0 he1
    go_wp2_with fail
    generalize W1.alloc (.cells #[] 2) = W2 at *
    go_loopw [7, 8] (fun v i wr => ∃ k : Nat, k ≤ t1.length ∧ i = .int .i64 (k : Int) ∧ Hid (Ex w wr) ∧ Hid (Has wr (w.heap.size + 1) 34 #[.int .i64 (M : Int), .slice B1 t1.length d1]) ∧ Hid (GrowI wr w.heap.size v (kerI t1 k).length (kerI t1 k))) (fun _ i _ => t1.length - (intOf i).toNat)
    case atStart => exact ⟨0, Nat.zero_le _, rfl, HE1, HB1, HG1⟩
    case round =>
      obtain ⟨k, hk, rfl, HE, HB, HG⟩ := hrel
      have c1 := HB.out.cell 1
      have hkl := kerI_len t1 k
      by_cases hlt : k < t1.length
      · obtain ⟨bx, ox, rfl, hbx, hcx⟩ := HX.out.ints.at_ hlt
        have hxc : wr.cell? ⟨bx, ox + k, none⟩ = some (.int .i64 (nth t1 k)) := (HE.out.below.cell (p := ⟨bx, ox + k, none⟩) hbx).trans hcx
        have hz := HE.out.size
        cases hq : (nth t1 k == 1) with
        | true =>
          have HKI := Lib.hid (kerI_yes hq)
          clear hcx
          generalize nth t1 k = z at *
          obtain ⟨xs, hxs⟩ : ∃ xs, kerI t1 k = xs := ⟨_, rfl⟩
          rw [hxs] at HG HKI hkl
          clear hxs
          go_wp2_with (at_builtin; refine wpList_append_own _ rfl _ _ 25 rfl w.heap.size 2 i0 (.int .i64 0) 1 8 Tryd.underlying25 hi hi0 hi1 hi2 rfl (by decide) _ _ _ rfl (HG.out.1.alloc _) ⟨wr.heap.size, 0, none⟩ 1 1 [.int .i64 (k : Int)] rfl rfl (cell_one_new _ _ _) (by simp [Value.oneCell']) (by unfold maxLen; omega) (by omega) (by simp; omega) ?_; intro v' w3 hown3 hgrow3 _; have G3 := HG.out.ex (Ex.new wr (.cells #[.int .i64 (k : Int)] 2)); have HE3 := Lib.hid (Ex.grew (HE.out.alloc _) G3 (Nat.le_refl _) hgrow3); have HB3 := Lib.hid (Has.grew (HB.out.alloc _) (by decide) G3 hgrow3); have HG3 := Lib.hid (G3.snoc hown3); clear hown3 hgrow3 G3)
          go_roundw
          case rel => exact ⟨k + 1, by omega, by go_num, HE3, HB3, by rw [HKI.out, List.length_append]; exact HG3⟩
          case measure => simp [intOf]; omega
        | false =>
          have HKI := Lib.hid (kerI_no hq)
          clear hcx
          generalize nth t1 k = z at *
          go_wp2_with fail
          go_roundw
          case rel => exact ⟨k + 1, by omega, by go_num, HE, HB, by rw [HKI.out]; exact HG⟩
          case measure => simp [intOf]; omega
      · obtain rfl : k = t1.length := by omega
        obtain ⟨A', n', rfl, hO⟩ := HG.out.own
        have HO := Lib.hid hO
        clear hO
        go_wp2_with fail
        go_ret2
        exact ⟨A', n', by rw [HQ.out.1, HQ.out.2]; rfl, HE.out, by rw [HQ.out.1]; exact HO.out⟩

theorem kerI_with (us : List Int) (k : Nat) : kerI us k = wthI 1 us k := rfl

set_option maxRecDepth 100000 in
set_option maxHeartbeats 4000000 in
theorem implKernelOf_ex (t0 : List (List Int)) (m1 : Int) (t1 : List Int) : ∀ (B0 : Option Addr) (d0 : Nat) (B1 : Option Addr) (d1 : Nat) (W : World), RwsW W B0 t0 → IntsW W B1 t1 → SmallT t0 → t1.length ≤ 1048576 → TabL W →
    Calls Tryd.prog 20 #[.agg #[.slice B0 t0.length d0], .agg #[.int .i64 m1, .slice B1 t1.length d1]] W fun e W' => ∃ (C0 : Option Addr) (e0 : Nat), e = .returned (.tuple #[.slice C0 (yKernelOf0 t0 m1 t1).length e0, .int .i64 (qKernelOf1 t0 m1 t1)]) ∧ Ex W W' ∧ OwnL W' W.heap.size W'.heap.size C0 (yKernelOf0 t0 m1 t1) := by
  intro B0 d0 B1 d1 w hR hX hs hu hT
  have e0 : Ex w ((w.alloc (.cells #[.slice B0 t0.length d0] 32)).alloc (.cells #[.int .i64 m1, .slice B1 t1.length d1] 34)) := ((Ex.refl w).alloc _).alloc _
  have b0 : Has ((w.alloc (.cells #[.slice B0 t0.length d0] 32)).alloc (.cells #[.int .i64 m1, .slice B1 t1.length d1] 34)) (w.heap.size) 32 #[.slice B0 t0.length d0] := ((Has.newAt (w := w) (e := 32) (cs := #[.slice B0 t0.length d0]) (k := w.heap.size) (by simp)).alloc _)
  have b1 : Has ((w.alloc (.cells #[.slice B0 t0.length d0] 32)).alloc (.cells #[.int .i64 m1, .slice B1 t1.length d1] 34)) (w.heap.size + 1) 34 #[.int .i64 m1, .slice B1 t1.length d1] := (Has.newAt (w := (w.alloc (.cells #[.slice B0 t0.length d0] 32))) (e := 34) (cs := #[.int .i64 m1, .slice B1 t1.length d1]) (k := w.heap.size + 1) (by simp))
  have HC := Lib.hid (isModule_ex B0 B1 t0 m1 t1 d0 d1 _ (hR.ex e0) (hX.ex e0) hs hu)
  have HE0 := Lib.hid e0
  cases hg : gmB t0 m1 t1 with
  | false =>
    rw [hg] at HC
    have HQ := Lib.hid (ke_no hg)
    clear hg hR hX hT
    go_enter Tryd.func20, Tryd.ntmps20
    go_wp2_with fail
    generalize ((w.alloc (.cells #[.slice B0 t0.length d0] 32)).alloc (.cells #[.int .i64 m1, .slice B1 t1.length d1] 34)) = W0 at *
    refine HC.out.mono ?_
    rintro e W1 ⟨rfl, he1⟩
    go_wp2_with fail
    go_ret2
    exact ⟨none, 0, by rw [HQ.out.1, HQ.out.2]; rfl, HE0.out.trans he1, by rw [HQ.out.1]; exact OwnL.nil _ _ _ (Nat.le_refl _)⟩
  | true =>
    rw [hg] at HC
    have HQ := Lib.hid (ke_yes hg)
    obtain ⟨M, rfl, hF⟩ := gmB_f hg
    have hl8 : t1.length ≤ 8 := by rw [hF.len]; exact hF.g.n8
    have HEW := Lib.hid (fun W (he : Ex w W) => elementsWith_any B1 t1 1 d1 W (hX.ex he) hl8 (hT.ex he))
    rw [kerI_with] at HQ
    obtain ⟨ys, hys⟩ : ∃ ys, wthI 1 t1 t1.length = ys := ⟨_, rfl⟩
    rw [hys] at HQ HEW
    clear hg hR hX hF hs hu hT hys
    go_enter Tryd.func20, Tryd.ntmps20
    go_wp2_with fail
    generalize ((w.alloc (.cells #[.slice B0 t0.length d0] 32)).alloc (.cells #[.int .i64 (M : Int), .slice B1 t1.length d1] 34)) = W0 at *
    refine HC.out.mono ?_
    rintro e W1 ⟨rfl, he1⟩
    have c1 := (b1.ex he1).cell 1
    have HE1 := Lib.hid (HE0.out.trans he1)
    go_wp2_with fail
    refine (HEW.out W1 HE1.out).mono ?_
    rintro e W2 ⟨A', c', rfl, he2, ho2⟩
    have HO := Lib.hid ho2
    have HE2 := Lib.hid (HE1.out.trans he2)
    clear ho2 he2
    go_wp2_with fail
    go_ret2
    exact ⟨A', c', by rw [HQ.out.1, HQ.out.2]; rfl, HE2.out, by rw [HQ.out.1]; exact HO.out.mono HE1.out.size (Nat.le_refl _) HO.out.le⟩

end Go.Proofs.YtfafccldngekgaaDoor
