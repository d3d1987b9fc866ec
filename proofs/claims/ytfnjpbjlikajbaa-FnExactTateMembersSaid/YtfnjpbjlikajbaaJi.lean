/- Tests, norms, orders, classes and reduced circles: the program's contracts. -/
import Derived.BigQuiet
import Derived.Test.YtfnjpbjlikajbaaJh
namespace Go.Proofs.Ytfnjpbjlikajbaa
open Go.RowKit

set_option maxHeartbeats 1000000 in
theorem implIsCircle_ex (m0 m1 m2 : Int) : ∀ (W : World), Calls Try.prog 12 #[.int .i64 m0, .int .i64 m1, .int .i64 m2] W fun e W' => e = .returned (.bool (qIsCircle0 m0 m1 m2)) ∧ Ex W W' := by
  intro w
  have HC : Hid (∀ W, Calls Try.prog 33 #[.agg #[.int .i64 m0, .int .i64 m1, .int .i64 m2]] W fun e W' => e = .returned (.bool (qIsCircle0 m0 m1 m2)) ∧ Ex W W') := Lib.hid (fun W => isCircle_any m0 m1 m2 W)
  go_enter Try.func12, Try.ntmps12
  go_wp2_with fail
  refine (HC.out w).mono ?_
  rintro e w1 ⟨rfl, he⟩
  go_wp2_with fail
  go_ret
  exact ⟨rfl, he⟩

set_option maxHeartbeats 1000000 in
theorem implCircleNorm_ex (m0 m1 m2 : Int) : ∀ (W : World), Calls Try.prog 14 #[.int .i64 m0, .int .i64 m1, .int .i64 m2] W fun e W' => e = .returned (.tuple #[.int .i64 (qCircleNorm0 m0 m1 m2), .int .i64 (qCircleNorm1 m0 m1 m2)]) ∧ Ex W W' := by
  intro w
  cases hc : circB m0 m1 m2 with
  | false =>
    have HQ : Hid (qCircleNorm0 m0 m1 m2 = 0 ∧ qCircleNorm1 m0 m1 m2 = 2) := Lib.hid (by simp [qCircleNorm0, qCircleNorm1, hc])
    have HC := Lib.hid (circleOf_no m0 m1 m2 w hc)
    clear hc
    go_enter Try.func14, Try.ntmps14
    go_wp2_with fail
    refine HC.out.mono ?_
    rintro e w1 ⟨rfl, he⟩
    go_wp2_with fail
    go_ret2
    exact ⟨by rw [HQ.out.1, HQ.out.2]; rfl, he.alloc _⟩
  | true =>
    have HC := Lib.hid (circleOf_yes m0 m1 m2 w hc)
    obtain ⟨N, M, U, rfl, rfl, rfl, hn1, hn2, hm1, hm2, hu1, hu2, -, -⟩ := circ_of hc
    have HQ : Hid (qCircleNorm0 (N : Int) (M : Int) (U : Int) = (hrn M U N : Int) ∧ qCircleNorm1 (N : Int) (M : Int) (U : Int) = 0) := Lib.hid (by simp [qCircleNorm0, qCircleNorm1, hc])
    have HN := Lib.hid (fun W => norm_any N M U W hm1 hm2 (by omega) hn2)
    obtain ⟨r, hr⟩ : ∃ r, hrn M U N = r := ⟨_, rfl⟩
    rw [hr] at HN HQ
    clear hc hr hn1 hn2 hm1 hm2 hu1 hu2
    go_enter Try.func14, Try.ntmps14
    go_wp2_with fail
    refine HC.out.mono ?_
    rintro e w1 ⟨rfl, he⟩
    have hb := Has.new w1 44 #[.int .i64 (N : Int), .int .i64 (M : Int), .int .i64 (U : Int)]
    have c0 := hb.cell 0
    have c1 := hb.cell 1
    have c2 := hb.cell 2
    clear hb
    go_wp2_with fail
    refine (HN.out _).mono ?_
    rintro e w2 ⟨rfl, he2⟩
    go_wp2_with fail
    go_ret2
    exact ⟨by rw [HQ.out.1, HQ.out.2]; rfl, (he.alloc _).trans he2⟩

theorem tate_bounds {n m u d : Int} (h : circB n m u = true) : (0 < memD n m u d ∧ memD n m u d ≤ 200) ∧ (0 < nouD n m u d ∧ nouD n m u d ≤ 200) := by
  obtain ⟨N, M, U, rfl, rfl, rfl, hn1, hn2, hm1, hm2, hu1, hu2, -, -⟩ := circ_of h
  simp only [memD, nouD, Int.toNat_natCast]
  have h1 : 0 < Nat.gcd M (tA M U N d) := Nat.gcd_pos_of_pos_left _ (by omega)
  have h2 : 0 < Nat.gcd M (tB M U N d) := Nat.gcd_pos_of_pos_left _ (by omega)
  have h3 := Nat.gcd_le_left (tA M U N d) (show 0 < M by omega)
  have h4 := Nat.gcd_le_left (tB M U N d) (show 0 < M by omega)
  exact ⟨⟨Nat.div_pos h3 h1, Nat.le_trans (Nat.div_le_self _ _) hm2⟩, h2, by omega⟩

set_option maxRecDepth 100000 in
set_option maxHeartbeats 2000000 in
theorem tateGroupOf_no (n m u d : Int) (w : World) (hc : okD n m u d = false) :
    Calls Try.prog 39 #[.int .i64 n, .int .i64 m, .int .i64 u, .int .i64 d] w fun e w' => e = .returned (.tuple #[.agg #[.int .i64 0, .int .i64 0, .int .i64 0], .int .i64 2]) ∧ Ex w w' := by
  have e0 : Ex w (w.alloc (.cells #[.int .i64 0, .int .i64 0, .int .i64 0] 51)) := (Ex.refl w).alloc _
  have b0 : Has (w.alloc (.cells #[.int .i64 0, .int .i64 0, .int .i64 0] 51)) (w.heap.size) 51 #[.int .i64 0, .int .i64 0, .int .i64 0] := (Has.newAt (w := w) (e := 51) (cs := #[.int .i64 0, .int .i64 0, .int .i64 0]) (k := w.heap.size) (by simp))
  have HB0 := Lib.hid b0
  have HE := Lib.hid e0
  clear b0 e0
  cases hcc : circB n m u with
  | false =>
    have HC := Lib.hid (fun W => circleOf_no n m u W hcc)
    clear hc hcc
    go_enter Try.func39, Try.ntmps39
    go_wp2_with fail
    generalize (w.alloc (.cells #[.int .i64 0, .int .i64 0, .int .i64 0] 51)) = W0 at *
    refine (HC.out W0).mono ?_
    rintro e w1 ⟨rfl, he1⟩
    have he2 := he1.alloc (.cells #[.int .i64 0, .int .i64 0, .int .i64 0] 44)
    have hb1 := HB0.out.ex he2
    have HB1 := Lib.hid hb1
    have d0 := hb1.cell 0
    have d1 := hb1.cell 1
    have d2 := hb1.cell 2
    have f0 := hb1.free 0
    have f1 := hb1.free 1
    have f2 := hb1.free 2
    have hl := hb1.lt
    clear hb1
    go_wp2_with fail
    have H4 := HB1.out.put3 (u := .int .i64 0) (v := .int .i64 0) (t := .int .i64 0)
    have g0 := H4.cell 0
    have g1 := H4.cell 1
    have g2 := H4.cell 2
    refine bodyPost_ret (v := .tuple #[.agg #[.int .i64 0, .int .i64 0, .int .i64 0], .int .i64 2]) (by simp [results, Try.results39, go_sem, g0, g1, g2]) rfl ⟨rfl, ?_⟩
    exact (((HE.out.trans he2).setCell (Nat.le_refl _) _).setCell (Nat.le_refl _) _).setCell (Nat.le_refl _) _
  | true =>
    have HC := Lib.hid (fun W => circleOf_yes n m u W hcc)
    have hd : inB d (-1000) 1000 = false := by rw [okD, hcc, Bool.true_and] at hc; exact hc
    clear hc hcc
    by_cases h1 : d < -1000
    · have h1' : decide (d < -1000) = true := by simp [h1]
      clear hd h1
      go_enter Try.func39, Try.ntmps39
      go_wp2_with fail
      generalize (w.alloc (.cells #[.int .i64 0, .int .i64 0, .int .i64 0] 51)) = W0 at *
      refine (HC.out W0).mono ?_
      rintro e w1 ⟨rfl, he1⟩
      have he2 := he1.alloc (.cells #[.int .i64 n, .int .i64 m, .int .i64 u] 44)
      have hb1 := HB0.out.ex he2
      have HB1 := Lib.hid hb1
      have d0 := hb1.cell 0
      have d1 := hb1.cell 1
      have d2 := hb1.cell 2
      have f0 := hb1.free 0
      have f1 := hb1.free 1
      have f2 := hb1.free 2
      have hl := hb1.lt
      clear hb1
      go_wp2_with fail
      have H4 := HB1.out.put3 (u := .int .i64 0) (v := .int .i64 0) (t := .int .i64 0)
      have g0 := H4.cell 0
      have g1 := H4.cell 1
      have g2 := H4.cell 2
      refine bodyPost_ret (v := .tuple #[.agg #[.int .i64 0, .int .i64 0, .int .i64 0], .int .i64 2]) (by simp [results, Try.results39, go_sem, g0, g1, g2]) rfl ⟨rfl, ?_⟩
      exact (((HE.out.trans he2).setCell (Nat.le_refl _) _).setCell (Nat.le_refl _) _).setCell (Nat.le_refl _) _
    · have h1' : decide (d < -1000) = false := by simp; omega
      have h2' : decide (1000 < d) = true := by have := inB_false hd; simp; omega
      clear hd h1
      go_enter Try.func39, Try.ntmps39
      go_wp2_with fail
      generalize (w.alloc (.cells #[.int .i64 0, .int .i64 0, .int .i64 0] 51)) = W0 at *
      refine (HC.out W0).mono ?_
      rintro e w1 ⟨rfl, he1⟩
      have he2 := he1.alloc (.cells #[.int .i64 n, .int .i64 m, .int .i64 u] 44)
      have hb1 := HB0.out.ex he2
      have HB1 := Lib.hid hb1
      have d0 := hb1.cell 0
      have d1 := hb1.cell 1
      have d2 := hb1.cell 2
      have f0 := hb1.free 0
      have f1 := hb1.free 1
      have f2 := hb1.free 2
      have hl := hb1.lt
      clear hb1
      go_wp2_with fail
      have H4 := HB1.out.put3 (u := .int .i64 0) (v := .int .i64 0) (t := .int .i64 0)
      have g0 := H4.cell 0
      have g1 := H4.cell 1
      have g2 := H4.cell 2
      refine bodyPost_ret (v := .tuple #[.agg #[.int .i64 0, .int .i64 0, .int .i64 0], .int .i64 2]) (by simp [results, Try.results39, go_sem, g0, g1, g2]) rfl ⟨rfl, ?_⟩
      exact (((HE.out.trans he2).setCell (Nat.le_refl _) _).setCell (Nat.le_refl _) _).setCell (Nat.le_refl _) _

set_option maxRecDepth 100000 in
set_option maxHeartbeats 2000000 in
theorem tateGroupOf_yes (n m u d : Int) (w : World) (hc : okD n m u d = true) :
    Calls Try.prog 39 #[.int .i64 n, .int .i64 m, .int .i64 u, .int .i64 d] w fun e w' => e = .returned (.tuple #[.agg #[.int .i64 m, .int .i64 (memD n m u d : Int), .int .i64 (nouD n m u d : Int)], .int .i64 0]) ∧ Ex w w' := by
  have e0 : Ex w (w.alloc (.cells #[.int .i64 0, .int .i64 0, .int .i64 0] 51)) := (Ex.refl w).alloc _
  have b0 : Has (w.alloc (.cells #[.int .i64 0, .int .i64 0, .int .i64 0] 51)) (w.heap.size) 51 #[.int .i64 0, .int .i64 0, .int .i64 0] := (Has.newAt (w := w) (e := 51) (cs := #[.int .i64 0, .int .i64 0, .int .i64 0]) (k := w.heap.size) (by simp))
  have HB0 := Lib.hid b0
  have HE := Lib.hid e0
  clear b0 e0
  obtain ⟨hcc, hd0, hd1⟩ := okD_iff.1 hc
  have HC := Lib.hid (fun W => circleOf_yes n m u W hcc)
  obtain ⟨N, M, U, rfl, rfl, rfl, hn1, hn2, hm1, hm2, hu1, hu2, -, -⟩ := circ_of hcc
  have HT := Lib.hid (fun W => tateGroup_any N M U d W hm1 hm2 hu1 hu2 hn2 hd0 hd1)
  have hmem : memD (N : Int) (M : Int) (U : Int) d = M / Nat.gcd M (tA M U N d) := by simp only [memD, Int.toNat_natCast]
  have hnou : nouD (N : Int) (M : Int) (U : Int) d = Nat.gcd M (tB M U N d) := by simp only [nouD, Int.toNat_natCast]
  rw [← hmem, ← hnou] at HT
  obtain ⟨a, ha⟩ : ∃ a, memD (N : Int) (M : Int) (U : Int) d = a := ⟨_, rfl⟩
  obtain ⟨b, hb⟩ : ∃ b, nouD (N : Int) (M : Int) (U : Int) d = b := ⟨_, rfl⟩
  rw [ha, hb] at HT
  rw [ha, hb]
  have h1' : decide (d < -1000) = false := by simp; omega
  have h2' : decide (1000 < d) = false := by simp; omega
  clear hc hcc ha hb hmem hnou hn1 hn2 hm1 hm2 hu1 hu2 hd0 hd1
  go_enter Try.func39, Try.ntmps39
  go_wp2_with fail
  generalize (w.alloc (.cells #[.int .i64 0, .int .i64 0, .int .i64 0] 51)) = W0 at *
  refine (HC.out W0).mono ?_
  rintro e w1 ⟨rfl, he1⟩
  have he2 := he1.alloc (.cells #[.int .i64 (N : Int), .int .i64 (M : Int), .int .i64 (U : Int)] 44)
  have hn := Has.new w1 44 #[.int .i64 (N : Int), .int .i64 (M : Int), .int .i64 (U : Int)]
  have d0 := hn.cell 0
  have d1 := hn.cell 1
  have d2 := hn.cell 2
  clear hn
  go_wp2_with fail
  refine (HT.out _).mono ?_
  rintro e w2 ⟨rfl, he3⟩
  have hb1 := (HB0.out.ex he2).ex he3
  have HB1 := Lib.hid hb1
  have k0 := hb1.cell 0
  have k1 := hb1.cell 1
  have k2 := hb1.cell 2
  have f0 := hb1.free 0
  have f1 := hb1.free 1
  have f2 := hb1.free 2
  have hl := hb1.lt
  clear hb1 d0 d1 d2
  go_wp2_with fail
  have H4 := HB1.out.put3 (u := .int .i64 (M : Int)) (v := .int .i64 (a : Int)) (t := .int .i64 (b : Int))
  have g0 := H4.cell 0
  have g1 := H4.cell 1
  have g2 := H4.cell 2
  refine bodyPost_ret (v := .tuple #[.agg #[.int .i64 (M : Int), .int .i64 (a : Int), .int .i64 (b : Int)], .int .i64 0]) (by simp [results, Try.results39, go_sem, g0, g1, g2]) rfl ⟨rfl, ?_⟩
  exact ((((HE.out.trans he2).trans he3).setCell (Nat.le_refl _) _).setCell (Nat.le_refl _) _).setCell (Nat.le_refl _) _

set_option maxHeartbeats 1000000 in
theorem implTateOrder_ex (m0 m1 m2 m3 : Int) : ∀ (W : World), Calls Try.prog 16 #[.int .i64 m0, .int .i64 m1, .int .i64 m2, .int .i64 m3] W fun e W' => e = .returned (.tuple #[.int .i64 (qTateOrder0 m0 m1 m2 m3), .int .i64 (qTateOrder1 m0 m1 m2 m3)]) ∧ Ex W W' := by
  intro w
  cases hc : okD m0 m1 m2 m3 with
  | false =>
    have HQ : Hid (qTateOrder0 m0 m1 m2 m3 = 0 ∧ qTateOrder1 m0 m1 m2 m3 = 2) := Lib.hid (by simp [qTateOrder0, qTateOrder1, hc])
    have HC := Lib.hid (tateGroupOf_no m0 m1 m2 m3 w hc)
    clear hc
    go_enter Try.func16, Try.ntmps16
    go_wp2_with fail
    refine HC.out.mono ?_
    rintro e w1 ⟨rfl, he⟩
    go_wp2_with fail
    go_ret2
    exact ⟨by rw [HQ.out.1, HQ.out.2]; rfl, he.alloc _⟩
  | true =>
    have HQ : Hid (qTateOrder0 m0 m1 m2 m3 = ((nouD m0 m1 m2 m3 / memD m0 m1 m2 m3 : Nat) : Int) ∧ qTateOrder1 m0 m1 m2 m3 = 0) := Lib.hid (by simp only [qTateOrder0, qTateOrder1, hc, if_true, and_self])
    have HC := Lib.hid (tateGroupOf_yes m0 m1 m2 m3 w hc)
    obtain ⟨hcc, hd0, hd1⟩ := okD_iff.1 hc
    obtain ⟨hmp, hnl⟩ := tate_bounds hcc (d := m3)
    obtain ⟨a, ha⟩ : ∃ a, memD m0 m1 m2 m3 = a := ⟨_, rfl⟩
    obtain ⟨b, hb⟩ : ∃ b, nouD m0 m1 m2 m3 = b := ⟨_, rfl⟩
    rw [ha, hb] at HC HQ
    rw [ha] at hmp
    rw [hb] at hnl
    have HO := Lib.hid (fun W => order_any m1 a b W hmp.1 hnl.2)
    clear hc hcc hd0 hd1 ha hb hmp hnl
    obtain ⟨q, hq⟩ : ∃ q, b / a = q := ⟨_, rfl⟩
    rw [hq] at HO HQ
    clear hq
    go_enter Try.func16, Try.ntmps16
    go_wp2_with fail
    refine HC.out.mono ?_
    rintro e w1 ⟨rfl, he⟩
    have hn := Has.new w1 51 #[.int .i64 m1, .int .i64 (a : Int), .int .i64 (b : Int)]
    have c0 := hn.cell 0
    have c1 := hn.cell 1
    have c2 := hn.cell 2
    clear hn
    go_wp2_with fail
    refine (HO.out _).mono ?_
    rintro e w2 ⟨rfl, he2⟩
    go_wp2_with fail
    go_ret2
    exact ⟨by rw [HQ.out.1, HQ.out.2]; rfl, (he.alloc _).trans he2⟩


end Go.Proofs.Ytfnjpbjlikajbaa
