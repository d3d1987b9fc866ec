/- Circles for cochains: the code, the circle, the cochain of a cyclic group whose values a function tells. -/
import Derived.Test.YtfnjpbjlikajbaaDoorJe
import Derived.Test.YtfnjpbjlikajbaaDoorGw
import Derived.Test.YtfnjpbjlikajbaaDoorLst
namespace Go.Proofs.YtfnjpbjlikajbaaDoor
open Go.RowKit

/-- A circle for cochains, and a number. -/
def okW (n m u x : Int) : Bool := circB n m u && (decide (n ≤ 8) && (decide (m ≤ 12) && inB x 0 (m - 1)))
def codW (n m u x : Int) : Int := if okW n m u x = true then 0 else 2
theorem codW_no {n m u x : Int} (h : okW n m u x = false) : codW n m u x = 2 := by simp [codW, h]
theorem codW_yes {n m u x : Int} (h : okW n m u x = true) : codW n m u x = 0 := by simp [codW, h]
theorem okW_iff {n m u x : Int} : okW n m u x = true ↔ circB n m u = true ∧ n ≤ 8 ∧ m ≤ 12 ∧ 0 ≤ x ∧ x ≤ m - 1 := by
  simp [okW, inB]
theorem okW_off {n m u x : Int} (h : ¬ (circB n m u = true ∧ n ≤ 8 ∧ m ≤ 12 ∧ 0 ≤ x ∧ x ≤ m - 1)) : okW n m u x = false := by
  cases hq : okW n m u x
  · rfl
  · exact absurd (okW_iff.1 hq) h

set_option maxHeartbeats 1000000 in
theorem l09Given_w (n m u x : Int) (w : World) : Calls Tryd.prog 20 #[.int .i64 n, .int .i64 m, .int .i64 u, .int .i64 x] w fun e w' => e = .returned (.int .i64 (codW n m u x)) ∧ w' = w := by
  have HC := Lib.hid (specIsCircle_w n m u w)
  cases hc : circB n m u with
  | false =>
    have HQ : Hid (codW n m u x = 2) := Lib.hid (codW_no (okW_off fun h => by rw [hc] at h; cases h.1))
    rw [hc] at HC
    clear hc
    go_enter Tryd.func20, Tryd.ntmps20
    go_wp2_with fail
    refine HC.out.mono ?_
    rintro e w1 ⟨rfl, rfl⟩
    go_wp2_with fail
    go_ret
    exact ⟨by rw [HQ.out]; rfl, rfl⟩
  | true =>
  rw [hc] at HC
  obtain ⟨hn, hm, -⟩ := circB_iff.1 hc
  by_cases h8 : 8 < n
  · have HQ : Hid (codW n m u x = 2) := Lib.hid (codW_no (okW_off fun h => by omega))
    have h8' : decide (8 < n) = true := by simp [h8]
    clear hc
    go_enter Tryd.func20, Tryd.ntmps20
    go_wp2_with fail
    refine HC.out.mono ?_
    rintro e w1 ⟨rfl, rfl⟩
    go_wp2_with fail
    go_ret
    exact ⟨by rw [HQ.out]; rfl, rfl⟩
  have h8' : decide (8 < n) = false := by simp; omega
  by_cases h12 : 12 < m
  · have HQ : Hid (codW n m u x = 2) := Lib.hid (codW_no (okW_off fun h => by omega))
    have h12' : decide (12 < m) = true := by simp [h12]
    clear hc
    go_enter Tryd.func20, Tryd.ntmps20
    go_wp2_with fail
    refine HC.out.mono ?_
    rintro e w1 ⟨rfl, rfl⟩
    go_wp2_with fail
    go_ret
    exact ⟨by rw [HQ.out]; rfl, rfl⟩
  have h12' : decide (12 < m) = false := by simp; omega
  have HI := Lib.hid (l01In_ex x 0 (m - 1) w)
  cases hx : inB x 0 (m - 1) with
  | false =>
    have HQ : Hid (codW n m u x = 2) := Lib.hid (codW_no (okW_off fun h => by have := inB_false hx; omega))
    rw [hx] at HI
    clear hc hx
    go_enter Tryd.func20, Tryd.ntmps20
    go_wp2_with fail
    refine HC.out.mono ?_
    rintro e w1 ⟨rfl, rfl⟩
    go_wp2_with fail
    refine HI.out.mono ?_
    rintro e w2 ⟨rfl, rfl⟩
    go_wp2_with fail
    go_ret
    exact ⟨by rw [HQ.out]; rfl, rfl⟩
  | true =>
    have HQ : Hid (codW n m u x = 0) := Lib.hid (codW_yes (okW_iff.2 ⟨hc, by omega, by omega, inB_true hx⟩))
    rw [hx] at HI
    clear hc hx
    go_enter Tryd.func20, Tryd.ntmps20
    go_wp2_with fail
    refine HC.out.mono ?_
    rintro e w1 ⟨rfl, rfl⟩
    go_wp2_with fail
    refine HI.out.mono ?_
    rintro e w2 ⟨rfl, rfl⟩
    go_wp2_with fail
    go_ret
    exact ⟨by rw [HQ.out]; rfl, rfl⟩

set_option maxRecDepth 100000 in
set_option maxHeartbeats 4000000 in
theorem circleWith_no (n m u x : Int) (w : World) (hc : okW n m u x = false) :
    Calls Tryd.prog 21 #[.int .i64 n, .int .i64 m, .int .i64 u, .int .i64 x] w fun e w' => e = .returned (.tuple #[.agg #[.int .i64 0, .int .i64 0, .int .i64 0], .int .i64 2]) ∧ Ex w w' := by
  have e0 : Ex w (w.alloc (.cells #[.int .i64 0, .int .i64 0, .int .i64 0] 44)) := (Ex.refl w).alloc _
  have b0 : Has (w.alloc (.cells #[.int .i64 0, .int .i64 0, .int .i64 0] 44)) (w.heap.size) 44 #[.int .i64 0, .int .i64 0, .int .i64 0] := (Has.newAt (w := w) (e := 44) (cs := #[.int .i64 0, .int .i64 0, .int .i64 0]) (k := w.heap.size) (by simp))
  have HB0 := Lib.hid b0
  have HE := Lib.hid e0
  clear b0 e0
  cases hcc : circB n m u with
  | false =>
    have HC := Lib.hid (fun W => circleOf_no n m u W hcc)
    clear hc hcc
    go_enter Tryd.func21, Tryd.ntmps21
    go_wp2_with fail
    generalize (w.alloc (.cells #[.int .i64 0, .int .i64 0, .int .i64 0] 44)) = W0 at *
    refine (HC.out W0).mono ?_
    rintro e w1 ⟨rfl, he1⟩
    have he2 := he1.alloc (.cells #[.int .i64 0, .int .i64 0, .int .i64 0] 44)
    have hb1 := HB0.out.ex he2
    have HB1 := Lib.hid hb1
    have d0 := hb1.cell 0
    have d1 := hb1.cell 1
    have d2 := hb1.cell 2
    have f0 := hb1.free 0
    have f1 := hb1.free 1
    have f2 := hb1.free 2
    have hl := hb1.lt
    clear hb1
    go_wp2_with fail
    have H4 := HB1.out.put3 (u := .int .i64 0) (v := .int .i64 0) (t := .int .i64 0)
    have g0 := H4.cell 0
    have g1 := H4.cell 1
    have g2 := H4.cell 2
    refine bodyPost_ret (v := .tuple #[.agg #[.int .i64 0, .int .i64 0, .int .i64 0], .int .i64 2]) (by simp [results, Tryd.results21, go_sem, g0, g1, g2]) rfl ⟨rfl, ?_⟩
    exact (((HE.out.trans he2).setCell (Nat.le_refl _) _).setCell (Nat.le_refl _) _).setCell (Nat.le_refl _) _
  | true =>
    have HC := Lib.hid (fun W => circleOf_yes n m u W hcc)
    obtain ⟨hn, hm, -⟩ := circB_iff.1 hcc
    by_cases h8 : 8 < n
    · have h8' : decide (8 < n) = true := by simp [h8]
      clear hc hcc
      go_enter Tryd.func21, Tryd.ntmps21
      go_wp2_with fail
      generalize (w.alloc (.cells #[.int .i64 0, .int .i64 0, .int .i64 0] 44)) = W0 at *
      refine (HC.out W0).mono ?_
      rintro e w1 ⟨rfl, he1⟩
      have he2 := he1.alloc (.cells #[.int .i64 n, .int .i64 m, .int .i64 u] 44)
      have hb1 := HB0.out.ex he2
      have HB1 := Lib.hid hb1
      have d0 := hb1.cell 0
      have d1 := hb1.cell 1
      have d2 := hb1.cell 2
      have f0 := hb1.free 0
      have f1 := hb1.free 1
      have f2 := hb1.free 2
      have hl := hb1.lt
      clear hb1
      go_wp2_with fail
      have H4 := HB1.out.put3 (u := .int .i64 0) (v := .int .i64 0) (t := .int .i64 0)
      have g0 := H4.cell 0
      have g1 := H4.cell 1
      have g2 := H4.cell 2
      refine bodyPost_ret (v := .tuple #[.agg #[.int .i64 0, .int .i64 0, .int .i64 0], .int .i64 2]) (by simp [results, Tryd.results21, go_sem, g0, g1, g2]) rfl ⟨rfl, ?_⟩
      exact (((HE.out.trans he2).setCell (Nat.le_refl _) _).setCell (Nat.le_refl _) _).setCell (Nat.le_refl _) _
    · have h8' : decide (8 < n) = false := by simp; omega
      have hmo := fun W => isModulus_any m W
      have h2' : decide (2 ≤ m) = true := by simp; omega
      rw [h2', Bool.true_and] at hmo
      by_cases h12 : m ≤ 12
      · have h12' : decide (m ≤ 12) = true := by simp [h12]
        rw [h12'] at hmo
        have HMO := Lib.hid hmo
        by_cases hx : x < 0
        · have hx' : decide (x < 0) = true := by simp [hx]
          clear hc hcc hmo
          go_enter Tryd.func21, Tryd.ntmps21
          go_wp2_with fail
          generalize (w.alloc (.cells #[.int .i64 0, .int .i64 0, .int .i64 0] 44)) = W0 at *
          refine (HC.out W0).mono ?_
          rintro e w1 ⟨rfl, he1⟩
          have he2 := he1.alloc (.cells #[.int .i64 n, .int .i64 m, .int .i64 u] 44)
          have hb1 := HB0.out.ex he2
          have HB1 := Lib.hid hb1
          have d0 := hb1.cell 0
          have d1 := hb1.cell 1
          have d2 := hb1.cell 2
          have f0 := hb1.free 0
          have f1 := hb1.free 1
          have f2 := hb1.free 2
          have hl := hb1.lt
          clear hb1
          go_wp2_with fail
          refine (HMO.out _).mono ?_
          rintro e w2 ⟨rfl, rfl⟩
          go_wp2_with fail
          have H4 := HB1.out.put3 (u := .int .i64 0) (v := .int .i64 0) (t := .int .i64 0)
          have g0 := H4.cell 0
          have g1 := H4.cell 1
          have g2 := H4.cell 2
          refine bodyPost_ret (v := .tuple #[.agg #[.int .i64 0, .int .i64 0, .int .i64 0], .int .i64 2]) (by simp [results, Tryd.results21, go_sem, g0, g1, g2]) rfl ⟨rfl, ?_⟩
          exact (((HE.out.trans he2).setCell (Nat.le_refl _) _).setCell (Nat.le_refl _) _).setCell (Nat.le_refl _) _
        · have hx' : decide (x < 0) = false := by simp; omega
          have hx2 : decide (m ≤ x) = true := by
            have hh : ¬ (x ≤ m - 1) := fun h => by
              rw [okW_iff.2 ⟨hcc, by omega, by omega, by omega, h⟩] at hc
              cases hc
            simp; omega
          clear hc hcc hmo
          go_enter Tryd.func21, Tryd.ntmps21
          go_wp2_with fail
          generalize (w.alloc (.cells #[.int .i64 0, .int .i64 0, .int .i64 0] 44)) = W0 at *
          refine (HC.out W0).mono ?_
          rintro e w1 ⟨rfl, he1⟩
          have he2 := he1.alloc (.cells #[.int .i64 n, .int .i64 m, .int .i64 u] 44)
          have hb1 := HB0.out.ex he2
          have HB1 := Lib.hid hb1
          have d0 := hb1.cell 0
          have d1 := hb1.cell 1
          have d2 := hb1.cell 2
          have f0 := hb1.free 0
          have f1 := hb1.free 1
          have f2 := hb1.free 2
          have hl := hb1.lt
          clear hb1
          go_wp2_with fail
          refine (HMO.out _).mono ?_
          rintro e w2 ⟨rfl, rfl⟩
          go_wp2_with fail
          have H4 := HB1.out.put3 (u := .int .i64 0) (v := .int .i64 0) (t := .int .i64 0)
          have g0 := H4.cell 0
          have g1 := H4.cell 1
          have g2 := H4.cell 2
          refine bodyPost_ret (v := .tuple #[.agg #[.int .i64 0, .int .i64 0, .int .i64 0], .int .i64 2]) (by simp [results, Tryd.results21, go_sem, g0, g1, g2]) rfl ⟨rfl, ?_⟩
          exact (((HE.out.trans he2).setCell (Nat.le_refl _) _).setCell (Nat.le_refl _) _).setCell (Nat.le_refl _) _
      · have h12' : decide (m ≤ 12) = false := by simp; omega
        rw [h12'] at hmo
        have HMO := Lib.hid hmo
        clear hc hcc hmo
        go_enter Tryd.func21, Tryd.ntmps21
        go_wp2_with fail
        generalize (w.alloc (.cells #[.int .i64 0, .int .i64 0, .int .i64 0] 44)) = W0 at *
        refine (HC.out W0).mono ?_
        rintro e w1 ⟨rfl, he1⟩
        have he2 := he1.alloc (.cells #[.int .i64 n, .int .i64 m, .int .i64 u] 44)
        have hb1 := HB0.out.ex he2
        have HB1 := Lib.hid hb1
        have d0 := hb1.cell 0
        have d1 := hb1.cell 1
        have d2 := hb1.cell 2
        have f0 := hb1.free 0
        have f1 := hb1.free 1
        have f2 := hb1.free 2
        have hl := hb1.lt
        clear hb1
        go_wp2_with fail
        refine (HMO.out _).mono ?_
        rintro e w2 ⟨rfl, rfl⟩
        go_wp2_with fail
        have H4 := HB1.out.put3 (u := .int .i64 0) (v := .int .i64 0) (t := .int .i64 0)
        have g0 := H4.cell 0
        have g1 := H4.cell 1
        have g2 := H4.cell 2
        refine bodyPost_ret (v := .tuple #[.agg #[.int .i64 0, .int .i64 0, .int .i64 0], .int .i64 2]) (by simp [results, Tryd.results21, go_sem, g0, g1, g2]) rfl ⟨rfl, ?_⟩
        exact (((HE.out.trans he2).setCell (Nat.le_refl _) _).setCell (Nat.le_refl _) _).setCell (Nat.le_refl _) _

set_option maxRecDepth 100000 in
set_option maxHeartbeats 4000000 in
theorem circleWith_yes (n m u x : Int) (w : World) (hc : okW n m u x = true) :
    Calls Tryd.prog 21 #[.int .i64 n, .int .i64 m, .int .i64 u, .int .i64 x] w fun e w' => e = .returned (.tuple #[.agg #[.int .i64 n, .int .i64 m, .int .i64 u], .int .i64 0]) ∧ Ex w w' := by
  have e0 : Ex w (w.alloc (.cells #[.int .i64 0, .int .i64 0, .int .i64 0] 44)) := (Ex.refl w).alloc _
  have b0 : Has (w.alloc (.cells #[.int .i64 0, .int .i64 0, .int .i64 0] 44)) (w.heap.size) 44 #[.int .i64 0, .int .i64 0, .int .i64 0] := (Has.newAt (w := w) (e := 44) (cs := #[.int .i64 0, .int .i64 0, .int .i64 0]) (k := w.heap.size) (by simp))
  have HB0 := Lib.hid b0
  have HE := Lib.hid e0
  clear b0 e0
  obtain ⟨hcc, h8, h12, hx0, hx1⟩ := okW_iff.1 hc
  have HC := Lib.hid (fun W => circleOf_yes n m u W hcc)
  obtain ⟨hn, hm, -⟩ := circB_iff.1 hcc
  have h8' : decide (8 < n) = false := by simp; omega
  have hmo := fun W => isModulus_any m W
  have h2' : decide (2 ≤ m) = true := by simp; omega
  have h12' : decide (m ≤ 12) = true := by simp [h12]
  rw [h2', h12', Bool.true_and] at hmo
  have HMO := Lib.hid hmo
  have hx' : decide (x < 0) = false := by simp; omega
  have hx2 : decide (m ≤ x) = false := by simp; omega
  clear hc hcc hmo
  go_enter Tryd.func21, Tryd.ntmps21
  go_wp2_with fail
  generalize (w.alloc (.cells #[.int .i64 0, .int .i64 0, .int .i64 0] 44)) = W0 at *
  refine (HC.out W0).mono ?_
  rintro e w1 ⟨rfl, he1⟩
  have he2 := he1.alloc (.cells #[.int .i64 n, .int .i64 m, .int .i64 u] 44)
  have hn := Has.new w1 44 #[.int .i64 n, .int .i64 m, .int .i64 u]
  have k0 := hn.cell 0
  have k1 := hn.cell 1
  have k2 := hn.cell 2
  have hb1 := HB0.out.ex he2
  have HB1 := Lib.hid hb1
  have d0 := hb1.cell 0
  have d1 := hb1.cell 1
  have d2 := hb1.cell 2
  have f0 := hb1.free 0
  have f1 := hb1.free 1
  have f2 := hb1.free 2
  have hl := hb1.lt
  clear hb1 hn
  go_wp2_with fail
  refine (HMO.out _).mono ?_
  rintro e w2 ⟨rfl, rfl⟩
  go_wp2_with fail
  have H4 := HB1.out.put3 (u := .int .i64 n) (v := .int .i64 m) (t := .int .i64 u)
  have g0 := H4.cell 0
  have g1 := H4.cell 1
  have g2 := H4.cell 2
  refine bodyPost_ret (v := .tuple #[.agg #[.int .i64 n, .int .i64 m, .int .i64 u], .int .i64 0]) (by simp [results, Tryd.results21, go_sem, g0, g1, g2]) rfl ⟨rfl, ?_⟩
  exact (((HE.out.trans he2).setCell (Nat.le_refl _) _).setCell (Nat.le_refl _) _).setCell (Nat.le_refl _) _

end Go.Proofs.YtfnjpbjlikajbaaDoor
