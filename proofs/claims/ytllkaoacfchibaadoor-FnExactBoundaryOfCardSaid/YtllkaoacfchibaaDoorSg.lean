/- BoundaryOf: the specification's contract. -/
import Derived.Test.YtllkaoacfchibaaDoorBu
import Derived.Test.YtllkaoacfchibaaDoorSf
namespace Go.Proofs.YtllkaoacfchibaaDoor
open Go.RowKit

set_option maxRecDepth 100000 in
set_option maxHeartbeats 4000000 in
theorem specBoundaryOf_ex (t0 : List (List Int)) (m1 : Int) (t1 : List Int) (m2 : Int) (t2 : List Int) : ∀ (B0 : Option Addr) (d0 : Nat) (B1 : Option Addr) (d1 : Nat) (B2 : Option Addr) (d2 : Nat) (W : World), RwsW W B0 t0 → IntsW W B1 t1 → IntsW W B2 t2 → SmallT t0 → t1.length ≤ 1048576 → t2.length ≤ 1048576 →
    Calls Tryd.prog 38 #[.agg #[.slice B0 t0.length d0], .agg #[.int .i64 m1, .slice B1 t1.length d1], .agg #[.int .i64 m2, .slice B2 t2.length d2]] W fun e W' => ∃ (C0 : Option Addr) (e0 : Nat), e = .returned (.tuple #[.agg #[.int .i64 (qBoundaryOf0 t0 m1 t1 m2 t2), .slice C0 (yBoundaryOf0 t0 m1 t1 m2 t2).length e0], .int .i64 (qBoundaryOf1 t0 m1 t1 m2 t2)]) ∧ Ex W W' ∧ OwnL W' W.heap.size W'.heap.size C0 (yBoundaryOf0 t0 m1 t1 m2 t2) := by
  intro B0 d0 B1 d1 B2 d2 w hR hX hF hs hu hf
  have e0 : Ex w (((((w.alloc (.cells #[.slice B0 t0.length d0] 33)).alloc (.cells #[.int .i64 m1, .slice B1 t1.length d1] 30)).alloc (.cells #[.int .i64 m2, .slice B2 t2.length d2] 44)).alloc (.cells #[.int .i64 0, .slice none 0 0] 44)).alloc (.cells #[.int .i64 m2, .slice B2 t2.length d2] 44)) := (((((Ex.refl w).alloc _).alloc _).alloc _).alloc _).alloc _
  have b0 : Has (((((w.alloc (.cells #[.slice B0 t0.length d0] 33)).alloc (.cells #[.int .i64 m1, .slice B1 t1.length d1] 30)).alloc (.cells #[.int .i64 m2, .slice B2 t2.length d2] 44)).alloc (.cells #[.int .i64 0, .slice none 0 0] 44)).alloc (.cells #[.int .i64 m2, .slice B2 t2.length d2] 44)) (w.heap.size) 33 #[.slice B0 t0.length d0] := (((((Has.newAt (w := w) (e := 33) (cs := #[.slice B0 t0.length d0]) (k := w.heap.size) (by simp)).alloc _).alloc _).alloc _).alloc _)
  have b1 : Has (((((w.alloc (.cells #[.slice B0 t0.length d0] 33)).alloc (.cells #[.int .i64 m1, .slice B1 t1.length d1] 30)).alloc (.cells #[.int .i64 m2, .slice B2 t2.length d2] 44)).alloc (.cells #[.int .i64 0, .slice none 0 0] 44)).alloc (.cells #[.int .i64 m2, .slice B2 t2.length d2] 44)) (w.heap.size + 1) 30 #[.int .i64 m1, .slice B1 t1.length d1] := ((((Has.newAt (w := (w.alloc (.cells #[.slice B0 t0.length d0] 33))) (e := 30) (cs := #[.int .i64 m1, .slice B1 t1.length d1]) (k := w.heap.size + 1) (by simp)).alloc _).alloc _).alloc _)
  have b2 : Has (((((w.alloc (.cells #[.slice B0 t0.length d0] 33)).alloc (.cells #[.int .i64 m1, .slice B1 t1.length d1] 30)).alloc (.cells #[.int .i64 m2, .slice B2 t2.length d2] 44)).alloc (.cells #[.int .i64 0, .slice none 0 0] 44)).alloc (.cells #[.int .i64 m2, .slice B2 t2.length d2] 44)) (w.heap.size + 1 + 1) 44 #[.int .i64 m2, .slice B2 t2.length d2] := (((Has.newAt (w := ((w.alloc (.cells #[.slice B0 t0.length d0] 33)).alloc (.cells #[.int .i64 m1, .slice B1 t1.length d1] 30))) (e := 44) (cs := #[.int .i64 m2, .slice B2 t2.length d2]) (k := w.heap.size + 1 + 1) (by simp)).alloc _).alloc _)
  have b3 : Has (((((w.alloc (.cells #[.slice B0 t0.length d0] 33)).alloc (.cells #[.int .i64 m1, .slice B1 t1.length d1] 30)).alloc (.cells #[.int .i64 m2, .slice B2 t2.length d2] 44)).alloc (.cells #[.int .i64 0, .slice none 0 0] 44)).alloc (.cells #[.int .i64 m2, .slice B2 t2.length d2] 44)) (w.heap.size + 1 + 1 + 1) 44 #[.int .i64 0, .slice none 0 0] := ((Has.newAt (w := (((w.alloc (.cells #[.slice B0 t0.length d0] 33)).alloc (.cells #[.int .i64 m1, .slice B1 t1.length d1] 30)).alloc (.cells #[.int .i64 m2, .slice B2 t2.length d2] 44))) (e := 44) (cs := #[.int .i64 0, .slice none 0 0]) (k := w.heap.size + 1 + 1 + 1) (by simp)).alloc _)
  have b4 : Has (((((w.alloc (.cells #[.slice B0 t0.length d0] 33)).alloc (.cells #[.int .i64 m1, .slice B1 t1.length d1] 30)).alloc (.cells #[.int .i64 m2, .slice B2 t2.length d2] 44)).alloc (.cells #[.int .i64 0, .slice none 0 0] 44)).alloc (.cells #[.int .i64 m2, .slice B2 t2.length d2] 44)) (w.heap.size + 1 + 1 + 1 + 1) 44 #[.int .i64 m2, .slice B2 t2.length d2] := (Has.newAt (w := ((((w.alloc (.cells #[.slice B0 t0.length d0] 33)).alloc (.cells #[.int .i64 m1, .slice B1 t1.length d1] 30)).alloc (.cells #[.int .i64 m2, .slice B2 t2.length d2] 44)).alloc (.cells #[.int .i64 0, .slice none 0 0] 44))) (e := 44) (cs := #[.int .i64 m2, .slice B2 t2.length d2]) (k := w.heap.size + 1 + 1 + 1 + 1) (by simp))
  have HC := Lib.hid (l03Code1_ex B0 B1 B2 t0 m1 t1 m2 t2 d0 d1 d2 (w.heap.size + 1 + 1 + 1 + 1) _ (hR.ex e0) (hX.ex e0) (hF.ex e0) hs hu hf b4)
  cases hg : gmcB t0 m1 t1 m2 t2 with
  | false =>
    rw [hg] at HC
    have HQ := Lib.hid (bo_no hg)
    clear hg hR hX hF
    go_enter Tryd.func38, Tryd.ntmps38
    go_wp2_with fail
    generalize (((((w.alloc (.cells #[.slice B0 t0.length d0] 33)).alloc (.cells #[.int .i64 m1, .slice B1 t1.length d1] 30)).alloc (.cells #[.int .i64 m2, .slice B2 t2.length d2] 44)).alloc (.cells #[.int .i64 0, .slice none 0 0] 44)).alloc (.cells #[.int .i64 m2, .slice B2 t2.length d2] 44)) = W0 at *
    refine HC.out.mono ?_
    rintro e W1 ⟨rfl, he1⟩
    have HB3 := Lib.hid (b3.ex he1)
    have c2 := HB3.out.cell 0
    have c2' := HB3.out.cell 1
    have f2 := HB3.out.free 0
    have f2' := HB3.out.free 1
    clear b0 b1 b2 b3 b4
    go_wp2_with fail
    have H4 := HB3.out.put2 (u := .int .i64 0) (v := .slice none 0 0)
    have c4 := H4.cell 0
    have c4' := H4.cell 1
    refine bodyPost_ret (v := .tuple #[.agg #[.int .i64 0, .slice none 0 0], .int .i64 1]) (by simp [results, Tryd.results38, go_sem, c4, c4']) rfl ⟨none, 0, by rw [HQ.out.1, HQ.out.2.1, HQ.out.2.2]; rfl, ((e0.trans he1).setCell (by show w.heap.size ≤ w.heap.size + 1 + 1 + 1; omega) _).setCell (by show w.heap.size ≤ w.heap.size + 1 + 1 + 1; omega) _, by rw [HQ.out.2.1]; exact OwnL.nil _ _ _ (Nat.le_refl _)⟩
  | true =>
    rw [hg] at HC
    obtain ⟨M, k, rfl, rfl, hMF, hk3, hlen, h343, hfr⟩ := gmc_facts hg
    by_cases hk : k = 3
    · have hkk : ((k : Int) == 3) = true := by simp; omega
      have HQ := Lib.hid (bo_out hg (show degB (k : Int) = true by simp [degB]; omega))
      clear hg hR hX hF hMF hs hu hf hlen hfr hk
      go_enter Tryd.func38, Tryd.ntmps38
      go_wp2_with fail
      generalize (((((w.alloc (.cells #[.slice B0 t0.length d0] 33)).alloc (.cells #[.int .i64 (M : Int), .slice B1 t1.length d1] 30)).alloc (.cells #[.int .i64 (k : Int), .slice B2 t2.length d2] 44)).alloc (.cells #[.int .i64 0, .slice none 0 0] 44)).alloc (.cells #[.int .i64 (k : Int), .slice B2 t2.length d2] 44)) = W0 at *
      refine HC.out.mono ?_
      rintro e W1 ⟨rfl, he1⟩
      have HB3 := Lib.hid (b3.ex he1)
      have HE1 := Lib.hid (e0.trans he1)
      have c0 := (b2.ex he1).cell 0
      have c2 := HB3.out.cell 0
      have c2' := HB3.out.cell 1
      have f2 := HB3.out.free 0
      have f2' := HB3.out.free 1
      clear b0 b1 b2 b3 b4 e0 he1
      go_wp2_with fail
      have H4 := HB3.out.put2 (u := .int .i64 0) (v := .slice none 0 0)
      have c4 := H4.cell 0
      have c4' := H4.cell 1
      refine bodyPost_ret (v := .tuple #[.agg #[.int .i64 0, .slice none 0 0], .int .i64 2]) (by simp [results, Tryd.results38, go_sem, c4, c4']) rfl ⟨none, 0, by rw [HQ.out.1, HQ.out.2.1, HQ.out.2.2]; rfl, (HE1.out.setCell (by show w.heap.size ≤ w.heap.size + 1 + 1 + 1; omega) _).setCell (by show w.heap.size ≤ w.heap.size + 1 + 1 + 1; omega) _, by rw [HQ.out.2.1]; exact OwnL.nil _ _ _ (Nat.le_refl _)⟩
    · have hkk : ((k : Int) == 3) = false := by simp; omega
      have HQ := Lib.hid (bo_yes hg (show degB (k : Int) = false by simp [degB]; omega))
      have HMV := Lib.hid (fun W (he : Ex w W) => l03Boundary_any B0 B1 B2 t0 M k t1 t2 d0 d1 d2 W (hR.ex he) (hX.ex he) (hF.ex he) hMF hk3 hlen hfr)
      have HV : Hid (((List.range (cellsN t0.length (k + 1))).map fun j => bdV t0 M t1 t2 (lsL t0.length (k + 1) j)).length = cellsN t0.length (k + 1)) := Lib.hid (by simp)
      obtain ⟨ys, hys⟩ : ∃ ys, ((List.range (cellsN t0.length (k + 1))).map fun j => bdV t0 M t1 t2 (lsL t0.length (k + 1) j)) = ys := ⟨_, rfl⟩
      rw [hys] at HV HQ HMV
      obtain ⟨cn, hcn⟩ : ∃ cn, cellsN t0.length (k + 1) = cn := ⟨_, rfl⟩
      rw [hcn] at HV HMV
      clear hg hR hX hF hMF hs hu hf hlen hfr hk hys hcn
      go_enter Tryd.func38, Tryd.ntmps38
      go_wp2_with fail
      generalize (((((w.alloc (.cells #[.slice B0 t0.length d0] 33)).alloc (.cells #[.int .i64 (M : Int), .slice B1 t1.length d1] 30)).alloc (.cells #[.int .i64 (k : Int), .slice B2 t2.length d2] 44)).alloc (.cells #[.int .i64 0, .slice none 0 0] 44)).alloc (.cells #[.int .i64 (k : Int), .slice B2 t2.length d2] 44)) = W0 at *
      refine HC.out.mono ?_
      rintro e W1 ⟨rfl, he1⟩
      have HE1 := Lib.hid (e0.trans he1)
      have HB3 := Lib.hid (b3.ex he1)
      have d0' := (b0.ex he1).cell 0
      have d1' := (b1.ex he1).cell 0
      have d1'' := (b1.ex he1).cell 1
      have d2' := (b2.ex he1).cell 0
      have d2'' := (b2.ex he1).cell 1
      clear b0 b1 b2 b3 b4 e0 he1
      go_wp2_with fail
      refine (HMV.out W1 HE1.out).mono ?_
      rintro e W3 ⟨A3, n3, rfl, he3, ho3⟩
      have HB4 := Lib.hid (HB3.out.ex he3)
      have c2 := HB4.out.cell 0
      have c2' := HB4.out.cell 1
      have f2 := HB4.out.free 0
      have f2' := HB4.out.free 1
      have hzl := HB3.out.lt
      have HE3 := Lib.hid (HE1.out.trans he3)
      have HO3 := Lib.hid ho3
      clear he3 ho3 d0' d1' d1'' d2' d2''
      go_wp2_with fail
      have H4 := HB4.out.put2 (u := .int .i64 ((k : Int) + 1)) (v := .slice A3 cn n3)
      have c4 := H4.cell 0
      have c4' := H4.cell 1
      refine bodyPost_ret (v := .tuple #[.agg #[.int .i64 ((k : Int) + 1), .slice A3 cn n3], .int .i64 0]) (by simp [results, Tryd.results38, go_sem, c4, c4']) rfl ⟨A3, n3, by rw [HQ.out.1, HQ.out.2.1, HQ.out.2.2, HV.out], (HE3.out.setCell (by show w.heap.size ≤ w.heap.size + 1 + 1 + 1; omega) _).setCell (by show w.heap.size ≤ w.heap.size + 1 + 1 + 1; omega) _, ?_⟩
      rw [HQ.out.2.1]
      exact ((HO3.out.above (Only.set _ _ _ _) hzl).above (Only.set _ _ _ _) hzl).mono HE1.out.size (by simp) (Nat.le_refl _)

end Go.Proofs.YtllkaoacfchibaaDoor
