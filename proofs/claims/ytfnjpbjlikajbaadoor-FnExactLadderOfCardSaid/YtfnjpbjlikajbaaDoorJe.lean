/- Circles of three numbers, and their Tate groups, by the program. -/
import Derived.Test.YtfnjpbjlikajbaaDoorJd
namespace Go.Proofs.YtfnjpbjlikajbaaDoor
open Go.RowKit

set_option maxRecDepth 100000 in
set_option maxHeartbeats 2000000 in
theorem circleOf_no (n m u : Int) (w : World) (hc : circB n m u = false) :
    Calls Tryd.prog 48 #[.int .i64 n, .int .i64 m, .int .i64 u] w fun e w' => e = .returned (.tuple #[.agg #[.int .i64 0, .int .i64 0, .int .i64 0], .int .i64 2]) ∧ Ex w w' := by
  have e0 : Ex w ((w.alloc (.cells #[.int .i64 0, .int .i64 0, .int .i64 0] 44)).alloc (.cells #[.int .i64 n, .int .i64 m, .int .i64 u] 44)) := ((Ex.refl w).alloc _).alloc _
  have b0 : Has ((w.alloc (.cells #[.int .i64 0, .int .i64 0, .int .i64 0] 44)).alloc (.cells #[.int .i64 n, .int .i64 m, .int .i64 u] 44)) (w.heap.size) 44 #[.int .i64 0, .int .i64 0, .int .i64 0] := ((Has.newAt (w := w) (e := 44) (cs := #[.int .i64 0, .int .i64 0, .int .i64 0]) (k := w.heap.size) (by simp)).alloc _)
  have b1 : Has ((w.alloc (.cells #[.int .i64 0, .int .i64 0, .int .i64 0] 44)).alloc (.cells #[.int .i64 n, .int .i64 m, .int .i64 u] 44)) (w.heap.size + 1) 44 #[.int .i64 n, .int .i64 m, .int .i64 u] := (Has.newAt (w := (w.alloc (.cells #[.int .i64 0, .int .i64 0, .int .i64 0] 44))) (e := 44) (cs := #[.int .i64 n, .int .i64 m, .int .i64 u]) (k := w.heap.size + 1) (by simp))
  have HB0 := Lib.hid b0
  have HE := Lib.hid e0
  have c0 := b1.cell 0
  have c1 := b1.cell 1
  have c2 := b1.cell 2
  have HCON := Lib.hid (fun W => isCircle_any n m u W)
  rw [hc] at HCON
  clear b0 b1 e0 hc
  go_enter Tryd.func48, Tryd.ntmps48
  go_wp2_with fail
  generalize ((w.alloc (.cells #[.int .i64 0, .int .i64 0, .int .i64 0] 44)).alloc (.cells #[.int .i64 n, .int .i64 m, .int .i64 u] 44)) = W0 at *
  refine (HCON.out W0).mono ?_
  rintro e w1 ⟨rfl, he1⟩
  have hb1 := HB0.out.ex he1
  have HB1 := Lib.hid hb1
  have d0 := hb1.cell 0
  have d1 := hb1.cell 1
  have d2 := hb1.cell 2
  have f0 := hb1.free 0
  have f1 := hb1.free 1
  have f2 := hb1.free 2
  have hl := hb1.lt
  clear hb1
  go_wp2_with fail
  have H4 := HB1.out.put3 (u := .int .i64 0) (v := .int .i64 0) (t := .int .i64 0)
  have g0 := H4.cell 0
  have g1 := H4.cell 1
  have g2 := H4.cell 2
  refine bodyPost_ret (v := .tuple #[.agg #[.int .i64 0, .int .i64 0, .int .i64 0], .int .i64 2]) (by simp [results, Tryd.results48, go_sem, g0, g1, g2]) rfl ⟨rfl, ?_⟩
  exact (((HE.out.trans he1).setCell (Nat.le_refl _) _).setCell (Nat.le_refl _) _).setCell (Nat.le_refl _) _

set_option maxRecDepth 100000 in
set_option maxHeartbeats 2000000 in
theorem circleOf_yes (n m u : Int) (w : World) (hc : circB n m u = true) :
    Calls Tryd.prog 48 #[.int .i64 n, .int .i64 m, .int .i64 u] w fun e w' => e = .returned (.tuple #[.agg #[.int .i64 n, .int .i64 m, .int .i64 u], .int .i64 0]) ∧ Ex w w' := by
  have e0 : Ex w ((w.alloc (.cells #[.int .i64 0, .int .i64 0, .int .i64 0] 44)).alloc (.cells #[.int .i64 n, .int .i64 m, .int .i64 u] 44)) := ((Ex.refl w).alloc _).alloc _
  have b0 : Has ((w.alloc (.cells #[.int .i64 0, .int .i64 0, .int .i64 0] 44)).alloc (.cells #[.int .i64 n, .int .i64 m, .int .i64 u] 44)) (w.heap.size) 44 #[.int .i64 0, .int .i64 0, .int .i64 0] := ((Has.newAt (w := w) (e := 44) (cs := #[.int .i64 0, .int .i64 0, .int .i64 0]) (k := w.heap.size) (by simp)).alloc _)
  have b1 : Has ((w.alloc (.cells #[.int .i64 0, .int .i64 0, .int .i64 0] 44)).alloc (.cells #[.int .i64 n, .int .i64 m, .int .i64 u] 44)) (w.heap.size + 1) 44 #[.int .i64 n, .int .i64 m, .int .i64 u] := (Has.newAt (w := (w.alloc (.cells #[.int .i64 0, .int .i64 0, .int .i64 0] 44))) (e := 44) (cs := #[.int .i64 n, .int .i64 m, .int .i64 u]) (k := w.heap.size + 1) (by simp))
  have HB0 := Lib.hid b0
  have HBC := Lib.hid b1
  have HE := Lib.hid e0
  have c0 := b1.cell 0
  have c1 := b1.cell 1
  have c2 := b1.cell 2
  have HCON := Lib.hid (fun W => isCircle_any n m u W)
  rw [hc] at HCON
  clear b0 b1 e0 hc
  go_enter Tryd.func48, Tryd.ntmps48
  go_wp2_with fail
  generalize ((w.alloc (.cells #[.int .i64 0, .int .i64 0, .int .i64 0] 44)).alloc (.cells #[.int .i64 n, .int .i64 m, .int .i64 u] 44)) = W0 at *
  refine (HCON.out W0).mono ?_
  rintro e w1 ⟨rfl, he1⟩
  have hb1 := HB0.out.ex he1
  have HB1 := Lib.hid hb1
  have d0 := hb1.cell 0
  have d1 := hb1.cell 1
  have d2 := hb1.cell 2
  have f0 := hb1.free 0
  have f1 := hb1.free 1
  have f2 := hb1.free 2
  have hl := hb1.lt
  have k0 := (HBC.out.ex he1).cell 0
  have k1 := (HBC.out.ex he1).cell 1
  have k2 := (HBC.out.ex he1).cell 2
  clear hb1 c0 c1 c2
  go_wp2_with fail
  have H4 := HB1.out.put3 (u := .int .i64 n) (v := .int .i64 m) (t := .int .i64 u)
  have g0 := H4.cell 0
  have g1 := H4.cell 1
  have g2 := H4.cell 2
  refine bodyPost_ret (v := .tuple #[.agg #[.int .i64 n, .int .i64 m, .int .i64 u], .int .i64 0]) (by simp [results, Tryd.results48, go_sem, g0, g1, g2]) rfl ⟨rfl, ?_⟩
  exact (((HE.out.trans he1).setCell (Nat.le_refl _) _).setCell (Nat.le_refl _) _).setCell (Nat.le_refl _) _

end Go.Proofs.YtfnjpbjlikajbaaDoor
