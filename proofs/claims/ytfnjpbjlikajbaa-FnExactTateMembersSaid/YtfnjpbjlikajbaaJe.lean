/- Circles of three numbers, and their Tate groups, by the program. -/
import Derived.Test.YtfnjpbjlikajbaaJd
namespace Go.Proofs.Ytfnjpbjlikajbaa
open Go.RowKit

set_option maxRecDepth 100000 in
set_option maxHeartbeats 2000000 in
theorem circleOf_no (n m u : Int) (w : World) (hc : circB n m u = false) :
    Calls Try.prog 35 #[.int .i64 n, .int .i64 m, .int .i64 u] w fun e w' => e = .returned (.tuple #[.agg #[.int .i64 0, .int .i64 0, .int .i64 0], .int .i64 2]) ∧ Ex w w' := by
  have e0 : Ex w ((w.alloc (.cells #[.int .i64 0, .int .i64 0, .int .i64 0] 44)).alloc (.cells #[.int .i64 n, .int .i64 m, .int .i64 u] 44)) := ((Ex.refl w).alloc _).alloc _
  have b0 : Has ((w.alloc (.cells #[.int .i64 0, .int .i64 0, .int .i64 0] 44)).alloc (.cells #[.int .i64 n, .int .i64 m, .int .i64 u] 44)) (w.heap.size) 44 #[.int .i64 0, .int .i64 0, .int .i64 0] := ((Has.newAt (w := w) (e := 44) (cs := #[.int .i64 0, .int .i64 0, .int .i64 0]) (k := w.heap.size) (by simp)).alloc _)
  have b1 : Has ((w.alloc (.cells #[.int .i64 0, .int .i64 0, .int .i64 0] 44)).alloc (.cells #[.int .i64 n, .int .i64 m, .int .i64 u] 44)) (w.heap.size + 1) 44 #[.int .i64 n, .int .i64 m, .int .i64 u] := (Has.newAt (w := (w.alloc (.cells #[.int .i64 0, .int .i64 0, .int .i64 0] 44))) (e := 44) (cs := #[.int .i64 n, .int .i64 m, .int .i64 u]) (k := w.heap.size + 1) (by simp))
  have HB0 := Lib.hid b0
  have HE := Lib.hid e0
  have c0 := b1.cell 0
  have c1 := b1.cell 1
  have c2 := b1.cell 2
  have HCON := Lib.hid (fun W => isCircle_any n m u W)
  rw [hc] at HCON
  clear b0 b1 e0 hc
  go_enter Try.func35, Try.ntmps35
  go_wp2_with fail
  generalize ((w.alloc (.cells #[.int .i64 0, .int .i64 0, .int .i64 0] 44)).alloc (.cells #[.int .i64 n, .int .i64 m, .int .i64 u] 44)) = W0 at *
  refine (HCON.out W0).mono ?_
  rintro e w1 ⟨rfl, he1⟩
  have hb1 := HB0.out.ex he1
  have HB1 := Lib.hid hb1
  have d0 := hb1.cell 0
  have d1 := hb1.cell 1
  have d2 := hb1.cell 2
  have f0 := hb1.free 0
  have f1 := hb1.free 1
  have f2 := hb1.free 2
  have hl := hb1.lt
  clear hb1
  go_wp2_with fail
  have H4 := HB1.out.put3 (u := .int .i64 0) (v := .int .i64 0) (t := .int .i64 0)
  have g0 := H4.cell 0
  have g1 := H4.cell 1
  have g2 := H4.cell 2
  refine bodyPost_ret (v := .tuple #[.agg #[.int .i64 0, .int .i64 0, .int .i64 0], .int .i64 2]) (by simp [results, Try.results35, go_sem, g0, g1, g2]) rfl ⟨rfl, ?_⟩
  exact (((HE.out.trans he1).setCell (Nat.le_refl _) _).setCell (Nat.le_refl _) _).setCell (Nat.le_refl _) _

set_option maxRecDepth 100000 in
set_option maxHeartbeats 2000000 in
theorem circleOf_yes (n m u : Int) (w : World) (hc : circB n m u = true) :
    Calls Try.prog 35 #[.int .i64 n, .int .i64 m, .int .i64 u] w fun e w' => e = .returned (.tuple #[.agg #[.int .i64 n, .int .i64 m, .int .i64 u], .int .i64 0]) ∧ Ex w w' := by
  have e0 : Ex w ((w.alloc (.cells #[.int .i64 0, .int .i64 0, .int .i64 0] 44)).alloc (.cells #[.int .i64 n, .int .i64 m, .int .i64 u] 44)) := ((Ex.refl w).alloc _).alloc _
  have b0 : Has ((w.alloc (.cells #[.int .i64 0, .int .i64 0, .int .i64 0] 44)).alloc (.cells #[.int .i64 n, .int .i64 m, .int .i64 u] 44)) (w.heap.size) 44 #[.int .i64 0, .int .i64 0, .int .i64 0] := ((Has.newAt (w := w) (e := 44) (cs := #[.int .i64 0, .int .i64 0, .int .i64 0]) (k := w.heap.size) (by simp)).alloc _)
  have b1 : Has ((w.alloc (.cells #[.int .i64 0, .int .i64 0, .int .i64 0] 44)).alloc (.cells #[.int .i64 n, .int .i64 m, .int .i64 u] 44)) (w.heap.size + 1) 44 #[.int .i64 n, .int .i64 m, .int .i64 u] := (Has.newAt (w := (w.alloc (.cells #[.int .i64 0, .int .i64 0, .int .i64 0] 44))) (e := 44) (cs := #[.int .i64 n, .int .i64 m, .int .i64 u]) (k := w.heap.size + 1) (by simp))
  have HB0 := Lib.hid b0
  have HBC := Lib.hid b1
  have HE := Lib.hid e0
  have c0 := b1.cell 0
  have c1 := b1.cell 1
  have c2 := b1.cell 2
  have HCON := Lib.hid (fun W => isCircle_any n m u W)
  rw [hc] at HCON
  clear b0 b1 e0 hc
  go_enter Try.func35, Try.ntmps35
  go_wp2_with fail
  generalize ((w.alloc (.cells #[.int .i64 0, .int .i64 0, .int .i64 0] 44)).alloc (.cells #[.int .i64 n, .int .i64 m, .int .i64 u] 44)) = W0 at *
  refine (HCON.out W0).mono ?_
  rintro e w1 ⟨rfl, he1⟩
  have hb1 := HB0.out.ex he1
  have HB1 := Lib.hid hb1
  have d0 := hb1.cell 0
  have d1 := hb1.cell 1
  have d2 := hb1.cell 2
  have f0 := hb1.free 0
  have f1 := hb1.free 1
  have f2 := hb1.free 2
  have hl := hb1.lt
  have k0 := (HBC.out.ex he1).cell 0
  have k1 := (HBC.out.ex he1).cell 1
  have k2 := (HBC.out.ex he1).cell 2
  clear hb1 c0 c1 c2
  go_wp2_with fail
  have H4 := HB1.out.put3 (u := .int .i64 n) (v := .int .i64 m) (t := .int .i64 u)
  have g0 := H4.cell 0
  have g1 := H4.cell 1
  have g2 := H4.cell 2
  refine bodyPost_ret (v := .tuple #[.agg #[.int .i64 n, .int .i64 m, .int .i64 u], .int .i64 0]) (by simp [results, Try.results35, go_sem, g0, g1, g2]) rfl ⟨rfl, ?_⟩
  exact (((HE.out.trans he1).setCell (Nat.le_refl _) _).setCell (Nat.le_refl _) _).setCell (Nat.le_refl _) _

set_option maxHeartbeats 1000000 in
theorem order_any (m : Int) (A B : Nat) (w : World) (hA : 0 < A) (hB : B ≤ 200) :
    Calls Try.prog 40 #[.agg #[.int .i64 m, .int .i64 (A : Int), .int .i64 (B : Int)]] w fun e w' => e = .returned (.int .i64 ((B / A : Nat) : Int)) ∧ Ex w w' := by
  have e0 : Ex w (w.alloc (.cells #[.int .i64 m, .int .i64 (A : Int), .int .i64 (B : Int)] 51)) := (Ex.refl w).alloc _
  have b0 : Has (w.alloc (.cells #[.int .i64 m, .int .i64 (A : Int), .int .i64 (B : Int)] 51)) (w.heap.size) 51 #[.int .i64 m, .int .i64 (A : Int), .int .i64 (B : Int)] := (Has.newAt (w := w) (e := 51) (cs := #[.int .i64 m, .int .i64 (A : Int), .int .i64 (B : Int)]) (k := w.heap.size) (by simp))
  have c1 := b0.cell 1
  have c2 := b0.cell 2
  have HE := Lib.hid e0
  have hne : ¬ A = 0 := by omega
  have hql : B / A ≤ 200 := Nat.le_trans (Nat.div_le_self _ _) hB
  have hqe : (B : Int) / (A : Int) = ((B / A : Nat) : Int) := by simp
  obtain ⟨q, hq⟩ : ∃ q, B / A = q := ⟨_, rfl⟩
  rw [hq] at hqe hql
  rw [hq]
  have hwq : IntKind.i64.wrap ((B : Int) / (A : Int)) = (q : Int) := by rw [hqe]; exact IntWalk.i64_in _ (by omega)
  clear b0 e0 hq hqe hB hA
  go_enter Try.func40, Try.ntmps40
  go_wp2_with fail
  go_ret
  exact ⟨rfl, HE.out⟩

end Go.Proofs.Ytfnjpbjlikajbaa
