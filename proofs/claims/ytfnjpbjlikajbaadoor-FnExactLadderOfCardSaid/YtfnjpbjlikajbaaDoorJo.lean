/- The cyclic group, and cochains of a circle. -/
import Derived.Deep.DeepCutAuto
import Derived.Test.YtfnjpbjlikajbaaDoorJn
namespace Go.Proofs.YtfnjpbjlikajbaaDoor
open Go.RowKit

set_option maxRecDepth 100000 in
set_option maxHeartbeats 1000000 in
theorem cyclicPlan_any (N : Nat) (w : World) :
    Calls Tryd.prog 51 #[.int .i64 (N : Int)] w fun e w' => e = .returned (.agg #[.int .i64 (N : Int), .func (.func 78) #[] #[.pointer (some ⟨w.heap.size, 0, none⟩)]]) ∧ Ex w w' ∧ Has w' w.heap.size 2 #[.int .i64 (N : Int)] := by
  have e0 : Ex w ((w.alloc (.cells #[.int .i64 (N : Int)] 2)).alloc (.cells #[.int .i64 0, .nilFunc] 79)) := ((Ex.refl w).alloc _).alloc _
  have b0 : Has ((w.alloc (.cells #[.int .i64 (N : Int)] 2)).alloc (.cells #[.int .i64 0, .nilFunc] 79)) (w.heap.size) 2 #[.int .i64 (N : Int)] := ((Has.newAt (w := w) (e := 2) (cs := #[.int .i64 (N : Int)]) (k := w.heap.size) (by simp)).alloc _)
  have b1 : Has ((w.alloc (.cells #[.int .i64 (N : Int)] 2)).alloc (.cells #[.int .i64 0, .nilFunc] 79)) (w.heap.size + 1) 79 #[.int .i64 0, .nilFunc] := (Has.newAt (w := (w.alloc (.cells #[.int .i64 (N : Int)] 2))) (e := 79) (cs := #[.int .i64 0, .nilFunc]) (k := w.heap.size + 1) (by simp))
  have HB0 := Lib.hid b0
  have HB1 := Lib.hid b1
  have HE := Lib.hid e0
  have c0 := b0.cell 0
  have d0 := b1.cell 0
  have d1 := b1.cell 1
  have f0 := b1.free 0
  have f1 := b1.free 1
  have hl := b1.lt
  have hmf : ∀ (fn : Fn) (first cap : Array Value) (w : World), (Instr.makeFunc fn first cap).run Tryd.prog w = .ok (.func fn first cap) w := fun _ _ _ _ => rfl
  have hsf := fun (a : Addr) (c : Array Value) (w : World) => run_store Tryd.prog w a (.func (.func 78) #[] c) .plain rfl
  clear b0 b1 e0
  go_enter Tryd.func51, Tryd.ntmps51
  go_upto_region 1 with (fail)
  generalize ((w.alloc (.cells #[.int .i64 (N : Int)] 2)).alloc (.cells #[.int .i64 0, .nilFunc] 79)) = W0 at *
  go_wp2_with fail
  have H4 := HB1.out.put2 (u := .int .i64 (N : Int)) (v := .func (.func 78) #[] #[.pointer (some ⟨w.heap.size, 0, none⟩)])
  have g0 := H4.cell 0
  have g1 := H4.cell 1
  refine bodyPost_ret (v := .agg #[.int .i64 (N : Int), .func (.func 78) #[] #[.pointer (some ⟨w.heap.size, 0, none⟩)]]) (by simp [results, Tryd.results51, go_sem, g0, g1]) rfl ⟨rfl, ?_, ?_⟩
  · exact (HE.out.setCell (by show w.heap.size ≤ w.heap.size + 1; omega) _).setCell (by show w.heap.size ≤ w.heap.size + 1; omega) _
  · exact (HB0.out.far (p := ⟨w.heap.size + 1, 0, none⟩) (by show w.heap.size ≠ w.heap.size + 1; omega) _).far (p := ⟨w.heap.size + 1, 1, none⟩) (by show w.heap.size ≠ w.heap.size + 1; omega) _

set_option maxHeartbeats 1000000 in
theorem cyclic1_any (N Bn a b : Nat) (w : World) (hB : Has w Bn 2 #[.int .i64 (N : Int)]) (hN : 0 < N) (hN8 : N ≤ 8) (ha : a < N) (hb : b < N) :
    Calls Tryd.prog 78 #[.int .i64 (a : Int), .int .i64 (b : Int), .pointer (some ⟨Bn, 0, none⟩)] w fun e w' => e = .returned (.int .i64 (((a + b) % N : Nat) : Int)) ∧ Ex w w' := by
  have c0 := hB.cell 0
  have hne : ¬ N = 0 := by omega
  clear hB
  go_enter Tryd.func78, Tryd.ntmps78
  go_wp2_with fail
  go_ret
  exact ⟨by simp, Ex.refl _⟩

set_option maxRecDepth 100000 in
set_option maxHeartbeats 1000000 in
theorem planGroup_any (N Bn : Nat) (w : World) (hB : Has w Bn 2 #[.int .i64 (N : Int)]) (hN : 0 < N) (hN8 : N ≤ 8) :
    Calls Tryd.prog 52 #[.agg #[.int .i64 (N : Int), .func (.func 78) #[] #[.pointer (some ⟨Bn, 0, none⟩)]]] w fun e w' => ∃ R, e = .returned (.agg #[.slice (some ⟨R, 0, none⟩) N N]) ∧ Ex w w' := by
  have e0 : Ex w ((w.alloc (.cells #[.int .i64 (N : Int), .func (.func 78) #[] #[.pointer (some ⟨Bn, 0, none⟩)]] 79)).alloc (.cells #[.slice none 0 0] 36)) := ((Ex.refl w).alloc _).alloc _
  have b0 : Has ((w.alloc (.cells #[.int .i64 (N : Int), .func (.func 78) #[] #[.pointer (some ⟨Bn, 0, none⟩)]] 79)).alloc (.cells #[.slice none 0 0] 36)) (w.heap.size) 79 #[.int .i64 (N : Int), .func (.func 78) #[] #[.pointer (some ⟨Bn, 0, none⟩)]] := ((Has.newAt (w := w) (e := 79) (cs := #[.int .i64 (N : Int), .func (.func 78) #[] #[.pointer (some ⟨Bn, 0, none⟩)]]) (k := w.heap.size) (by simp)).alloc _)
  have b1 : Has ((w.alloc (.cells #[.int .i64 (N : Int), .func (.func 78) #[] #[.pointer (some ⟨Bn, 0, none⟩)]] 79)).alloc (.cells #[.slice none 0 0] 36)) (w.heap.size + 1) 36 #[.slice none 0 0] := (Has.newAt (w := (w.alloc (.cells #[.int .i64 (N : Int), .func (.func 78) #[] #[.pointer (some ⟨Bn, 0, none⟩)]] 79))) (e := 36) (cs := #[.slice none 0 0]) (k := w.heap.size + 1) (by simp))
  have HB1 := Lib.hid b1
  have HE := Lib.hid e0
  have c0 := b0.cell 0
  have c1 := b0.cell 1
  have HG := Lib.hid (fun W (he : Ex w W) => groupWith_has N 78 #[.pointer (some ⟨Bn, 0, none⟩)] (fun a b => (((a + b) % N : Nat) : Int)) W (by omega) (enters_of Tryd.func78 (by kernel_rfl) rfl) (fun W' he' a b ha hb => cyclic1_any N Bn a b W' ((hB.ex he).ex he') hN hN8 ha hb))
  clear b0 b1 e0 hB
  go_enter Tryd.func52, Tryd.ntmps52
  go_wp2_with fail
  generalize ((w.alloc (.cells #[.int .i64 (N : Int), .func (.func 78) #[] #[.pointer (some ⟨Bn, 0, none⟩)]] 79)).alloc (.cells #[.slice none 0 0] 36)) = W0 at *
  refine (HG.out W0 HE.out).mono ?_
  rintro e w1 ⟨G, R, rfl, he1, -, -, -, -⟩
  have hb1 := HB1.out.ex he1
  have HB2 := Lib.hid hb1
  have d0 := hb1.cell 0
  have f0 := hb1.free 0
  have hl := hb1.lt
  clear hb1
  go_wp2_with fail
  have H4 := HB2.out.put1 (v := .slice (some ⟨R, 0, none⟩) N N)
  have g0 := H4.cell 0
  refine bodyPost_ret (v := .agg #[.slice (some ⟨R, 0, none⟩) N N]) (by simp [results, Tryd.results52, go_sem, g0]) rfl ⟨R, rfl, ?_⟩
  exact (HE.out.trans he1).setCell (by show w.heap.size ≤ w.heap.size + 1; omega) _

set_option maxRecDepth 100000 in
set_option maxHeartbeats 2000000 in
theorem circleCochain_any (N d kf : Nat) (m u : Int) (cap : Array Value) (V : Nat → Int) (w : World) (hN : N ≤ 8) (hN1 : 1 ≤ N) (hd : d ≤ 4)
    (eg : ∀ args w, (callFunc kf args).run Tryd.prog w = .ok (.enter kf args) w)
    (hF : ∀ W', Ex w W' → ∀ k, k < cellsN N d → ∀ (B : Option Addr) (e : Nat), IntsW W' B (lsL N d k) → d ≤ e → Calls Tryd.prog kf (#[.slice B (lsL N d k).length e] ++ cap) W' fun e w' => e = .returned (.int .i64 (V k)) ∧ Ex W' w') :
    Calls Tryd.prog 23 #[.agg #[.int .i64 (N : Int), .int .i64 m, .int .i64 u], .int .i64 (d : Int), .func (.func kf) #[] cap] w fun e w' => ∃ A' n', e = .returned (.agg #[.int .i64 (d : Int), .slice A' (cellsN N d) n']) ∧ Ex w w' ∧ OwnL w' w.heap.size w'.heap.size A' ((List.range (cellsN N d)).map V) := by
  have e0 : Ex w ((w.alloc (.cells #[.int .i64 (N : Int), .int .i64 m, .int .i64 u] 44)).alloc (.cells #[.int .i64 0, .slice none 0 0] 24)) := ((Ex.refl w).alloc _).alloc _
  have b0 : Has ((w.alloc (.cells #[.int .i64 (N : Int), .int .i64 m, .int .i64 u] 44)).alloc (.cells #[.int .i64 0, .slice none 0 0] 24)) (w.heap.size) 44 #[.int .i64 (N : Int), .int .i64 m, .int .i64 u] := ((Has.newAt (w := w) (e := 44) (cs := #[.int .i64 (N : Int), .int .i64 m, .int .i64 u]) (k := w.heap.size) (by simp)).alloc _)
  have b1 : Has ((w.alloc (.cells #[.int .i64 (N : Int), .int .i64 m, .int .i64 u] 44)).alloc (.cells #[.int .i64 0, .slice none 0 0] 24)) (w.heap.size + 1) 24 #[.int .i64 0, .slice none 0 0] := (Has.newAt (w := (w.alloc (.cells #[.int .i64 (N : Int), .int .i64 m, .int .i64 u] 44))) (e := 24) (cs := #[.int .i64 0, .slice none 0 0]) (k := w.heap.size + 1) (by simp))
  have HB1 := Lib.hid b1
  have HE := Lib.hid e0
  have c0 := b0.cell 0
  have HCW := Lib.hid (fun (A : Option Addr) (c : Nat) W (he : Ex w W) => cochainWith_any A N c d kf cap V W hN hN1 hd eg (fun W' he' => hF W' (he.trans he')))
  have HCP := Lib.hid (fun W => cyclicPlan_any N W)
  have HPG := Lib.hid (fun Bn W hB => planGroup_any N Bn W hB (by omega) hN)
  clear b0 b1 e0 eg hF
  go_enter Tryd.func23, Tryd.ntmps23
  go_wp2_with fail
  generalize ((w.alloc (.cells #[.int .i64 (N : Int), .int .i64 m, .int .i64 u] 44)).alloc (.cells #[.int .i64 0, .slice none 0 0] 24)) = W0 at *
  refine (HCP.out W0).mono ?_
  rintro e w1 ⟨rfl, he1, hb⟩
  have HBN := Lib.hid hb
  clear hb
  go_wp2_with fail
  refine (HPG.out _ w1 HBN.out).mono ?_
  rintro e w2 ⟨R, rfl, he2⟩
  have HX2 := Lib.hid (HE.out.trans (he1.trans he2))
  go_wp2_with fail
  refine (HCW.out (some ⟨R, 0, none⟩) N w2 HX2.out).mono ?_
  rintro e w3 ⟨A, n, rfl, he3, ho3⟩
  have HO3 := Lib.hid ho3
  have hb1 := HB1.out.ex (he1.trans (he2.trans he3))
  have HB2 := Lib.hid hb1
  have d0 := hb1.cell 0
  have d1 := hb1.cell 1
  have f0 := hb1.free 0
  have f1 := hb1.free 1
  have hl := hb1.lt
  have hb2 := (HB1.out.ex (he1.trans he2)).lt
  have hzz := HX2.out.size
  clear hb1 ho3
  go_wp2_with fail
  have H4 := HB2.out.put2 (u := .int .i64 (d : Int)) (v := .slice A (cellsN N d) n)
  have g0 := H4.cell 0
  have g1 := H4.cell 1
  refine bodyPost_ret (v := .agg #[.int .i64 (d : Int), .slice A (cellsN N d) n]) (by simp [results, Tryd.results23, go_sem, g0, g1]) rfl ⟨A, n, rfl, ?_, ?_⟩
  · exact ((HX2.out.trans he3).setCell (by show w.heap.size ≤ w.heap.size + 1; omega) _).setCell (by show w.heap.size ≤ w.heap.size + 1; omega) _
  · refine ((HO3.out.above (Only.set _ (w.heap.size + 1) 0 (.int .i64 (d : Int))) (by omega)).above (Only.set _ (w.heap.size + 1) 1 (.slice A (cellsN N d) n)) (by omega)).mono hzz ?_ ?_ <;> simp

end Go.Proofs.YtfnjpbjlikajbaaDoor
