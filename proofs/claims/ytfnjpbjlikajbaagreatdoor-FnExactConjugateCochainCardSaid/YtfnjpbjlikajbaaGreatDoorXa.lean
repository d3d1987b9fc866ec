/- Cochains along a map between groups that stands behind the interface, whatever map, by the program. -/
import Derived.Test.YtfnjpbjlikajbaaGreatDoorUn
import Derived.Test.YtfnjpbjlikajbaaGreatDoorUi
namespace Go.Proofs.YtfnjpbjlikajbaaGreatDoor
open Go.RowKit Go.Shelf

set_option maxRecDepth 100000 in
set_option maxHeartbeats 2000000 in
theorem cal1_ex (Bm fi : Nat) (T : TypeId) (v : Value) (x : Nat) (z : Int) (w : World) (hI : Has w Bm 115 #[.iface T v])
    (hme : ∀ w, (method 282 T v "loop.example/g01363/impl.image").run Tryz.prog w = .ok (fi, v) w) (hen : ∀ args w, (callFunc fi args).run Tryz.prog w = .ok (.enter fi args) w)
    (hC : Calls Tryz.prog fi #[v, .int .i64 (x : Int)] w fun e w' => e = .returned (.int .i64 z) ∧ Ex w w') :
    Calls Tryz.prog 88 #[.int .i64 (x : Int), .pointer (some ⟨Bm, 0, none⟩)] w fun e w' => e = .returned (.int .i64 z) ∧ Ex w w' := by
  have HC := Lib.hid hC
  have k0 := hI.cell 0
  clear hI hC
  go_enter Tryz.func88, Tryz.ntmps88
  go_wp2_with fail
  refine HC.out.mono ?_
  rintro e W1 ⟨rfl, he1⟩
  have HE1 := Lib.hid he1
  clear he1 k0
  go_wp2_with fail
  go_ret
  exact ⟨rfl, HE1.out⟩

set_option maxRecDepth 100000 in
set_option maxHeartbeats 4000000 in
theorem cochainAlong_any (T : TypeId) (v : Value) (fs_ ft fi : Nat) (A A' F : Option Addr) (N K d : Nat) (V : Nat → Int) (fs : List Int) (c c' c1 : Nat) (w : World)
    (m1 : ∀ w, (method 282 T v "loop.example/g01363/impl.source").run Tryz.prog w = .ok (fs_, v) w) (m2 : ∀ w, (method 282 T v "loop.example/g01363/impl.target").run Tryz.prog w = .ok (ft, v) w) (m3 : ∀ w, (method 282 T v "loop.example/g01363/impl.image").run Tryz.prog w = .ok (fi, v) w)
    (n1 : ∀ args w, (callFunc fs_ args).run Tryz.prog w = .ok (.enter fs_ args) w) (n2 : ∀ args w, (callFunc ft args).run Tryz.prog w = .ok (.enter ft args) w) (n3 : ∀ args w, (callFunc fi args).run Tryz.prog w = .ok (.enter fi args) w)
    (cS : ∀ W, Ex w W → Calls Tryz.prog fs_ #[v] W fun e w' => e = .returned (.agg #[.slice A N c]) ∧ Ex W w') (cT : ∀ W, Ex w W → Calls Tryz.prog ft #[v] W fun e w' => e = .returned (.agg #[.slice A' K c']) ∧ Ex W w')
    (cI : ∀ W, Ex w W → ∀ x : Nat, x < N → Calls Tryz.prog fi #[v, .int .i64 (x : Int)] W fun e w' => e = .returned (.int .i64 (V x)) ∧ Ex W w')
    (hF : IntsW w F fs) (hN8 : N ≤ 8) (hN1 : 1 ≤ N) (hK8 : K ≤ 8) (hK1 : 1 ≤ K) (hd : d ≤ 3) (hV : ∀ x, x < N → 0 ≤ V x ∧ V x < K) (hfl : fs.length = cellsN K d) :
    Calls Tryz.prog 41 #[.iface T v, .agg #[.int .i64 (d : Int), .slice F fs.length c1]] w fun e w' => ∃ A5 n5, e = .returned (.agg #[.int .i64 (d : Int), .slice A5 (cellsN N d) n5]) ∧ Ex w w' ∧ OwnL w' w.heap.size w'.heap.size A5 (pbY V fs N K d) := by
  have e0 : Ex w (((w.alloc (.cells #[.iface T v] 115)).alloc (.cells #[.int .i64 (d : Int), .slice F fs.length c1] 33)).alloc (.cells #[.int .i64 0, .slice none 0 0] 33)) := (((Ex.refl w).alloc _).alloc _).alloc _
  have b0 : Has (((w.alloc (.cells #[.iface T v] 115)).alloc (.cells #[.int .i64 (d : Int), .slice F fs.length c1] 33)).alloc (.cells #[.int .i64 0, .slice none 0 0] 33)) (w.heap.size) 115 #[.iface T v] := (((Has.newAt (w := w) (e := 115) (cs := #[.iface T v]) (k := w.heap.size) (by simp)).alloc _).alloc _)
  have b1 : Has (((w.alloc (.cells #[.iface T v] 115)).alloc (.cells #[.int .i64 (d : Int), .slice F fs.length c1] 33)).alloc (.cells #[.int .i64 0, .slice none 0 0] 33)) (w.heap.size + 1) 33 #[.int .i64 (d : Int), .slice F fs.length c1] := ((Has.newAt (w := (w.alloc (.cells #[.iface T v] 115))) (e := 33) (cs := #[.int .i64 (d : Int), .slice F fs.length c1]) (k := w.heap.size + 1) (by simp)).alloc _)
  have b2 : Has (((w.alloc (.cells #[.iface T v] 115)).alloc (.cells #[.int .i64 (d : Int), .slice F fs.length c1] 33)).alloc (.cells #[.int .i64 0, .slice none 0 0] 33)) (w.heap.size + 1 + 1) 33 #[.int .i64 0, .slice none 0 0] := (Has.newAt (w := ((w.alloc (.cells #[.iface T v] 115)).alloc (.cells #[.int .i64 (d : Int), .slice F fs.length c1] 33))) (e := 33) (cs := #[.int .i64 0, .slice none 0 0]) (k := w.heap.size + 1 + 1) (by simp))
  have hmf : ∀ (fn : Fn) (first cap : Array Value) (w : World), (Instr.makeFunc fn first cap).run Tryz.prog w = .ok (.func fn first cap) w := fun _ _ _ _ => rfl
  have HPB := Lib.hid (fun W (he : Ex _ W) => pulledBack_any A A' F N K d 88 #[.pointer (some ⟨w.heap.size, 0, none⟩)] V fs c c' c1 W (hF.ex (e0.trans he)) hN8 hN1 hK8 hK1 hd hV hfl (enters_of Tryz.func88 (by kernel_rfl) rfl)
    (fun W' he' x hx => cal1_ex w.heap.size fi T v x (V x) W' (b0.ex (he.trans he')) m3 n3 (cI W' (e0.trans (he.trans he')) x hx)))
  have HS := Lib.hid (fun W (he : Ex w W) => cS W he)
  have HT := Lib.hid (fun W (he : Ex w W) => cT W he)
  have HYL := Lib.hid (pbY_len V fs N K d)
  have HB0 := Lib.hid b0
  have HB1 := Lib.hid b1
  have HB2 := Lib.hid b2
  have HE0 := Lib.hid e0
  have hlt := b2.lt
  have hlw := e0.size
  have hC0 := And.intro (b0.cell 0) (And.intro (b1.cell 0) (b1.cell 1))
  clear cS cT cI m3 n3 hF hV hfl b0 b1 b2 e0
  obtain ⟨ys, hys⟩ : ∃ ys, pbY V fs N K d = ys := ⟨_, rfl⟩
  rw [hys] at HPB HYL ⊢
  obtain ⟨cn, hcn⟩ : ∃ cn, cellsN N d = cn := ⟨_, rfl⟩
  rw [hcn] at HPB HYL ⊢
  clear hys hcn
  go_enter Tryz.func41, Tryz.ntmps41
  go_wp2_with fail
  generalize (((w.alloc (.cells #[.iface T v] 115)).alloc (.cells #[.int .i64 (d : Int), .slice F fs.length c1] 33)).alloc (.cells #[.int .i64 0, .slice none 0 0] 33)) = W0 at *
  refine Late.region (C := fun w' => w'.cell? ⟨w.heap.size, 0, none⟩ = some (.iface T v) ∧ w'.cell? ⟨w.heap.size + 1, 0, none⟩ = some (.int .i64 (d : Int)) ∧ w'.cell? ⟨w.heap.size + 1, 1, none⟩ = some (.slice F fs.length c1)) (fun j => decide (j < 7)) (by kernel_rfl) hC0 (fun hC => ?_)
  refine Late.take (i := 0) (oi := _) (v := ?_) rfl (by kernel_rfl) (by kernel_rfl) (by kernel_rfl) (by kernel_rfl) (fun _ _ _ h => h) (Or.inl ⟨by rfl, ?_⟩) hC ?_
  rotate_left
  · (intro w hSw; (try dsimp only at hSw); go_simp; first | done | with_reducible rfl)
  simp only [Act.put]
  refine Late.take (i := 2) (oi := _) (v := ?_) rfl (by kernel_rfl) (by kernel_rfl) (by kernel_rfl) (by kernel_rfl) (fun _ _ _ h => h) (Or.inl ⟨by rfl, ?_⟩) hC ?_
  rotate_left
  · (intro w hSw; (try dsimp only at hSw); go_simp; first | done | with_reducible rfl)
  simp only [Act.put]
  refine Late.take (i := 4) (oi := _) (v := ?_) rfl (by kernel_rfl) (by kernel_rfl) (by kernel_rfl) (by kernel_rfl) (fun _ _ _ h => h) (Or.inl ⟨by rfl, ?_⟩) hC ?_
  rotate_left
  · (intro w hSw; (try dsimp only at hSw); go_simp; first | done | with_reducible rfl)
  simp only [Act.put]
  refine Late.take (i := 5) (oi := _) (v := ?_) rfl (by kernel_rfl) (by kernel_rfl) (by kernel_rfl) (by kernel_rfl) (fun _ _ _ h => h) (Or.inl ⟨by rfl, ?_⟩) hC ?_
  rotate_left
  · (intro w hSw; (try dsimp only at hSw); go_simp; first | done | with_reducible rfl)
  simp only [Act.put]
  clear hC hC0
  refine Late.one (i := 1) (o := _) (by kernel_rfl) rfl (fun K' hK' => ?_)
  go_simp
  refine (HS.out W0.drew HE0.out.drew).mono ?_
  rintro e W1 ⟨rfl, he1⟩
  have hx1 : Ex W0 W1 := (Ex.refl W0).drew.trans he1
  have HX1 := Lib.hid hx1
  have hC1 := And.intro ((HB0.out.ex hx1).cell 0) (And.intro ((HB1.out.ex hx1).cell 0) ((HB1.out.ex hx1).cell 1))
  refine hK'.out _ _ (fun _ => hC1) (fun _ => ?_)
  clear hK' K' hC1 he1 hx1
  try simp only [Act.put]
  refine Late.one (i := 3) (o := _) (by kernel_rfl) rfl (fun K' hK' => ?_)
  go_simp
  refine (HT.out W1 (HE0.out.trans HX1.out)).mono ?_
  rintro e W2 ⟨rfl, he2⟩
  have hx2 := HX1.out.trans he2
  have HX2 := Lib.hid hx2
  have hC2 := And.intro ((HB0.out.ex hx2).cell 0) (And.intro ((HB1.out.ex hx2).cell 0) ((HB1.out.ex hx2).cell 1))
  refine hK'.out _ _ (fun _ => hC2) (fun _ => ?_)
  clear hK' K' hC2 he2 hx2
  try simp only [Act.put]
  refine Late.one (i := 6) (o := _) (by kernel_rfl) rfl (fun K' hK' => ?_)
  go_simp
  refine (HPB.out W2 HX2.out).mono ?_
  rintro e W3 ⟨A5, n5, rfl, he3, ho3⟩
  have hx3 := HX2.out.trans he3
  have HB23 := Lib.hid (HB2.out.ex hx3)
  have HE3 := Lib.hid (HE0.out.trans hx3)
  have HO3 := Lib.hid ho3
  have hC3 := And.intro ((HB0.out.ex hx3).cell 0) (And.intro ((HB1.out.ex hx3).cell 0) ((HB1.out.ex hx3).cell 1))
  have k0 := HB23.out.cell 0
  have k1 := HB23.out.cell 1
  have f0 := HB23.out.free 0
  have f1 := HB23.out.free 1
  have hs2 := HX2.out.size
  refine hK'.out _ _ (fun _ => hC3) (fun _ => ?_)
  clear hK' K' hC3 he3 ho3 hx3
  try simp only [Act.put]
  refine Late.one (i := 7) (o := _) (by kernel_rfl) rfl (fun K' hK' => ?_)
  go_simp
  refine hK'.out _ _ (fun h => by cases h) (fun _ => ?_)
  clear hK' K'
  try simp only [Act.put]
  refine Late.done (by kernel_rfl) ?_ _
  go_wp2_with fail
  have H4 := HB23.out.put2 (u := .int .i64 (d : Int)) (v := .slice A5 cn n5)
  have c4 := H4.cell 0
  have c4' := H4.cell 1
  refine bodyPost_ret (v := .agg #[.int .i64 (d : Int), .slice A5 cn n5]) (by simp [results, Tryz.results41, go_sem, c4, c4']) rfl ⟨A5, n5, rfl, (HE3.out.setCell (by show w.heap.size ≤ w.heap.size + 1 + 1; omega) _).setCell (by show w.heap.size ≤ w.heap.size + 1 + 1; omega) _, ?_⟩
  exact ((HO3.out.above (Only.set _ _ _ _) (by omega)).above (Only.set _ _ _ _) (by omega)).mono (by omega) (by simp) (Nat.le_refl _)

end Go.Proofs.YtfnjpbjlikajbaaGreatDoor
