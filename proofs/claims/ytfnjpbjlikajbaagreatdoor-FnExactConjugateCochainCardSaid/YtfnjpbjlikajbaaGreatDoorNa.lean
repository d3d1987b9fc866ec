/- InflateCochain: modules along whatever map behind the interface, projections, the model. -/
import Derived.Test.YtfnjpbjlikajbaaGreatDoorXb
import Derived.Test.YtfnjpbjlikajbaaGreatDoorQot
namespace Go.Proofs.YtfnjpbjlikajbaaGreatDoor
open Go.RowKit Go.Shelf

attribute [local go_sem] Oper.semAt_some

set_option maxRecDepth 100000 in
set_option maxHeartbeats 4000000 in
theorem mal2_ex (Bm Ba fi : Nat) (T : TypeId) (v : Value) (U : Option Addr) (c1 i x : Nat) (m : Int) (us : List Int) (w : World) (hM : Has w Ba 38 #[.int .i64 m, .slice U us.length c1]) (hI : Has w Bm 115 #[.iface T v])
    (hU : IntsW w U us) (hme : ∀ w, (method 282 T v "loop.example/g01363/impl.image").run Tryz.prog w = .ok (fi, v) w) (hen : ∀ args w, (callFunc fi args).run Tryz.prog w = .ok (.enter fi args) w)
    (hC : ∀ W, Ex w W → Calls Tryz.prog fi #[v, .int .i64 (i : Int)] W fun e w' => e = .returned (.int .i64 (x : Int)) ∧ Ex W w') (hxl : x < us.length) (_ : us.length ≤ 8) :
    Calls Tryz.prog 97 #[.int .i64 (i : Int), .pointer (some ⟨Ba, 0, none⟩), .pointer (some ⟨Bm, 0, none⟩)] w fun e w' => e = .returned (.int .i64 (nth us x)) ∧ Ex w w' := by
  have HIM := Lib.hid hC
  obtain ⟨bu, ou, rfl, hbu, hcu⟩ := hU.ints.at_ hxl
  obtain ⟨z, hz⟩ : ∃ z, nth us x = z := ⟨_, rfl⟩
  rw [hz] at hcu ⊢
  have HF := Lib.hid (fun (W : World) (he : Ex w W) => And.intro ((hM.ex he).cell 1) (And.intro ((hI.ex he).cell 0) ((he.below.cell (p := ⟨bu, ou + x, none⟩) hbu).trans hcu)))
  clear hM hI hU hC hz hcu
  go_enter Tryz.func97, Tryz.ntmps97
  go_wp2_with fail
  refine Late.region (C := fun w' => w'.cell? ⟨Ba, 1, none⟩ = some (.slice (some ⟨bu, ou, none⟩) us.length c1) ∧ w'.cell? ⟨Bm, 0, none⟩ = some (.iface T v) ∧ w'.cell? ⟨bu, ou + x, none⟩ = some (.int .i64 z)) (fun _ => true) (by kernel_rfl) (HF.out w (Ex.refl w)) (fun hC => ?_)
  refine Late.take (i := 0) (oi := _) (v := ?_) rfl (by kernel_rfl) (by kernel_rfl) (by kernel_rfl) (by kernel_rfl) (fun _ _ _ h => h) (Or.inl ⟨by rfl, ?_⟩) hC ?_
  rotate_left
  · (intro w hSw; (try dsimp only at hSw); go_simp; first | done | with_reducible rfl)
  simp only [Act.put]
  refine Late.take (i := 1) (oi := _) (v := ?_) rfl (by kernel_rfl) (by kernel_rfl) (by kernel_rfl) (by kernel_rfl) (fun _ _ _ h => h) (Or.inl ⟨by rfl, ?_⟩) hC ?_
  rotate_left
  · (intro w hSw; (try dsimp only at hSw); go_simp; first | done | with_reducible rfl)
  simp only [Act.put]
  refine Late.take (i := 2) (oi := _) (v := ?_) rfl (by kernel_rfl) (by kernel_rfl) (by kernel_rfl) (by kernel_rfl) (fun _ _ _ h => h) (Or.inl ⟨by rfl, ?_⟩) hC ?_
  rotate_left
  · (intro w hSw; (try dsimp only at hSw); go_simp; first | done | with_reducible rfl)
  simp only [Act.put]
  refine Late.take (i := 3) (oi := _) (v := ?_) rfl (by kernel_rfl) (by kernel_rfl) (by kernel_rfl) (by kernel_rfl) (fun _ _ _ h => h) (Or.inl ⟨by rfl, ?_⟩) hC ?_
  rotate_left
  · (intro w hSw; (try dsimp only at hSw); go_simp; first | done | with_reducible rfl)
  simp only [Act.put]
  refine Late.one (i := 4) (o := _) (by kernel_rfl) rfl (fun K' hK' => ?_)
  go_simp
  refine (HIM.out w.drew (Ex.refl w).drew).mono ?_
  rintro e W1 ⟨rfl, he1⟩
  have hx1 : Ex w W1 := (Ex.refl w).drew.trans he1
  have hC1 := HF.out W1 hx1
  have HE1 := Lib.hid hx1
  have hx0 : (0 : Int) ≤ (x : Int) := by omega
  have hxu : (x : Int) < (us.length : Int) := by omega
  refine hK'.out _ _ (fun _ => hC1) (fun _ => ?_)
  clear hK' K' hC he1 hx1 hme hen
  try simp only [Act.put, List.setIfInBounds_toArray, List.set_cons_zero, List.set_cons_succ]
  refine Late.take (i := 5) (oi := _) (v := ?_) rfl (by kernel_rfl) (by kernel_rfl) (by kernel_rfl) (by kernel_rfl) (fun _ _ _ h => h) (Or.inl ⟨by rfl, ?_⟩) hC1 ?_
  rotate_left
  · (intro w hSw; (try dsimp only at hSw); go_simp; first | done | with_reducible rfl)
  simp only [Act.put]
  refine Late.take (i := 6) (oi := _) (v := ?_) rfl (by kernel_rfl) (by kernel_rfl) (by kernel_rfl) (by kernel_rfl) (fun _ _ _ h => h) (Or.inl ⟨by rfl, ?_⟩) hC1 ?_
  rotate_left
  · (intro w hSw; (try dsimp only at hSw); go_simp; first | done | with_reducible rfl)
  simp only [Act.put]
  refine Late.take (i := 7) (oi := _) (v := ?_) rfl (by kernel_rfl) (by kernel_rfl) (by kernel_rfl) (by kernel_rfl) (fun _ _ _ h => h) (Or.inl ⟨by rfl, ?_⟩) hC1 ?_
  rotate_left
  · (intro w hSw; (try dsimp only at hSw); go_simp; first | done | with_reducible rfl)
  simp only [Act.put]
  refine Late.done (by kernel_rfl) ?_ _
  go_wp2_with fail
  go_ret
  exact ⟨rfl, HE1.out⟩

set_option maxRecDepth 100000 in
set_option maxHeartbeats 4000000 in
theorem moduleAlong_w (T : TypeId) (v : Value) (fs_ fi : Nat) (P U : Option Addr) (N pc c1 : Nat) (V : Nat → Nat) (m : Int) (us : List Int) (w : World)
    (m1 : ∀ w, (method 282 T v "loop.example/g01363/impl.source").run Tryz.prog w = .ok (fs_, v) w) (m3 : ∀ w, (method 282 T v "loop.example/g01363/impl.image").run Tryz.prog w = .ok (fi, v) w)
    (n1 : ∀ args w, (callFunc fs_ args).run Tryz.prog w = .ok (.enter fs_ args) w) (n3 : ∀ args w, (callFunc fi args).run Tryz.prog w = .ok (.enter fi args) w)
    (cS : ∀ W, Ex w W → Calls Tryz.prog fs_ #[v] W fun e w' => e = .returned (.agg #[.slice P N pc]) ∧ Ex W w')
    (cI : ∀ W, Ex w W → ∀ x : Nat, x < N → Calls Tryz.prog fi #[v, .int .i64 (x : Int)] W fun e w' => e = .returned (.int .i64 (V x : Int)) ∧ Ex W w')
    (hU : IntsW w U us) (hN8 : N ≤ 8) (hu8 : us.length ≤ 8) (hV : ∀ x, x < N → V x < us.length) :
    Calls Tryz.prog 49 #[.iface T v, .agg #[.int .i64 m, .slice U us.length c1]] w fun e w' => ∃ A' n', e = .returned (.agg #[.int .i64 m, .slice A' N n']) ∧ Ex w w' ∧ OwnL w' w.heap.size w'.heap.size A' ((List.range N).map fun i => nth us (V i)) := by
  have e0 : Ex w (((w.alloc (.cells #[.iface T v] 115)).alloc (.cells #[.int .i64 m, .slice U us.length c1] 38)).alloc (.cells #[.int .i64 0, .slice none 0 0] 38)) := (((Ex.refl w).alloc _).alloc _).alloc _
  have b0 : Has (((w.alloc (.cells #[.iface T v] 115)).alloc (.cells #[.int .i64 m, .slice U us.length c1] 38)).alloc (.cells #[.int .i64 0, .slice none 0 0] 38)) (w.heap.size) 115 #[.iface T v] := (((Has.newAt (w := w) (e := 115) (cs := #[.iface T v]) (k := w.heap.size) (by simp)).alloc _).alloc _)
  have b1 : Has (((w.alloc (.cells #[.iface T v] 115)).alloc (.cells #[.int .i64 m, .slice U us.length c1] 38)).alloc (.cells #[.int .i64 0, .slice none 0 0] 38)) (w.heap.size + 1) 38 #[.int .i64 m, .slice U us.length c1] := ((Has.newAt (w := (w.alloc (.cells #[.iface T v] 115))) (e := 38) (cs := #[.int .i64 m, .slice U us.length c1]) (k := w.heap.size + 1) (by simp)).alloc _)
  have b2 : Has (((w.alloc (.cells #[.iface T v] 115)).alloc (.cells #[.int .i64 m, .slice U us.length c1] 38)).alloc (.cells #[.int .i64 0, .slice none 0 0] 38)) (w.heap.size + 1 + 1) 38 #[.int .i64 0, .slice none 0 0] := (Has.newAt (w := ((w.alloc (.cells #[.iface T v] 115)).alloc (.cells #[.int .i64 m, .slice U us.length c1] 38))) (e := 38) (cs := #[.int .i64 0, .slice none 0 0]) (k := w.heap.size + 1 + 1) (by simp))
  have hmf : ∀ (fn : Fn) (first cap : Array Value) (w : World), (Instr.makeFunc fn first cap).run Tryz.prog w = .ok (.func fn first cap) w := fun _ _ _ _ => rfl
  have HMW := Lib.hid (fun W (he : Ex (((w.alloc (.cells #[.iface T v] 115)).alloc (.cells #[.int .i64 m, .slice U us.length c1] 38)).alloc (.cells #[.int .i64 0, .slice none 0 0] 38)) W) => moduleWith_any P N pc m 97 #[.pointer (some ⟨w.heap.size + 1, 0, none⟩), .pointer (some ⟨w.heap.size, 0, none⟩)] (fun i => nth us (V i)) W hN8
    (enters_of Tryz.func97 (by kernel_rfl) rfl)
    (fun W' he' i hi => mal2_ex w.heap.size (w.heap.size + 1) fi T v U c1 i (V i) m us W' (b1.ex (he.trans he')) (b0.ex (he.trans he')) (hU.ex (e0.trans (he.trans he'))) m3 n3 (fun W'' he'' => cI W'' ((e0.trans (he.trans he')).trans he'') i hi) (hV i hi) hu8))
  have HSO := Lib.hid cS
  obtain ⟨ys, hys⟩ : ∃ ys, (List.range N).map (fun i => nth us (V i)) = ys := ⟨_, rfl⟩
  rw [hys] at HMW ⊢
  have HB0 := Lib.hid b0
  have HB1 := Lib.hid b1
  have HB2 := Lib.hid b2
  have HE0 := Lib.hid e0
  have hlt := b2.lt
  have hC0 := And.intro (b0.cell 0) (b1.cell 0)
  clear hU hV hys hN8 hu8 b0 b1 b2 e0 cS cI m3 n3
  go_enter Tryz.func49, Tryz.ntmps49
  go_wp2_with fail
  generalize (((w.alloc (.cells #[.iface T v] 115)).alloc (.cells #[.int .i64 m, .slice U us.length c1] 38)).alloc (.cells #[.int .i64 0, .slice none 0 0] 38)) = W0 at *
  refine Late.region (C := fun w' => w'.cell? ⟨w.heap.size, 0, none⟩ = some (.iface T v) ∧ w'.cell? ⟨w.heap.size + 1, 0, none⟩ = some (.int .i64 m)) (fun j => decide (j < 6)) (by kernel_rfl) hC0 (fun hC => ?_)
  refine Late.take (i := 0) (oi := _) (v := ?_) rfl (by kernel_rfl) (by kernel_rfl) (by kernel_rfl) (by kernel_rfl) (fun _ _ _ h => h) (Or.inl ⟨by rfl, ?_⟩) hC ?_
  rotate_left
  · (intro w hSw; (try dsimp only at hSw); go_simp; first | done | with_reducible rfl)
  simp only [Act.put]
  refine Late.take (i := 2) (oi := _) (v := ?_) rfl (by kernel_rfl) (by kernel_rfl) (by kernel_rfl) (by kernel_rfl) (fun _ _ _ h => h) (Or.inl ⟨by rfl, ?_⟩) hC ?_
  rotate_left
  · (intro w hSw; (try dsimp only at hSw); go_simp; first | done | with_reducible rfl)
  simp only [Act.put]
  refine Late.take (i := 3) (oi := _) (v := ?_) rfl (by kernel_rfl) (by kernel_rfl) (by kernel_rfl) (by kernel_rfl) (fun _ _ _ h => h) (Or.inl ⟨by rfl, ?_⟩) hC ?_
  rotate_left
  · (intro w hSw; (try dsimp only at hSw); go_simp; first | done | with_reducible rfl)
  simp only [Act.put]
  refine Late.take (i := 4) (oi := _) (v := ?_) rfl (by kernel_rfl) (by kernel_rfl) (by kernel_rfl) (by kernel_rfl) (fun _ _ _ h => h) (Or.inl ⟨by rfl, ?_⟩) hC ?_
  rotate_left
  · (intro w hSw; (try dsimp only at hSw); go_simp; first | done | with_reducible rfl)
  simp only [Act.put]
  refine Late.one (i := 1) (o := _) (by kernel_rfl) rfl (fun K' hK' => ?_)
  go_simp
  refine (HSO.out W0.drew HE0.out.drew).mono ?_
  rintro e W1 ⟨rfl, he1⟩
  have hx1 : Ex W0 W1 := (Ex.refl W0).drew.trans he1
  have hC1 := And.intro ((HB0.out.ex hx1).cell 0) ((HB1.out.ex hx1).cell 0)
  have HX1 := Lib.hid hx1
  refine hK'.out _ _ (fun _ => hC1) (fun _ => ?_)
  clear hK' K' hC hC0 he1 hx1
  try simp only [Act.put, List.setIfInBounds_toArray, List.set_cons_zero, List.set_cons_succ]
  refine Late.one (i := 5) (o := _) (by kernel_rfl) rfl (fun K' hK' => ?_)
  go_simp
  refine (HMW.out W1 HX1.out).mono ?_
  rintro e W2 ⟨A', n', rfl, he2, ho2⟩
  have hx2 := HX1.out.trans he2
  have hC2 := And.intro ((HB0.out.ex hx2).cell 0) ((HB1.out.ex hx2).cell 0)
  have HB22 := Lib.hid (HB2.out.ex hx2)
  have k0 := HB22.out.cell 0
  have k1 := HB22.out.cell 1
  have f0 := HB22.out.free 0
  have f1 := HB22.out.free 1
  have HE2 := Lib.hid (HE0.out.trans hx2)
  have HO2 := Lib.hid ho2
  have hlt1 : w.heap.size + 1 + 1 < W1.heap.size := Nat.lt_of_lt_of_le hlt HX1.out.size
  have hlw1 : w.heap.size ≤ W1.heap.size := by omega
  refine hK'.out _ _ (fun _ => hC2) (fun _ => ?_)
  clear hK' K' hC1 he2 ho2 hx2
  try simp only [Act.put, List.setIfInBounds_toArray, List.set_cons_zero, List.set_cons_succ]
  refine Late.one (i := 6) (o := _) (by kernel_rfl) rfl (fun K' hK' => ?_)
  go_simp
  refine hK'.out _ _ (fun h => by cases h) (fun _ => ?_)
  clear hK' K' hC2
  try simp only [Act.put, List.setIfInBounds_toArray, List.set_cons_zero, List.set_cons_succ]
  refine Late.done (by kernel_rfl) ?_ _
  go_wp2_with fail
  have H4 := HB22.out.put2 (u := .int .i64 m) (v := .slice A' N n')
  have c4 := H4.cell 0
  have c4' := H4.cell 1
  refine bodyPost_ret (v := .agg #[.int .i64 m, .slice A' N n']) (by simp [results, Tryz.results49, go_sem, c4, c4']) rfl ⟨A', n', rfl, (HE2.out.setCell (by show w.heap.size ≤ w.heap.size + 1 + 1; omega) _).setCell (by show w.heap.size ≤ w.heap.size + 1 + 1; omega) _, ?_⟩
  exact ((HO2.out.above (Only.set _ _ _ _) hlt1).above (Only.set _ _ _ _) hlt1).mono hlw1 (by simp) (Nat.le_refl _)

/-! Projections. -/
set_option maxHeartbeats 1000000 in
theorem prjSource_any (P A L : Option Addr) (p pc n c k c' : Nat) (w : World) :
    Calls Tryz.prog 166 #[.agg #[.slice P p pc, .slice A n c, .slice L k c']] w fun e w' => e = .returned (.agg #[.slice P p pc]) ∧ Ex w w' := by
  have e0 : Ex w ((w.alloc (.cells #[.slice P p pc, .slice A n c, .slice L k c'] 76)).alloc (.cells #[.slice none 0 0] 36)) := ((Ex.refl w).alloc _).alloc _
  have b0 : Has ((w.alloc (.cells #[.slice P p pc, .slice A n c, .slice L k c'] 76)).alloc (.cells #[.slice none 0 0] 36)) (w.heap.size) 76 #[.slice P p pc, .slice A n c, .slice L k c'] := ((Has.newAt (w := w) (e := 76) (cs := #[.slice P p pc, .slice A n c, .slice L k c']) (k := w.heap.size) (by simp)).alloc _)
  have b1 : Has ((w.alloc (.cells #[.slice P p pc, .slice A n c, .slice L k c'] 76)).alloc (.cells #[.slice none 0 0] 36)) (w.heap.size + 1) 36 #[.slice none 0 0] := (Has.newAt (w := (w.alloc (.cells #[.slice P p pc, .slice A n c, .slice L k c'] 76))) (e := 36) (cs := #[.slice none 0 0]) (k := w.heap.size + 1) (by simp))
  have c0 := b0.cell 0
  clear b0 b1 e0
  go_enter Tryz.func166, Tryz.ntmps166
  go_wp2_with fail
  exact bodyPost_ret (v := .agg #[.slice P p pc]) (by simp [results, Tryz.results166, go_sem]) rfl ⟨rfl, ((Ex.refl w).alloc _).alloc _⟩
set_option maxHeartbeats 1000000 in
theorem prjTarget_any (P A L : Option Addr) (p pc n c k c' : Nat) (w : World) :
    Calls Tryz.prog 167 #[.agg #[.slice P p pc, .slice A n c, .slice L k c']] w fun e w' => e = .returned (.agg #[.slice A n c]) ∧ Ex w w' := by
  have e0 : Ex w ((w.alloc (.cells #[.slice P p pc, .slice A n c, .slice L k c'] 76)).alloc (.cells #[.slice none 0 0] 36)) := ((Ex.refl w).alloc _).alloc _
  have b0 : Has ((w.alloc (.cells #[.slice P p pc, .slice A n c, .slice L k c'] 76)).alloc (.cells #[.slice none 0 0] 36)) (w.heap.size) 76 #[.slice P p pc, .slice A n c, .slice L k c'] := ((Has.newAt (w := w) (e := 76) (cs := #[.slice P p pc, .slice A n c, .slice L k c']) (k := w.heap.size) (by simp)).alloc _)
  have b1 : Has ((w.alloc (.cells #[.slice P p pc, .slice A n c, .slice L k c'] 76)).alloc (.cells #[.slice none 0 0] 36)) (w.heap.size + 1) 36 #[.slice none 0 0] := (Has.newAt (w := (w.alloc (.cells #[.slice P p pc, .slice A n c, .slice L k c'] 76))) (e := 36) (cs := #[.slice none 0 0]) (k := w.heap.size + 1) (by simp))
  have c0 := b0.cell 1
  clear b0 b1 e0
  go_enter Tryz.func167, Tryz.ntmps167
  go_wp2_with fail
  exact bodyPost_ret (v := .agg #[.slice A n c]) (by simp [results, Tryz.results167, go_sem]) rfl ⟨rfl, ((Ex.refl w).alloc _).alloc _⟩
theorem meth_psource (n : Nat) (v : Value) (w : World) : (method (n + 1) 76 v "loop.example/g01363/impl.source").run Tryz.prog w = .ok (166, v) w := by kernel_rfl
theorem meth_ptarget (n : Nat) (v : Value) (w : World) : (method (n + 1) 76 v "loop.example/g01363/impl.target").run Tryz.prog w = .ok (167, v) w := by kernel_rfl
theorem meth_pimage (n : Nat) (v : Value) (w : World) : (method (n + 1) 76 v "loop.example/g01363/impl.image").run Tryz.prog w = .ok (165, v) w := by kernel_rfl

set_option maxHeartbeats 1000000 in
theorem prjImage_any (P A L : Option Addr) (p pc n c c' i : Nat) (xs : List Int) (w : World) (hX : IntsW w L xs) (hi : i < xs.length) (_ : xs.length ≤ 8) :
    Calls Tryz.prog 165 #[.agg #[.slice P p pc, .slice A n c, .slice L xs.length c'], .int .i64 (i : Int)] w fun e w' => e = .returned (.int .i64 (nth xs i)) ∧ Ex w w' := by
  obtain ⟨bx, ox, rfl, hbx, hcx⟩ := hX.ints.at_ hi
  have e0 : Ex w (w.alloc (.cells #[.slice P p pc, .slice A n c, .slice (some ⟨bx, ox, none⟩) xs.length c'] 76)) := (Ex.refl w).alloc _
  have b0 : Has (w.alloc (.cells #[.slice P p pc, .slice A n c, .slice (some ⟨bx, ox, none⟩) xs.length c'] 76)) (w.heap.size) 76 #[.slice P p pc, .slice A n c, .slice (some ⟨bx, ox, none⟩) xs.length c'] := (Has.newAt (w := w) (e := 76) (cs := #[.slice P p pc, .slice A n c, .slice (some ⟨bx, ox, none⟩) xs.length c']) (k := w.heap.size) (by simp))
  have hcx0 := (e0.below.cell (p := ⟨bx, ox + i, none⟩) hbx).trans hcx
  have c0 := b0.cell 2
  have HE0 := Lib.hid e0
  have hi0 : (0 : Int) ≤ (i : Int) := by omega
  have hil : (i : Int) < (xs.length : Int) := by omega
  obtain ⟨z, hz⟩ : ∃ z, nth xs i = z := ⟨_, rfl⟩
  rw [hz] at hcx0 ⊢
  clear hX hcx b0 e0 hz
  go_enter Tryz.func165, Tryz.ntmps165
  go_wp2_with fail
  go_ret
  exact ⟨rfl, HE0.out⟩

/-- A module and a cochain along a projection whose numbers are num. -/
theorem prjModule_any (P A L U : Option Addr) (pc k c c' c1 : Nat) (num : Nat → Nat) (m : Int) (us xs : List Int) (w : World) (hX : IntsW w L xs) (hx8 : xs.length ≤ 8) (hU : IntsW w U us) (hu8 : us.length ≤ 8) (hn : ∀ x, x < xs.length → nth xs x = (num x : Int) ∧ num x < us.length) :
    Calls Tryz.prog 49 #[.iface 76 (.agg #[.slice P xs.length pc, .slice A k c, .slice L xs.length c']), .agg #[.int .i64 m, .slice U us.length c1]] w fun e w' => ∃ A' n', e = .returned (.agg #[.int .i64 m, .slice A' xs.length n']) ∧ Ex w w' ∧ OwnL w' w.heap.size w'.heap.size A' ((List.range xs.length).map fun i => nth us (num i)) :=
  moduleAlong_w 76 (.agg #[.slice P xs.length pc, .slice A k c, .slice L xs.length c']) 166 165 P U xs.length pc c1 num m us w
    (fun w => meth_psource 281 _ w) (fun w => meth_pimage 281 _ w)
    (enters_of Tryz.func166 (by kernel_rfl) rfl) (enters_of Tryz.func165 (by kernel_rfl) rfl)
    (fun W _ => prjSource_any P A L xs.length pc k c xs.length c' W)
    (fun W he x hx => by
      have hi := prjImage_any P A L xs.length pc k c c' x xs W (hX.ex he) hx hx8
      rw [(hn x hx).1] at hi
      exact hi)
    hU hx8 hu8 (fun x hx => (hn x hx).2)
theorem prjCochain_any (P A L F : Option Addr) (pc k c c' c1 d : Nat) (num : Nat → Nat) (fs xs : List Int) (w : World) (hX : IntsW w L xs) (hx8 : xs.length ≤ 8) (hx1 : 1 ≤ xs.length) (hk8 : k ≤ 8) (hk1 : 1 ≤ k) (hF : IntsW w F fs) (hd : d ≤ 3) (hfl : fs.length = cellsN k d) (hn : ∀ x, x < xs.length → nth xs x = (num x : Int) ∧ num x < k) :
    Calls Tryz.prog 41 #[.iface 76 (.agg #[.slice P xs.length pc, .slice A k c, .slice L xs.length c']), .agg #[.int .i64 (d : Int), .slice F fs.length c1]] w fun e w' => ∃ A5 n5, e = .returned (.agg #[.int .i64 (d : Int), .slice A5 (cellsN xs.length d) n5]) ∧ Ex w w' ∧ OwnL w' w.heap.size w'.heap.size A5 (pbY (fun x => (num x : Int)) fs xs.length k d) :=
  cochainAlong_any 76 (.agg #[.slice P xs.length pc, .slice A k c, .slice L xs.length c']) 166 167 165 P A F xs.length k d (fun x => (num x : Int)) fs pc c c1 w
    (fun w => meth_psource 281 _ w) (fun w => meth_ptarget 281 _ w) (fun w => meth_pimage 281 _ w)
    (enters_of Tryz.func166 (by kernel_rfl) rfl) (enters_of Tryz.func167 (by kernel_rfl) rfl) (enters_of Tryz.func165 (by kernel_rfl) rfl)
    (fun W _ => prjSource_any P A L xs.length pc k c xs.length c' W) (fun W _ => prjTarget_any P A L xs.length pc k c xs.length c' W)
    (fun W he x hx => by
      have hi := prjImage_any P A L xs.length pc k c c' x xs W (hX.ex he) hx hx8
      rw [(hn x hx).1] at hi
      exact hi)
    hF hx8 hx1 hk8 hk1 hd (fun x hx => by have := (hn x hx).2; omega) hfl

/-! The model. -/
noncomputable def icC (t : List (List Int)) (xs : List Int) (m : Int) (us : List Int) (n : Int) (fs : List Int) : Int := if quC t xs = 0 then (if gmcB (yQuotientOf0 t xs) m us n fs = true then 0 else 1) else quC t xs
noncomputable def qInflateCochain0 (t : List (List Int)) (xs : List Int) (m : Int) (us : List Int) (n : Int) (fs : List Int) : Int := if icC t xs m us n fs = 0 then m else 0
noncomputable def yInflateCochain0 (t : List (List Int)) (xs : List Int) (m : Int) (us : List Int) (n : Int) (fs : List Int) : List Int := if icC t xs m us n fs = 0 then (List.range t.length).map (fun i => nth us ((quS t xs).num i)) else []
noncomputable def qInflateCochain1 (t : List (List Int)) (xs : List Int) (m : Int) (us : List Int) (n : Int) (fs : List Int) : Int := if icC t xs m us n fs = 0 then n else 0
noncomputable def yInflateCochain1 (t : List (List Int)) (xs : List Int) (m : Int) (us : List Int) (n : Int) (fs : List Int) : List Int := if icC t xs m us n fs = 0 then pbY (fun x => ((quS t xs).num x : Int)) fs t.length (yQuotientOf0 t xs).length n.toNat else []
noncomputable def qInflateCochain2 (t : List (List Int)) (xs : List Int) (m : Int) (us : List Int) (n : Int) (fs : List Int) : Int := icC t xs m us n fs

/-- What is asked of the ends: two lists with their numbers and a code. -/
def TwS (q0 : Int) (y0 : List Int) (q1 : Int) (y1 : List Int) (q2 : Int) (W : World) (e : Ending) (W' : World) : Prop := ∃ (C0 : Option Addr) (e0 : Nat) (C1 : Option Addr) (e1 : Nat), e = .returned (.tuple #[.agg #[.int .i64 q0, .slice C0 y0.length e0], .agg #[.int .i64 q1, .slice C1 y1.length e1], .int .i64 q2]) ∧ Ex W W' ∧ OwnL W' W.heap.size W'.heap.size C0 y0 ∧ OwnL W' W.heap.size W'.heap.size C1 y1
def TwP (q0 : Int) (y0 : List Int) (q1 : Int) (y1 : List Int) (q2 : Int) (W : World) (e : Ending) (W' : World) : Prop := ∃ (C0 : Option Addr) (e0 : Nat) (C1 : Option Addr) (e1 : Nat) (mid : Nat), e = .returned (.tuple #[.agg #[.int .i64 q0, .slice C0 y0.length e0], .agg #[.int .i64 q1, .slice C1 y1.length e1], .int .i64 q2]) ∧ Ex W W' ∧ W.heap.size ≤ mid ∧ mid ≤ W'.heap.size ∧ OwnL W' W.heap.size mid C0 y0 ∧ OwnL W' mid W'.heap.size C1 y1
section
variable {q0 q1 q2 c m n : Int} {y0 y1 z0 z1 : List Int} {W W' : World} {e : Ending} {C0 C1 : Option Addr} {e0 e1 mid : Nat}
theorem TwS.err (h : q0 = 0 ∧ y0 = [] ∧ q1 = 0 ∧ y1 = [] ∧ q2 = c) (he : e = .returned (.tuple #[.agg #[.int .i64 0, .slice none 0 0], .agg #[.int .i64 0, .slice none 0 0], .int .i64 c])) (hx : Ex W W') : TwS q0 y0 q1 y1 q2 W e W' := by
  obtain ⟨rfl, rfl, rfl, rfl, rfl⟩ := h
  exact ⟨none, 0, none, 0, he, hx, OwnL.nil _ _ _ (Nat.le_refl _), OwnL.nil _ _ _ (Nat.le_refl _)⟩
theorem TwS.of (h : q0 = m ∧ y0 = z0 ∧ q1 = n ∧ y1 = z1 ∧ q2 = 0) (he : e = .returned (.tuple #[.agg #[.int .i64 m, .slice C0 z0.length e0], .agg #[.int .i64 n, .slice C1 z1.length e1], .int .i64 0])) (hx : Ex W W') (h0 : OwnL W' W.heap.size W'.heap.size C0 z0) (h1 : OwnL W' W.heap.size W'.heap.size C1 z1) : TwS q0 y0 q1 y1 q2 W e W' := by
  obtain ⟨rfl, rfl, rfl, rfl, rfl⟩ := h
  exact ⟨C0, e0, C1, e1, he, hx, h0, h1⟩
theorem TwP.err (h : q0 = 0 ∧ y0 = [] ∧ q1 = 0 ∧ y1 = [] ∧ q2 = c) (he : e = .returned (.tuple #[.agg #[.int .i64 0, .slice none 0 0], .agg #[.int .i64 0, .slice none 0 0], .int .i64 c])) (hx : Ex W W') : TwP q0 y0 q1 y1 q2 W e W' := by
  obtain ⟨rfl, rfl, rfl, rfl, rfl⟩ := h
  exact ⟨none, 0, none, 0, W.heap.size, he, hx, Nat.le_refl _, hx.size, OwnL.nil _ _ _ hx.size, OwnL.nil _ _ _ (Nat.le_refl _)⟩
theorem TwP.of (h : q0 = m ∧ y0 = z0 ∧ q1 = n ∧ y1 = z1 ∧ q2 = 0) (he : e = .returned (.tuple #[.agg #[.int .i64 m, .slice C0 z0.length e0], .agg #[.int .i64 n, .slice C1 z1.length e1], .int .i64 0])) (hx : Ex W W') (hm : W.heap.size ≤ mid) (hm' : mid ≤ W'.heap.size) (h0 : OwnL W' W.heap.size mid C0 z0) (h1 : OwnL W' mid W'.heap.size C1 z1) : TwP q0 y0 q1 y1 q2 W e W' := by
  obtain ⟨rfl, rfl, rfl, rfl, rfl⟩ := h
  exact ⟨C0, e0, C1, e1, mid, he, hx, hm, hm', h0, h1⟩
end

section
variable {t : List (List Int)} {xs : List Int} {m : Int} {us : List Int} {n : Int} {fs : List Int}
theorem ic_no {z : Int} (h : icC t xs m us n fs = z) (hz : z ≠ 0) : qInflateCochain0 t xs m us n fs = 0 ∧ yInflateCochain0 t xs m us n fs = [] ∧ qInflateCochain1 t xs m us n fs = 0 ∧ yInflateCochain1 t xs m us n fs = [] ∧ qInflateCochain2 t xs m us n fs = z := by
  simp [qInflateCochain0, yInflateCochain0, qInflateCochain1, yInflateCochain1, qInflateCochain2, h, hz]
theorem ic_yes {d : Nat} (h : icC t xs m us (d : Int) fs = 0) : qInflateCochain0 t xs m us (d : Int) fs = m ∧ yInflateCochain0 t xs m us (d : Int) fs = (List.range t.length).map (fun i => nth us ((quS t xs).num i)) ∧ qInflateCochain1 t xs m us (d : Int) fs = (d : Int) ∧ yInflateCochain1 t xs m us (d : Int) fs = pbY (fun x => ((quS t xs).num x : Int)) fs t.length (yQuotientOf0 t xs).length d ∧ qInflateCochain2 t xs m us (d : Int) fs = 0 := by
  simp only [qInflateCochain0, yInflateCochain0, qInflateCochain1, yInflateCochain1, qInflateCochain2, h, if_true, Int.toNat_natCast, and_self]
theorem icC_qu {z : Int} (h : quC t xs = z) (hz : z ≠ 0) : icC t xs m us n fs = z := by rw [icC, h, if_neg hz]
theorem icC_no (h : quC t xs = 0) (hg : gmcB (yQuotientOf0 t xs) m us n fs = false) : icC t xs m us n fs = 1 := by rw [icC, h, if_pos rfl, hg, if_neg Bool.false_ne_true]
theorem icC_yes (h : quC t xs = 0) (hg : gmcB (yQuotientOf0 t xs) m us n fs = true) : icC t xs m us n fs = 0 := by rw [icC, h, if_pos rfl, hg, if_pos rfl]
theorem quC_sub (h : quC t xs = 0) : SubX t xs ∧ norB t (bitsK xs xs.length) = true := by
  obtain ⟨h1, h2, h3⟩ := quC_zero h
  exact ⟨subX_code (es := []) (by rw [sgC_nil, if_pos h1, if_pos h2]), h3⟩
theorem quC_of (h : sgC t xs [] = 0) : quC t xs = if norB t (bitsK xs xs.length) = true then 0 else 5 := by
  obtain ⟨h1, h2, _, h4⟩ := sgC_zero h
  rw [quC, setC_yes (grpB_iff.2 h1) h2, if_pos rfl]
  simp [h4]
theorem quC_err {z : Int} (h : sgC t xs [] = z) (hz : z ≠ 0) : quC t xs = z := by
  rw [sgC_nil] at h
  rw [quC]
  split at h
  · rename_i h1
    split at h
    · exact absurd h.symm hz
    · rename_i h2
      rw [if_pos h1, if_neg (fun h3 => h2 h3.1)]
      exact h
  · rename_i h1
    rw [if_neg h1]
    exact h
theorem qu_len (h : quC t xs = 0) : (yQuotientOf0 t xs).length = (quS t xs).fst.length := by rw [(qu_yes h).1, mkT_len]
theorem qu_num (h : quC t xs = 0) {x : Nat} (hx : x < t.length) : (quS t xs).num x < (yQuotientOf0 t xs).length := by
  have hs := (quC_sub h).1
  rw [qu_len h]
  exact (coset_at hs.g hs.s hx).1
theorem inflateCochain_small0 (t : List (List Int)) (xs : List Int) (m : Int) (us : List Int) (n : Int) (fs : List Int) : (yInflateCochain0 t xs m us n fs).length ≤ 1048576 := by
  unfold yInflateCochain0
  split
  · rename_i h
    have hq : quC t xs = 0 := by
      by_cases hq : quC t xs = 0
      · exact hq
      · rw [icC, if_neg hq] at h
        exact h
    have := (quC_sub hq).1.g.n8
    simp
    omega
  · simp
theorem inflateCochain_small1 (t : List (List Int)) (xs : List Int) (m : Int) (us : List Int) (n : Int) (fs : List Int) : (yInflateCochain1 t xs m us n fs).length ≤ 1048576 := by
  unfold yInflateCochain1
  split
  · rename_i h
    by_cases hq : quC t xs = 0
    · rw [icC, if_pos hq] at h
      split at h
      · rename_i hg
        obtain ⟨M, k, rfl, rfl, hMF, hk3, -⟩ := gmc_facts hg
        rw [pbY_len, Int.toNat_natCast]
        have := cellsN_le (quC_sub hq).1.g.n8 (show k ≤ 4 by omega)
        omega
      · cases h
    · rw [icC, if_neg hq] at h
      exact absurd h hq
  · simp
end

end Go.Proofs.YtfnjpbjlikajbaaGreatDoor
