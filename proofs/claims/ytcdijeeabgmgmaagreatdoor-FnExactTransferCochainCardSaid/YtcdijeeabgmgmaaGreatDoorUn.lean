/- Modules and cochains along an inclusion, by the program. -/
import Derived.Test.YtcdijeeabgmgmaaGreatDoorInc
import Derived.Test.YtcdijeeabgmgmaaGreatDoorMw
namespace Go.Proofs.YtcdijeeabgmgmaaGreatDoor
open Go.RowKit Go.Shelf

attribute [local go_sem] Oper.semAt_some

set_option maxHeartbeats 1000000 in
theorem incSource_any (P A L : Option Addr) (p pc n c k c' : Nat) (w : World) :
    Calls Tryz.prog 185 #[.agg #[.slice P p pc, .slice A n c, .slice L k c']] w fun e w' => e = .returned (.agg #[.slice P p pc]) ∧ Ex w w' := by
  have e0 : Ex w ((w.alloc (.cells #[.slice P p pc, .slice A n c, .slice L k c'] 90)).alloc (.cells #[.slice none 0 0] 32)) := ((Ex.refl w).alloc _).alloc _
  have b0 : Has ((w.alloc (.cells #[.slice P p pc, .slice A n c, .slice L k c'] 90)).alloc (.cells #[.slice none 0 0] 32)) (w.heap.size) 90 #[.slice P p pc, .slice A n c, .slice L k c'] := ((Has.newAt (w := w) (e := 90) (cs := #[.slice P p pc, .slice A n c, .slice L k c']) (k := w.heap.size) (by simp)).alloc _)
  have b1 : Has ((w.alloc (.cells #[.slice P p pc, .slice A n c, .slice L k c'] 90)).alloc (.cells #[.slice none 0 0] 32)) (w.heap.size + 1) 32 #[.slice none 0 0] := (Has.newAt (w := (w.alloc (.cells #[.slice P p pc, .slice A n c, .slice L k c'] 90))) (e := 32) (cs := #[.slice none 0 0]) (k := w.heap.size + 1) (by simp))
  have c0 := b0.cell 0
  clear b0 b1 e0
  go_enter Tryz.func185, Tryz.ntmps185
  go_wp2_with fail
  exact bodyPost_ret (v := .agg #[.slice P p pc]) (by simp [results, Tryz.results185, go_sem]) rfl ⟨rfl, ((Ex.refl w).alloc _).alloc _⟩

/-- Which functions the interface's methods are. -/
theorem meth_source (n : Nat) (v : Value) (w : World) : (method (n + 1) 90 v "loop.example/g01363/impl.source").run Tryz.prog w = .ok (185, v) w := by kernel_rfl
theorem meth_image (n : Nat) (v : Value) (w : World) : (method (n + 1) 90 v "loop.example/g01363/impl.image").run Tryz.prog w = .ok (184, v) w := by kernel_rfl

set_option maxHeartbeats 1000000 in
theorem incImage_any (P A L : Option Addr) (p pc n c c' i : Nat) (xs : List Int) (w : World) (hX : IntsW w L xs) (hi : i < xs.length) (_ : xs.length ≤ 8) :
    Calls Tryz.prog 184 #[.agg #[.slice P p pc, .slice A n c, .slice L xs.length c'], .int .i64 (i : Int)] w fun e w' => e = .returned (.int .i64 (nth xs i)) ∧ Ex w w' := by
  obtain ⟨bx, ox, rfl, hbx, hcx⟩ := hX.ints.at_ hi
  have e0 : Ex w (w.alloc (.cells #[.slice P p pc, .slice A n c, .slice (some ⟨bx, ox, none⟩) xs.length c'] 90)) := (Ex.refl w).alloc _
  have b0 : Has (w.alloc (.cells #[.slice P p pc, .slice A n c, .slice (some ⟨bx, ox, none⟩) xs.length c'] 90)) (w.heap.size) 90 #[.slice P p pc, .slice A n c, .slice (some ⟨bx, ox, none⟩) xs.length c'] := (Has.newAt (w := w) (e := 90) (cs := #[.slice P p pc, .slice A n c, .slice (some ⟨bx, ox, none⟩) xs.length c']) (k := w.heap.size) (by simp))
  have hcx0 := (e0.below.cell (p := ⟨bx, ox + i, none⟩) hbx).trans hcx
  have c0 := b0.cell 2
  have HE0 := Lib.hid e0
  have hi0 : (0 : Int) ≤ (i : Int) := by omega
  have hil : (i : Int) < (xs.length : Int) := by omega
  obtain ⟨z, hz⟩ : ∃ z, nth xs i = z := ⟨_, rfl⟩
  rw [hz] at hcx0 ⊢
  clear hX hcx b0 e0 hz
  go_enter Tryz.func184, Tryz.ntmps184
  go_wp2_with fail
  go_ret
  exact ⟨rfl, HE0.out⟩

set_option maxRecDepth 100000 in
set_option maxHeartbeats 4000000 in
theorem mal1_ex (Bm Ba : Nat) (P A L U : Option Addr) (p pc n c c' c1 i : Nat) (m : Int) (us xs : List Int) (w : World) (hM : Has w Ba 52 #[.int .i64 m, .slice U us.length c1]) (hI : Has w Bm 147 #[.iface 90 (.agg #[.slice P p pc, .slice A n c, .slice L xs.length c'])])
    (hU : IntsW w U us) (hX : IntsW w L xs) (hx8 : xs.length ≤ 8) (_ : us.length ≤ 8) (hi : i < xs.length) (hr : InR us.length xs) :
    Calls Tryz.prog 127 #[.int .i64 (i : Int), .pointer (some ⟨Ba, 0, none⟩), .pointer (some ⟨Bm, 0, none⟩)] w fun e w' => e = .returned (.int .i64 (nth us (xN xs i))) ∧ Ex w w' := by
  have HIM := Lib.hid (fun W (he : Ex w W) => incImage_any P A L p pc n c c' i xs W (hX.ex he) hi hx8)
  have hri := hr i hi
  have hxe : nth xs i = (xN xs i : Int) := by unfold xN; omega
  rw [hxe] at HIM hri
  obtain ⟨x, hxx⟩ : ∃ x, xN xs i = x := ⟨_, rfl⟩
  rw [hxx] at HIM hri ⊢
  have hxl : x < us.length := by omega
  obtain ⟨bu, ou, rfl, hbu, hcu⟩ := hU.ints.at_ hxl
  obtain ⟨z, hz⟩ : ∃ z, nth us x = z := ⟨_, rfl⟩
  rw [hz] at hcu ⊢
  have HF := Lib.hid (fun (W : World) (he : Ex w W) => And.intro ((hM.ex he).cell 1) (And.intro ((hI.ex he).cell 0) ((he.below.cell (p := ⟨bu, ou + x, none⟩) hbu).trans hcu)))
  clear hM hI hU hX hr hxe hxx hz hcu
  go_enter Tryz.func127, Tryz.ntmps127
  go_wp2_with fail
  refine Late.region (C := fun w' => w'.cell? ⟨Ba, 1, none⟩ = some (.slice (some ⟨bu, ou, none⟩) us.length c1) ∧ w'.cell? ⟨Bm, 0, none⟩ = some (.iface 90 (.agg #[.slice P p pc, .slice A n c, .slice L xs.length c'])) ∧ w'.cell? ⟨bu, ou + x, none⟩ = some (.int .i64 z)) (fun _ => true) (by kernel_rfl) (HF.out w (Ex.refl w)) (fun hC => ?_)
  refine Late.take (i := 0) (oi := _) (v := ?_) rfl (by kernel_rfl) (by kernel_rfl) (by kernel_rfl) (by kernel_rfl) (fun _ _ _ h => h) (Or.inl ⟨by rfl, ?_⟩) hC ?_
  rotate_left
  · (intro w hSw; (try dsimp only at hSw); go_simp; first | done | with_reducible rfl)
  simp only [Act.put]
  refine Late.take (i := 1) (oi := _) (v := ?_) rfl (by kernel_rfl) (by kernel_rfl) (by kernel_rfl) (by kernel_rfl) (fun _ _ _ h => h) (Or.inl ⟨by rfl, ?_⟩) hC ?_
  rotate_left
  · (intro w hSw; (try dsimp only at hSw); go_simp; first | done | with_reducible rfl)
  simp only [Act.put]
  refine Late.take (i := 2) (oi := _) (v := ?_) rfl (by kernel_rfl) (by kernel_rfl) (by kernel_rfl) (by kernel_rfl) (fun _ _ _ h => h) (Or.inl ⟨by rfl, ?_⟩) hC ?_
  rotate_left
  · (intro w hSw; (try dsimp only at hSw); go_simp; first | done | with_reducible rfl)
  simp only [Act.put]
  refine Late.take (i := 3) (oi := _) (v := ?_) rfl (by kernel_rfl) (by kernel_rfl) (by kernel_rfl) (by kernel_rfl) (fun _ _ _ h => h) (Or.inl ⟨by rfl, ?_⟩) hC ?_
  rotate_left
  · (intro w hSw; (try dsimp only at hSw); go_simp; first | done | with_reducible rfl)
  simp only [Act.put]
  have hme := meth_image 306
  have hen := enters_of Tryz.func184 (by kernel_rfl) rfl
  refine Late.one (i := 4) (o := _) (by kernel_rfl) rfl (fun K' hK' => ?_)
  go_simp
  refine (HIM.out w.drew (Ex.refl w).drew).mono ?_
  rintro e W1 ⟨rfl, he1⟩
  have hx1 : Ex w W1 := (Ex.refl w).drew.trans he1
  have hC1 := HF.out W1 hx1
  have HE1 := Lib.hid hx1
  have hx0 : (0 : Int) ≤ (x : Int) := by omega
  have hxu : (x : Int) < (us.length : Int) := by omega
  refine hK'.out _ _ (fun _ => hC1) (fun _ => ?_)
  clear hK' K' hC he1 hx1 hme hen
  try simp only [Act.put, List.setIfInBounds_toArray, List.set_cons_zero, List.set_cons_succ]
  refine Late.take (i := 5) (oi := _) (v := ?_) rfl (by kernel_rfl) (by kernel_rfl) (by kernel_rfl) (by kernel_rfl) (fun _ _ _ h => h) (Or.inl ⟨by rfl, ?_⟩) hC1 ?_
  rotate_left
  · (intro w hSw; (try dsimp only at hSw); go_simp; first | done | with_reducible rfl)
  simp only [Act.put]
  refine Late.take (i := 6) (oi := _) (v := ?_) rfl (by kernel_rfl) (by kernel_rfl) (by kernel_rfl) (by kernel_rfl) (fun _ _ _ h => h) (Or.inl ⟨by rfl, ?_⟩) hC1 ?_
  rotate_left
  · (intro w hSw; (try dsimp only at hSw); go_simp; first | done | with_reducible rfl)
  simp only [Act.put]
  refine Late.take (i := 7) (oi := _) (v := ?_) rfl (by kernel_rfl) (by kernel_rfl) (by kernel_rfl) (by kernel_rfl) (fun _ _ _ h => h) (Or.inl ⟨by rfl, ?_⟩) hC1 ?_
  rotate_left
  · (intro w hSw; (try dsimp only at hSw); go_simp; first | done | with_reducible rfl)
  simp only [Act.put]
  refine Late.done (by kernel_rfl) ?_ _
  go_wp2_with fail
  go_ret
  exact ⟨rfl, HE1.out⟩

set_option maxRecDepth 100000 in
set_option maxHeartbeats 4000000 in
theorem moduleAlong_any (P A L U : Option Addr) (p pc n c c' c1 : Nat) (m : Int) (us xs : List Int) (w : World)
    (hU : IntsW w U us) (hX : IntsW w L xs) (hp : p = xs.length) (hx8 : xs.length ≤ 8) (hu8 : us.length ≤ 8) (hr : InR us.length xs) :
    Calls Tryz.prog 87 #[.iface 90 (.agg #[.slice P p pc, .slice A n c, .slice L xs.length c']), .agg #[.int .i64 m, .slice U us.length c1]] w fun e w' => ∃ A' n', e = .returned (.agg #[.int .i64 m, .slice A' p n']) ∧ Ex w w' ∧ OwnL w' w.heap.size w'.heap.size A' ((List.range p).map fun i => nth us (xN xs i)) := by
  have e0 : Ex w (((w.alloc (.cells #[.iface 90 (.agg #[.slice P p pc, .slice A n c, .slice L xs.length c'])] 147)).alloc (.cells #[.int .i64 m, .slice U us.length c1] 52)).alloc (.cells #[.int .i64 0, .slice none 0 0] 52)) := (((Ex.refl w).alloc _).alloc _).alloc _
  have b0 : Has (((w.alloc (.cells #[.iface 90 (.agg #[.slice P p pc, .slice A n c, .slice L xs.length c'])] 147)).alloc (.cells #[.int .i64 m, .slice U us.length c1] 52)).alloc (.cells #[.int .i64 0, .slice none 0 0] 52)) (w.heap.size) 147 #[.iface 90 (.agg #[.slice P p pc, .slice A n c, .slice L xs.length c'])] := (((Has.newAt (w := w) (e := 147) (cs := #[.iface 90 (.agg #[.slice P p pc, .slice A n c, .slice L xs.length c'])]) (k := w.heap.size) (by simp)).alloc _).alloc _)
  have b1 : Has (((w.alloc (.cells #[.iface 90 (.agg #[.slice P p pc, .slice A n c, .slice L xs.length c'])] 147)).alloc (.cells #[.int .i64 m, .slice U us.length c1] 52)).alloc (.cells #[.int .i64 0, .slice none 0 0] 52)) (w.heap.size + 1) 52 #[.int .i64 m, .slice U us.length c1] := ((Has.newAt (w := (w.alloc (.cells #[.iface 90 (.agg #[.slice P p pc, .slice A n c, .slice L xs.length c'])] 147))) (e := 52) (cs := #[.int .i64 m, .slice U us.length c1]) (k := w.heap.size + 1) (by simp)).alloc _)
  have b2 : Has (((w.alloc (.cells #[.iface 90 (.agg #[.slice P p pc, .slice A n c, .slice L xs.length c'])] 147)).alloc (.cells #[.int .i64 m, .slice U us.length c1] 52)).alloc (.cells #[.int .i64 0, .slice none 0 0] 52)) (w.heap.size + 1 + 1) 52 #[.int .i64 0, .slice none 0 0] := (Has.newAt (w := ((w.alloc (.cells #[.iface 90 (.agg #[.slice P p pc, .slice A n c, .slice L xs.length c'])] 147)).alloc (.cells #[.int .i64 m, .slice U us.length c1] 52))) (e := 52) (cs := #[.int .i64 0, .slice none 0 0]) (k := w.heap.size + 1 + 1) (by simp))
  have hmf : ∀ (fn : Fn) (first cap : Array Value) (w : World), (Instr.makeFunc fn first cap).run Tryz.prog w = .ok (.func fn first cap) w := fun _ _ _ _ => rfl
  have HMW := Lib.hid (fun W (he : Ex (((w.alloc (.cells #[.iface 90 (.agg #[.slice P p pc, .slice A n c, .slice L xs.length c'])] 147)).alloc (.cells #[.int .i64 m, .slice U us.length c1] 52)).alloc (.cells #[.int .i64 0, .slice none 0 0] 52)) W) => moduleWith_any P p pc m 127 #[.pointer (some ⟨w.heap.size + 1, 0, none⟩), .pointer (some ⟨w.heap.size, 0, none⟩)] (fun i => nth us (xN xs i)) W (by omega)
    (enters_of Tryz.func127 (by kernel_rfl) rfl)
    (fun W' he' i hi => mal1_ex w.heap.size (w.heap.size + 1) P A L U p pc n c c' c1 i m us xs W' (b1.ex (he.trans he')) (b0.ex (he.trans he')) (hU.ex (e0.trans (he.trans he'))) (hX.ex (e0.trans (he.trans he'))) hx8 hu8 (by omega) hr))
  have HSO := Lib.hid (fun W => incSource_any P A L p pc n c xs.length c' W)
  obtain ⟨ys, hys⟩ : ∃ ys, (List.range p).map (fun i => nth us (xN xs i)) = ys := ⟨_, rfl⟩
  rw [hys] at HMW ⊢
  have HB0 := Lib.hid b0
  have HB1 := Lib.hid b1
  have HB2 := Lib.hid b2
  have HE0 := Lib.hid e0
  have hlt := b2.lt
  have hC0 := And.intro (b0.cell 0) (b1.cell 0)
  clear hU hX hr hys hp hx8 hu8 b0 b1 b2 e0
  have hme := meth_source 306
  have hen := enters_of Tryz.func185 (by kernel_rfl) rfl
  go_enter Tryz.func87, Tryz.ntmps87
  go_wp2_with fail
  generalize (((w.alloc (.cells #[.iface 90 (.agg #[.slice P p pc, .slice A n c, .slice L xs.length c'])] 147)).alloc (.cells #[.int .i64 m, .slice U us.length c1] 52)).alloc (.cells #[.int .i64 0, .slice none 0 0] 52)) = W0 at *
  refine Late.region (C := fun w' => w'.cell? ⟨w.heap.size, 0, none⟩ = some (.iface 90 (.agg #[.slice P p pc, .slice A n c, .slice L xs.length c'])) ∧ w'.cell? ⟨w.heap.size + 1, 0, none⟩ = some (.int .i64 m)) (fun j => decide (j < 6)) (by kernel_rfl) hC0 (fun hC => ?_)
  refine Late.take (i := 0) (oi := _) (v := ?_) rfl (by kernel_rfl) (by kernel_rfl) (by kernel_rfl) (by kernel_rfl) (fun _ _ _ h => h) (Or.inl ⟨by rfl, ?_⟩) hC ?_
  rotate_left
  · (intro w hSw; (try dsimp only at hSw); go_simp; first | done | with_reducible rfl)
  simp only [Act.put]
  refine Late.take (i := 2) (oi := _) (v := ?_) rfl (by kernel_rfl) (by kernel_rfl) (by kernel_rfl) (by kernel_rfl) (fun _ _ _ h => h) (Or.inl ⟨by rfl, ?_⟩) hC ?_
  rotate_left
  · (intro w hSw; (try dsimp only at hSw); go_simp; first | done | with_reducible rfl)
  simp only [Act.put]
  refine Late.take (i := 3) (oi := _) (v := ?_) rfl (by kernel_rfl) (by kernel_rfl) (by kernel_rfl) (by kernel_rfl) (fun _ _ _ h => h) (Or.inl ⟨by rfl, ?_⟩) hC ?_
  rotate_left
  · (intro w hSw; (try dsimp only at hSw); go_simp; first | done | with_reducible rfl)
  simp only [Act.put]
  refine Late.take (i := 4) (oi := _) (v := ?_) rfl (by kernel_rfl) (by kernel_rfl) (by kernel_rfl) (by kernel_rfl) (fun _ _ _ h => h) (Or.inl ⟨by rfl, ?_⟩) hC ?_
  rotate_left
  · (intro w hSw; (try dsimp only at hSw); go_simp; first | done | with_reducible rfl)
  simp only [Act.put]
  refine Late.one (i := 1) (o := _) (by kernel_rfl) rfl (fun K' hK' => ?_)
  go_simp
  refine (HSO.out W0.drew).mono ?_
  rintro e W1 ⟨rfl, he1⟩
  have hx1 : Ex W0 W1 := (Ex.refl W0).drew.trans he1
  have hC1 := And.intro ((HB0.out.ex hx1).cell 0) ((HB1.out.ex hx1).cell 0)
  have HX1 := Lib.hid hx1
  refine hK'.out _ _ (fun _ => hC1) (fun _ => ?_)
  clear hK' K' hC hC0 he1 hx1
  try simp only [Act.put, List.setIfInBounds_toArray, List.set_cons_zero, List.set_cons_succ]
  refine Late.one (i := 5) (o := _) (by kernel_rfl) rfl (fun K' hK' => ?_)
  go_simp
  refine (HMW.out W1 HX1.out).mono ?_
  rintro e W2 ⟨A', n', rfl, he2, ho2⟩
  have hx2 := HX1.out.trans he2
  have hC2 := And.intro ((HB0.out.ex hx2).cell 0) ((HB1.out.ex hx2).cell 0)
  have HB22 := Lib.hid (HB2.out.ex hx2)
  have k0 := HB22.out.cell 0
  have k1 := HB22.out.cell 1
  have f0 := HB22.out.free 0
  have f1 := HB22.out.free 1
  have HE2 := Lib.hid (HE0.out.trans hx2)
  have HO2 := Lib.hid ho2
  have hlt1 : w.heap.size + 1 + 1 < W1.heap.size := Nat.lt_of_lt_of_le hlt HX1.out.size
  have hlw1 : w.heap.size ≤ W1.heap.size := by omega
  refine hK'.out _ _ (fun _ => hC2) (fun _ => ?_)
  clear hK' K' hC1 he2 ho2 hx2
  try simp only [Act.put, List.setIfInBounds_toArray, List.set_cons_zero, List.set_cons_succ]
  refine Late.one (i := 6) (o := _) (by kernel_rfl) rfl (fun K' hK' => ?_)
  go_simp
  refine hK'.out _ _ (fun h => by cases h) (fun _ => ?_)
  clear hK' K' hC2
  try simp only [Act.put, List.setIfInBounds_toArray, List.set_cons_zero, List.set_cons_succ]
  refine Late.done (by kernel_rfl) ?_ _
  go_wp2_with fail
  have H4 := HB22.out.put2 (u := .int .i64 m) (v := .slice A' p n')
  have c4 := H4.cell 0
  have c4' := H4.cell 1
  refine bodyPost_ret (v := .agg #[.int .i64 m, .slice A' p n']) (by simp [results, Tryz.results87, go_sem, c4, c4']) rfl ⟨A', n', rfl, (HE2.out.setCell (by show w.heap.size ≤ w.heap.size + 1 + 1; omega) _).setCell (by show w.heap.size ≤ w.heap.size + 1 + 1; omega) _, ?_⟩
  exact ((HO2.out.above (Only.set _ _ _ _) hlt1).above (Only.set _ _ _ _) hlt1).mono hlw1 (by simp) (Nat.le_refl _)

end Go.Proofs.YtcdijeeabgmgmaaGreatDoor
