/- Conjugations behind the interface; the code of a cochain of a subgroup's module, by the program. -/
import Derived.Test.YtfnjpbjlikajbaaGreatDoorNa
import Derived.Test.YtfnjpbjlikajbaaGreatDoorOa
namespace Go.Proofs.YtfnjpbjlikajbaaGreatDoor
open Go.RowKit Go.Shelf

attribute [local go_sem] Oper.semAt_some

set_option maxHeartbeats 1000000 in
theorem cjgSource_any (P A L Q B M : Option Addr) (p pc n c k c' q qc o d r d' : Nat) (b : Int) (w : World) :
    Calls Tryz.prog 169 #[.agg #[.slice P p pc, .slice A n c, .slice L k c', .slice Q q qc, .slice B o d, .slice M r d', .int .i64 b]] w fun e w' => e = .returned (.agg #[.slice P p pc]) ∧ Ex w w' := by
  have e0 : Ex w ((w.alloc (.cells #[.slice P p pc, .slice A n c, .slice L k c', .slice Q q qc, .slice B o d, .slice M r d', .int .i64 b] 91)).alloc (.cells #[.slice none 0 0] 36)) := ((Ex.refl w).alloc _).alloc _
  have b0 : Has ((w.alloc (.cells #[.slice P p pc, .slice A n c, .slice L k c', .slice Q q qc, .slice B o d, .slice M r d', .int .i64 b] 91)).alloc (.cells #[.slice none 0 0] 36)) (w.heap.size) 91 #[.slice P p pc, .slice A n c, .slice L k c', .slice Q q qc, .slice B o d, .slice M r d', .int .i64 b] := ((Has.newAt (w := w) (e := 91) (cs := #[.slice P p pc, .slice A n c, .slice L k c', .slice Q q qc, .slice B o d, .slice M r d', .int .i64 b]) (k := w.heap.size) (by simp)).alloc _)
  have b1 : Has ((w.alloc (.cells #[.slice P p pc, .slice A n c, .slice L k c', .slice Q q qc, .slice B o d, .slice M r d', .int .i64 b] 91)).alloc (.cells #[.slice none 0 0] 36)) (w.heap.size + 1) 36 #[.slice none 0 0] := (Has.newAt (w := (w.alloc (.cells #[.slice P p pc, .slice A n c, .slice L k c', .slice Q q qc, .slice B o d, .slice M r d', .int .i64 b] 91))) (e := 36) (cs := #[.slice none 0 0]) (k := w.heap.size + 1) (by simp))
  have c0 := b0.cell 0
  clear b0 b1 e0
  go_enter Tryz.func169, Tryz.ntmps169
  go_wp2_with fail
  exact bodyPost_ret (v := .agg #[.slice P p pc]) (by simp [results, Tryz.results169, go_sem]) rfl ⟨rfl, ((Ex.refl w).alloc _).alloc _⟩
set_option maxHeartbeats 1000000 in
theorem cjgTarget_any (P A L Q B M : Option Addr) (p pc n c k c' q qc o d r d' : Nat) (b : Int) (w : World) :
    Calls Tryz.prog 170 #[.agg #[.slice P p pc, .slice A n c, .slice L k c', .slice Q q qc, .slice B o d, .slice M r d', .int .i64 b]] w fun e w' => e = .returned (.agg #[.slice Q q qc]) ∧ Ex w w' := by
  have e0 : Ex w ((w.alloc (.cells #[.slice P p pc, .slice A n c, .slice L k c', .slice Q q qc, .slice B o d, .slice M r d', .int .i64 b] 91)).alloc (.cells #[.slice none 0 0] 36)) := ((Ex.refl w).alloc _).alloc _
  have b0 : Has ((w.alloc (.cells #[.slice P p pc, .slice A n c, .slice L k c', .slice Q q qc, .slice B o d, .slice M r d', .int .i64 b] 91)).alloc (.cells #[.slice none 0 0] 36)) (w.heap.size) 91 #[.slice P p pc, .slice A n c, .slice L k c', .slice Q q qc, .slice B o d, .slice M r d', .int .i64 b] := ((Has.newAt (w := w) (e := 91) (cs := #[.slice P p pc, .slice A n c, .slice L k c', .slice Q q qc, .slice B o d, .slice M r d', .int .i64 b]) (k := w.heap.size) (by simp)).alloc _)
  have b1 : Has ((w.alloc (.cells #[.slice P p pc, .slice A n c, .slice L k c', .slice Q q qc, .slice B o d, .slice M r d', .int .i64 b] 91)).alloc (.cells #[.slice none 0 0] 36)) (w.heap.size + 1) 36 #[.slice none 0 0] := (Has.newAt (w := (w.alloc (.cells #[.slice P p pc, .slice A n c, .slice L k c', .slice Q q qc, .slice B o d, .slice M r d', .int .i64 b] 91))) (e := 36) (cs := #[.slice none 0 0]) (k := w.heap.size + 1) (by simp))
  have c0 := b0.cell 3
  clear b0 b1 e0
  go_enter Tryz.func170, Tryz.ntmps170
  go_wp2_with fail
  exact bodyPost_ret (v := .agg #[.slice Q q qc]) (by simp [results, Tryz.results170, go_sem]) rfl ⟨rfl, ((Ex.refl w).alloc _).alloc _⟩
theorem meth_csource (n : Nat) (v : Value) (w : World) : (method (n + 1) 91 v "loop.example/g01363/impl.source").run Tryz.prog w = .ok (169, v) w := by kernel_rfl
theorem meth_ctarget (n : Nat) (v : Value) (w : World) : (method (n + 1) 91 v "loop.example/g01363/impl.target").run Tryz.prog w = .ok (170, v) w := by kernel_rfl
theorem meth_cimage (n : Nat) (v : Value) (w : World) : (method (n + 1) 91 v "loop.example/g01363/impl.image").run Tryz.prog w = .ok (168, v) w := by kernel_rfl

set_option maxRecDepth 100000 in
set_option maxHeartbeats 4000000 in
theorem cjgImage_any (P A L Q M : Option Addr) (p pc c c' q qc d' b x y : Nat) (t : List (List Int)) (xs ys : List Int) (w : World) (hR : RwsW w A t) (h : SubX t xs) (hX : IntsW w M xs) (hY : IntsW w L ys) (hy8 : ys.length ≤ 8) (hx : x < ys.length) (hyx : nth ys x = (y : Int)) (hyl : y < t.length) (hb : b < t.length) (hz : con t y b ∈ elsL xs) :
    Calls Tryz.prog 168 #[.agg #[.slice P p pc, .slice A t.length c, .slice L ys.length c', .slice Q q qc, .slice A t.length c, .slice M xs.length d', .int .i64 (b : Int)], .int .i64 (x : Int)] w fun e w' => e = .returned (.int .i64 (plN xs (con t y b) : Int)) ∧ Ex w w' := by
  have e0 : Ex w (w.alloc (.cells #[.slice P p pc, .slice A t.length c, .slice L ys.length c', .slice Q q qc, .slice A t.length c, .slice M xs.length d', .int .i64 (b : Int)] 91)) := (Ex.refl w).alloc _
  have b0 : Has (w.alloc (.cells #[.slice P p pc, .slice A t.length c, .slice L ys.length c', .slice Q q qc, .slice A t.length c, .slice M xs.length d', .int .i64 (b : Int)] 91)) (w.heap.size) 91 #[.slice P p pc, .slice A t.length c, .slice L ys.length c', .slice Q q qc, .slice A t.length c, .slice M xs.length d', .int .i64 (b : Int)] := (Has.newAt (w := w) (e := 91) (cs := #[.slice P p pc, .slice A t.length c, .slice L ys.length c', .slice Q q qc, .slice A t.length c, .slice M xs.length d', .int .i64 (b : Int)]) (k := w.heap.size) (by simp))
  have HIM := Lib.hid (fun W (he : Ex w W) => incImage_any P A L p pc t.length c c' x ys W (hY.ex he) hx hy8)
  rw [hyx] at HIM
  have HCO := Lib.hid (fun W (he : Ex w W) => conjugateOf_any A t c y b W (hR.ex he) h.g hyl hb)
  have HNU := Lib.hid (fun W (he : Ex w W) => number_any Q A M q qc t.length c d' (con t y b) t xs W h (hX.ex he) hz)
  have HE0 := Lib.hid e0
  have HB0 := Lib.hid b0
  obtain ⟨z, hzz⟩ : ∃ z, con t y b = z := ⟨_, rfl⟩
  obtain ⟨r, hr⟩ : ∃ r, plN xs z = r := ⟨_, rfl⟩
  rw [hzz] at HCO HNU ⊢
  rw [hr] at HNU ⊢
  have HCF := Lib.hid (fun (W : World) (he : Ex (w.alloc (.cells #[.slice P p pc, .slice A t.length c, .slice L ys.length c', .slice Q q qc, .slice A t.length c, .slice M xs.length d', .int .i64 (b : Int)] 91)) W) => And.intro ((HB0.out.ex he).cell 0) (And.intro ((HB0.out.ex he).cell 1) (And.intro ((HB0.out.ex he).cell 2) (And.intro ((HB0.out.ex he).cell 3) (And.intro ((HB0.out.ex he).cell 4) (And.intro ((HB0.out.ex he).cell 5) ((HB0.out.ex he).cell 6)))))))
  have hC0 := HCF.out _ (Ex.refl _)
  clear hR h hX hY hy8 hx hyx hyl hb hz hzz hr b0 e0
  go_enter Tryz.func168, Tryz.ntmps168
  go_wp2_with fail
  generalize (w.alloc (.cells #[.slice P p pc, .slice A t.length c, .slice L ys.length c', .slice Q q qc, .slice A t.length c, .slice M xs.length d', .int .i64 (b : Int)] 91)) = W0 at *
  refine Late.region (C := fun w' => w'.cell? ⟨w.heap.size, 0, none⟩ = some (.slice P p pc) ∧ w'.cell? ⟨w.heap.size, 1, none⟩ = some (.slice A t.length c) ∧ w'.cell? ⟨w.heap.size, 2, none⟩ = some (.slice L ys.length c') ∧ w'.cell? ⟨w.heap.size, 3, none⟩ = some (.slice Q q qc) ∧ w'.cell? ⟨w.heap.size, 4, none⟩ = some (.slice A t.length c) ∧ w'.cell? ⟨w.heap.size, 5, none⟩ = some (.slice M xs.length d') ∧ w'.cell? ⟨w.heap.size, 6, none⟩ = some (.int .i64 (b : Int))) (fun _ => true) (by kernel_rfl) hC0 (fun hC => ?_)
  refine Late.take (i := 0) (oi := _) (v := ?_) rfl (by kernel_rfl) (by kernel_rfl) (by kernel_rfl) (by kernel_rfl) (fun _ _ _ h => h) (Or.inl ⟨by rfl, ?_⟩) hC ?_
  rotate_left
  · (intro w hSw; (try dsimp only at hSw); go_simp; first | done | with_reducible rfl)
  simp only [Act.put]
  refine Late.take (i := 1) (oi := _) (v := ?_) rfl (by kernel_rfl) (by kernel_rfl) (by kernel_rfl) (by kernel_rfl) (fun _ _ _ h => h) (Or.inl ⟨by rfl, ?_⟩) hC ?_
  rotate_left
  · (intro w hSw; (try dsimp only at hSw); go_simp; first | done | with_reducible rfl)
  simp only [Act.put]
  refine Late.take (i := 2) (oi := _) (v := ?_) rfl (by kernel_rfl) (by kernel_rfl) (by kernel_rfl) (by kernel_rfl) (fun _ _ _ h => h) (Or.inl ⟨by rfl, ?_⟩) hC ?_
  rotate_left
  · (intro w hSw; (try dsimp only at hSw); go_simp; first | done | with_reducible rfl)
  simp only [Act.put]
  refine Late.take (i := 3) (oi := _) (v := ?_) rfl (by kernel_rfl) (by kernel_rfl) (by kernel_rfl) (by kernel_rfl) (fun _ _ _ h => h) (Or.inl ⟨by rfl, ?_⟩) hC ?_
  rotate_left
  · (intro w hSw; (try dsimp only at hSw); go_simp; first | done | with_reducible rfl)
  simp only [Act.put]
  refine Late.take (i := 4) (oi := _) (v := ?_) rfl (by kernel_rfl) (by kernel_rfl) (by kernel_rfl) (by kernel_rfl) (fun _ _ _ h => h) (Or.inl ⟨by rfl, ?_⟩) hC ?_
  rotate_left
  · (intro w hSw; (try dsimp only at hSw); go_simp; first | done | with_reducible rfl)
  simp only [Act.put]
  refine Late.take (i := 5) (oi := _) (v := ?_) rfl (by kernel_rfl) (by kernel_rfl) (by kernel_rfl) (by kernel_rfl) (fun _ _ _ h => h) (Or.inl ⟨by rfl, ?_⟩) hC ?_
  rotate_left
  · (intro w hSw; (try dsimp only at hSw); go_simp; first | done | with_reducible rfl)
  simp only [Act.put]
  refine Late.take (i := 6) (oi := _) (v := ?_) rfl (by kernel_rfl) (by kernel_rfl) (by kernel_rfl) (by kernel_rfl) (fun _ _ _ h => h) (Or.inl ⟨by rfl, ?_⟩) hC ?_
  rotate_left
  · (intro w hSw; (try dsimp only at hSw); go_simp; first | done | with_reducible rfl)
  simp only [Act.put]
  refine Late.take (i := 7) (oi := _) (v := ?_) rfl (by kernel_rfl) (by kernel_rfl) (by kernel_rfl) (by kernel_rfl) (fun _ _ _ h => h) (Or.inl ⟨by rfl, ?_⟩) hC ?_
  rotate_left
  · (intro w hSw; (try dsimp only at hSw); go_simp; first | done | with_reducible rfl)
  simp only [Act.put]
  refine Late.take (i := 9) (oi := _) (v := ?_) rfl (by kernel_rfl) (by kernel_rfl) (by kernel_rfl) (by kernel_rfl) (fun _ _ _ h => h) (Or.inl ⟨by rfl, ?_⟩) hC ?_
  rotate_left
  · (intro w hSw; (try dsimp only at hSw); go_simp; first | done | with_reducible rfl)
  simp only [Act.put]
  refine Late.take (i := 10) (oi := _) (v := ?_) rfl (by kernel_rfl) (by kernel_rfl) (by kernel_rfl) (by kernel_rfl) (fun _ _ _ h => h) (Or.inl ⟨by rfl, ?_⟩) hC ?_
  rotate_left
  · (intro w hSw; (try dsimp only at hSw); go_simp; first | done | with_reducible rfl)
  simp only [Act.put]
  clear hC hC0
  refine Late.one (i := 8) (o := _) (by kernel_rfl) rfl (fun K' hK' => ?_)
  go_simp
  refine (HIM.out W0.drew HE0.out.drew).mono ?_
  rintro e W1 ⟨rfl, he1⟩
  have HX1 := Lib.hid ((Ex.refl W0).drew.trans he1)
  refine hK'.out _ _ (fun _ => HCF.out W1 HX1.out) (fun _ => ?_)
  clear hK' K' he1
  try simp only [Act.put, List.setIfInBounds_toArray, List.set_cons_zero, List.set_cons_succ]
  refine Late.one (i := 11) (o := _) (by kernel_rfl) rfl (fun K' hK' => ?_)
  go_simp
  refine (HCO.out W1 (HE0.out.trans HX1.out)).mono ?_
  rintro e W2 ⟨rfl, he2⟩
  have HX2 := Lib.hid (HX1.out.trans he2)
  refine hK'.out _ _ (fun _ => HCF.out W2 HX2.out) (fun _ => ?_)
  clear hK' K' he2
  try simp only [Act.put, List.setIfInBounds_toArray, List.set_cons_zero, List.set_cons_succ]
  refine Late.one (i := 12) (o := _) (by kernel_rfl) rfl (fun K' hK' => ?_)
  go_simp
  refine (HNU.out W2 (HE0.out.trans HX2.out)).mono ?_
  rintro e W3 ⟨rfl, he3⟩
  have HX3 := Lib.hid (HX2.out.trans he3)
  have HE3 := Lib.hid (HE0.out.trans HX3.out)
  have hC3 := HCF.out W3 HX3.out
  refine hK'.out _ _ (fun _ => hC3) (fun _ => ?_)
  clear hK' K' he3
  try simp only [Act.put, List.setIfInBounds_toArray, List.set_cons_zero, List.set_cons_succ]
  refine Late.take (i := 13) (oi := _) (v := ?_) rfl (by kernel_rfl) (by kernel_rfl) (by kernel_rfl) (by kernel_rfl) (fun _ _ _ h => h) (Or.inl ⟨by rfl, ?_⟩) hC3 ?_
  rotate_left
  · (intro w hSw; (try dsimp only at hSw); go_simp; first | done | with_reducible rfl)
  simp only [Act.put]
  refine Late.done (by kernel_rfl) ?_ _
  go_wp2_with fail
  go_ret
  exact ⟨rfl, HE3.out⟩

set_option maxRecDepth 100000 in
set_option maxHeartbeats 4000000 in
theorem subgroupCochainCode_any (A U L F E : Option Addr) (t : List (List Int)) (m : Int) (us xs : List Int) (n : Int) (fs es : List Int) (c c1 c2 c3 c4 : Nat) (w : World) (hR : RwsW w A t) (hU : IntsW w U us) (hX : IntsW w L xs) (hF : IntsW w F fs) (hY : IntsW w E es) (hs : SmallT t) (hu : us.length ≤ 1048576) (hx : xs.length ≤ 1048576) (hf : fs.length ≤ 1048576) (hy : es.length ≤ 1048576) (hT : TabL w) :
    Calls Tryz.prog 63 #[.agg #[.slice A t.length c], .agg #[.int .i64 m, .slice U us.length c1], .slice L xs.length c2, .agg #[.int .i64 n, .slice F fs.length c3], .slice E es.length c4] w fun e w' => e = .returned (.int .i64 (scC t m us xs n fs es)) ∧ Ex w w' := by
  have e0 : Ex w (((w.alloc (.cells #[.slice A t.length c] 36)).alloc (.cells #[.int .i64 m, .slice U us.length c1] 38)).alloc (.cells #[.int .i64 n, .slice F fs.length c3] 33)) := (((Ex.refl w).alloc _).alloc _).alloc _
  have b0 : Has (((w.alloc (.cells #[.slice A t.length c] 36)).alloc (.cells #[.int .i64 m, .slice U us.length c1] 38)).alloc (.cells #[.int .i64 n, .slice F fs.length c3] 33)) (w.heap.size) 36 #[.slice A t.length c] := (((Has.newAt (w := w) (e := 36) (cs := #[.slice A t.length c]) (k := w.heap.size) (by simp)).alloc _).alloc _)
  have b1 : Has (((w.alloc (.cells #[.slice A t.length c] 36)).alloc (.cells #[.int .i64 m, .slice U us.length c1] 38)).alloc (.cells #[.int .i64 n, .slice F fs.length c3] 33)) (w.heap.size + 1) 38 #[.int .i64 m, .slice U us.length c1] := ((Has.newAt (w := (w.alloc (.cells #[.slice A t.length c] 36))) (e := 38) (cs := #[.int .i64 m, .slice U us.length c1]) (k := w.heap.size + 1) (by simp)).alloc _)
  have b2 : Has (((w.alloc (.cells #[.slice A t.length c] 36)).alloc (.cells #[.int .i64 m, .slice U us.length c1] 38)).alloc (.cells #[.int .i64 n, .slice F fs.length c3] 33)) (w.heap.size + 1 + 1) 33 #[.int .i64 n, .slice F fs.length c3] := (Has.newAt (w := ((w.alloc (.cells #[.slice A t.length c] 36)).alloc (.cells #[.int .i64 m, .slice U us.length c1] 38))) (e := 33) (cs := #[.int .i64 n, .slice F fs.length c3]) (k := w.heap.size + 1 + 1) (by simp))
  have HMG := Lib.hid (fun W (he : Ex w W) => subgroupModuleCode_any A U L E t m us xs es c c1 c2 c4 W (hR.ex he) (hU.ex he) (hX.ex he) (hY.ex he) hs hu hx hy (hT.ex he))
  have k0 := b0.cell 0
  have k1 := b1.cell 0
  have k1' := b1.cell 1
  by_cases hz : mgE t m us xs es = 0
  · obtain ⟨M, rfl, hMF, hsx, -⟩ := mgE_zero hz
    have HIN := Lib.hid (fun W (he : Ex w W) => inclusionOf_any A L t xs c c2 W (hR.ex he) (hX.ex he) hsx)
    have hN8 := hMF.g.n8
    have hul := hMF.len
    have HMA := Lib.hid (fun (W : World) (R : Nat) (he : Ex w W) => moduleAlong_any (some ⟨R, 0, none⟩) A L U xs.length xs.length t.length c c2 c1 (M : Int) us xs W (hU.ex he) (hX.ex he) rfl hsx.len8 (by omega) (fun i hi => by have := hsx.rng hi; omega))
    have HFM := Lib.hid (fun (W : World) (P A' : Option Addr) (q n' : Nat) (he : Ex w W) => fitsModule_any P A' F (grT t xs) M xs n fs q n' c3 W (by rw [grT_len]; exact hsx.pos) (by rw [grT_len]; exact hsx.len8) hMF.m12 (hF.ex he) hf)
    rw [grT_len] at HFM
    have HQ : Hid (scC t (M : Int) us xs n fs es = if cocB xs.length (M : Int) n fs = true then 0 else 1) := Lib.hid (by rw [scC, if_pos hz])
    obtain ⟨b, hb⟩ : ∃ b, cocB xs.length (M : Int) n fs = b := ⟨_, rfl⟩
    rw [hb] at HQ HFM
    rw [hz] at HMG
    clear hz hMF hsx hN8 hul hb hR hU hX hF hY hs hu hx hf hy hT
    go_enter Tryz.func63, Tryz.ntmps63
    go_wp2_with fail
    generalize (((w.alloc (.cells #[.slice A t.length c] 36)).alloc (.cells #[.int .i64 (M : Int), .slice U us.length c1] 38)).alloc (.cells #[.int .i64 n, .slice F fs.length c3] 33)) = W0 at *
    refine (HMG.out W0 e0).mono ?_
    rintro e W1 ⟨rfl, he1⟩
    have HE1 := Lib.hid (e0.trans he1)
    have HB0 := Lib.hid (b0.ex he1)
    have HB1 := Lib.hid (b1.ex he1)
    have HB2 := Lib.hid (b2.ex he1)
    have q0 := HB0.out.cell 0
    clear b0 b1 b2 e0 he1 k0 k1 k1'
    go_wp2_with fail
    refine (HIN.out W1 HE1.out).mono ?_
    rintro e W2 ⟨G, R, rfl, he2, -, -, -, -⟩
    obtain ⟨s, hs⟩ : ∃ s, W2.heap.size = s := ⟨_, rfl⟩
    have ea := he2.trans (Ex.new W2 (.cells #[.slice (some ⟨R, 0, none⟩) xs.length xs.length, .slice A t.length c, .slice L xs.length c2] 67))
    have HE3 := Lib.hid (HE1.out.trans ea)
    have HB13 := Lib.hid (HB1.out.ex ea)
    have HB23 := Lib.hid (HB2.out.ex ea)
    have HI3 : Hid (Has (W2.alloc (.cells #[.slice (some ⟨R, 0, none⟩) xs.length xs.length, .slice A t.length c, .slice L xs.length c2] 67)) s 67 #[.slice (some ⟨R, 0, none⟩) xs.length xs.length, .slice A t.length c, .slice L xs.length c2]) := Lib.hid (Has.newAt hs)
    clear he2 ea q0
    go_upto_region 5 with (fail)
    simp only [hs] at *
    clear hs
    generalize W2.alloc (.cells #[.slice (some ⟨R, 0, none⟩) xs.length xs.length, .slice A t.length c, .slice L xs.length c2] 67) = W3 at *
    have HCF := Lib.hid (fun (W : World) (he : Ex W3 W) => And.intro ((HI3.out.ex he).cell 0) (And.intro ((HI3.out.ex he).cell 1) (And.intro ((HI3.out.ex he).cell 2) (And.intro ((HB13.out.ex he).cell 0) (And.intro ((HB13.out.ex he).cell 1) (And.intro ((HB23.out.ex he).cell 0) ((HB23.out.ex he).cell 1)))))))
    have hC0 := HCF.out W3 (Ex.refl _)
    refine Late.region (C := fun w' => w'.cell? ⟨s, 0, none⟩ = some (.slice (some ⟨R, 0, none⟩) xs.length xs.length) ∧ w'.cell? ⟨s, 1, none⟩ = some (.slice A t.length c) ∧ w'.cell? ⟨s, 2, none⟩ = some (.slice L xs.length c2) ∧ w'.cell? ⟨w.heap.size + 1, 0, none⟩ = some (.int .i64 (M : Int)) ∧ w'.cell? ⟨w.heap.size + 1, 1, none⟩ = some (.slice U us.length c1) ∧ w'.cell? ⟨w.heap.size + 1 + 1, 0, none⟩ = some (.int .i64 n) ∧ w'.cell? ⟨w.heap.size + 1 + 1, 1, none⟩ = some (.slice F fs.length c3)) (fun _ => true) (by kernel_rfl) hC0 (fun hC => ?_)
    refine Late.take (i := 0) (oi := _) (v := ?_) rfl (by kernel_rfl) (by kernel_rfl) (by kernel_rfl) (by kernel_rfl) (fun _ _ _ h => h) (Or.inl ⟨by rfl, ?_⟩) hC ?_
    rotate_left
    · (intro w hSw; (try dsimp only at hSw); go_simp; first | done | with_reducible rfl)
    simp only [Act.put]
    refine Late.take (i := 1) (oi := _) (v := ?_) rfl (by kernel_rfl) (by kernel_rfl) (by kernel_rfl) (by kernel_rfl) (fun _ _ _ h => h) (Or.inl ⟨by rfl, ?_⟩) hC ?_
    rotate_left
    · (intro w hSw; (try dsimp only at hSw); go_simp; first | done | with_reducible rfl)
    simp only [Act.put]
    refine Late.take (i := 2) (oi := _) (v := ?_) rfl (by kernel_rfl) (by kernel_rfl) (by kernel_rfl) (by kernel_rfl) (fun _ _ _ h => h) (Or.inl ⟨by rfl, ?_⟩) hC ?_
    rotate_left
    · (intro w hSw; (try dsimp only at hSw); go_simp; first | done | with_reducible rfl)
    simp only [Act.put]
    refine Late.take (i := 3) (oi := _) (v := ?_) rfl (by kernel_rfl) (by kernel_rfl) (by kernel_rfl) (by kernel_rfl) (fun _ _ _ h => h) (Or.inl ⟨by rfl, ?_⟩) hC ?_
    rotate_left
    · (intro w hSw; (try dsimp only at hSw); go_simp; first | done | with_reducible rfl)
    simp only [Act.put]
    refine Late.take (i := 4) (oi := _) (v := ?_) rfl (by kernel_rfl) (by kernel_rfl) (by kernel_rfl) (by kernel_rfl) (fun _ _ _ h => h) (Or.inl ⟨by rfl, ?_⟩) hC ?_
    rotate_left
    · (intro w hSw; (try dsimp only at hSw); go_simp; first | done | with_reducible rfl)
    simp only [Act.put]
    refine Late.take (i := 6) (oi := _) (v := ?_) rfl (by kernel_rfl) (by kernel_rfl) (by kernel_rfl) (by kernel_rfl) (fun _ _ _ h => h) (Or.inl ⟨by rfl, ?_⟩) hC ?_
    rotate_left
    · (intro w hSw; (try dsimp only at hSw); go_simp; first | done | with_reducible rfl)
    simp only [Act.put]
    clear hC hC0
    refine Late.one (i := 5) (o := _) (by kernel_rfl) rfl (fun K' hK' => ?_)
    go_simp
    refine (HMA.out W3.drew R HE3.out.drew).mono ?_
    rintro e W4 ⟨A', n', rfl, he4, -⟩
    have HX4 := Lib.hid ((Ex.refl W3).drew.trans he4)
    refine hK'.out _ _ (fun _ => HCF.out W4 HX4.out) (fun _ => ?_)
    clear hK' K' he4
    try simp only [Act.put, List.setIfInBounds_toArray, List.set_cons_zero, List.set_cons_succ]
    refine Late.one (i := 7) (o := _) (by kernel_rfl) rfl (fun K' hK' => ?_)
    go_simp
    refine (HFM.out W4 (some ⟨R, 0, none⟩) A' xs.length n' (HE3.out.trans HX4.out)).mono ?_
    rintro e W5 ⟨rfl, he5⟩
    have HX5 := Lib.hid (HX4.out.trans he5)
    have HE5 := Lib.hid (HE3.out.trans HX5.out)
    have hC5 := HCF.out W5 HX5.out
    refine hK'.out _ _ (fun _ => hC5) (fun _ => ?_)
    clear hK' K' he5
    try simp only [Act.put, List.setIfInBounds_toArray, List.set_cons_zero, List.set_cons_succ]
    refine Late.take (i := 8) (oi := _) (v := ?_) rfl (by kernel_rfl) (by kernel_rfl) (by kernel_rfl) (by kernel_rfl) (fun _ _ _ h => h) (Or.inl ⟨by rfl, ?_⟩) hC5 ?_
    rotate_left
    · (intro w hSw; (try dsimp only at hSw); go_simp; first | done | with_reducible rfl)
    simp only [Act.put]
    refine Late.done (by kernel_rfl) ?_ _
    cases b <;>
    · go_wp2_with fail
      go_ret
      exact ⟨by rw [HQ.out]; rfl, HE5.out⟩
  · obtain ⟨z, hzz⟩ : ∃ z, mgE t m us xs es = z := ⟨_, rfl⟩
    have HQ : Hid (scC t m us xs n fs es = z) := Lib.hid (by rw [scC, if_neg hz, hzz])
    rw [hzz] at HMG hz
    have hzb : (z != 0) = true := by simpa using hz
    clear hz hzz hR hU hX hF hY hs hu hx hf hy hT
    go_enter Tryz.func63, Tryz.ntmps63
    go_wp2_with fail
    generalize (((w.alloc (.cells #[.slice A t.length c] 36)).alloc (.cells #[.int .i64 m, .slice U us.length c1] 38)).alloc (.cells #[.int .i64 n, .slice F fs.length c3] 33)) = W0 at *
    refine (HMG.out W0 e0).mono ?_
    rintro e W1 ⟨rfl, he1⟩
    have HE1 := Lib.hid (e0.trans he1)
    clear b0 b1 b2 e0 he1 k0 k1 k1'
    go_wp2_with fail
    go_ret
    exact ⟨by rw [HQ.out]; rfl, HE1.out⟩

end Go.Proofs.YtfnjpbjlikajbaaGreatDoor
