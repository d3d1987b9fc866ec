/- InflateCochain: the specification's contract. -/
import Derived.Test.YtfnjpbjlikajbaaGreatDoorNb
import Derived.Test.YtfnjpbjlikajbaaGreatDoorUl
namespace Go.Proofs.YtfnjpbjlikajbaaGreatDoor
open Go.RowKit Go.Shelf

set_option maxRecDepth 100000 in
set_option maxHeartbeats 4000000 in
theorem specIC_code (t0 : List (List Int)) (t1 : List Int) (m2 : Int) (t2 : List Int) (m3 : Int) (t3 : List Int) (B0 : Option Addr) (d0 : Nat) (B1 : Option Addr) (d1 : Nat) (B2 : Option Addr) (d2 : Nat) (B3 : Option Addr) (d3 : Nat) (w : World) (hR : RwsW w B0 t0) (hX : IntsW w B1 t1) (hs : SmallT t0) (hx : t1.length ≤ 1048576) (hz : sgC t0 t1 [] ≠ 0) :
    Calls Tryz.prog 25 #[.agg #[.slice B0 t0.length d0], .slice B1 t1.length d1, .agg #[.int .i64 m2, .slice B2 t2.length d2], .agg #[.int .i64 m3, .slice B3 t3.length d3]] w (TwS (qInflateCochain0 t0 t1 m2 t2 m3 t3) (yInflateCochain0 t0 t1 m2 t2 m3 t3) (qInflateCochain1 t0 t1 m2 t2 m3 t3) (yInflateCochain1 t0 t1 m2 t2 m3 t3) (qInflateCochain2 t0 t1 m2 t2 m3 t3) w) := by
  have e0 : Ex w (((((w.alloc (.cells #[.slice B0 t0.length d0] 36)).alloc (.cells #[.int .i64 m2, .slice B2 t2.length d2] 38)).alloc (.cells #[.int .i64 m3, .slice B3 t3.length d3] 33)).alloc (.cells #[.int .i64 0, .slice none 0 0] 38)).alloc (.cells #[.int .i64 0, .slice none 0 0] 33)) := (((((Ex.refl w).alloc _).alloc _).alloc _).alloc _).alloc _
  have b0 : Has (((((w.alloc (.cells #[.slice B0 t0.length d0] 36)).alloc (.cells #[.int .i64 m2, .slice B2 t2.length d2] 38)).alloc (.cells #[.int .i64 m3, .slice B3 t3.length d3] 33)).alloc (.cells #[.int .i64 0, .slice none 0 0] 38)).alloc (.cells #[.int .i64 0, .slice none 0 0] 33)) (w.heap.size) 36 #[.slice B0 t0.length d0] := (((((Has.newAt (w := w) (e := 36) (cs := #[.slice B0 t0.length d0]) (k := w.heap.size) (by simp)).alloc _).alloc _).alloc _).alloc _)
  have b1 : Has (((((w.alloc (.cells #[.slice B0 t0.length d0] 36)).alloc (.cells #[.int .i64 m2, .slice B2 t2.length d2] 38)).alloc (.cells #[.int .i64 m3, .slice B3 t3.length d3] 33)).alloc (.cells #[.int .i64 0, .slice none 0 0] 38)).alloc (.cells #[.int .i64 0, .slice none 0 0] 33)) (w.heap.size + 1) 38 #[.int .i64 m2, .slice B2 t2.length d2] := ((((Has.newAt (w := (w.alloc (.cells #[.slice B0 t0.length d0] 36))) (e := 38) (cs := #[.int .i64 m2, .slice B2 t2.length d2]) (k := w.heap.size + 1) (by simp)).alloc _).alloc _).alloc _)
  have b2 : Has (((((w.alloc (.cells #[.slice B0 t0.length d0] 36)).alloc (.cells #[.int .i64 m2, .slice B2 t2.length d2] 38)).alloc (.cells #[.int .i64 m3, .slice B3 t3.length d3] 33)).alloc (.cells #[.int .i64 0, .slice none 0 0] 38)).alloc (.cells #[.int .i64 0, .slice none 0 0] 33)) (w.heap.size + 1 + 1) 33 #[.int .i64 m3, .slice B3 t3.length d3] := (((Has.newAt (w := ((w.alloc (.cells #[.slice B0 t0.length d0] 36)).alloc (.cells #[.int .i64 m2, .slice B2 t2.length d2] 38))) (e := 33) (cs := #[.int .i64 m3, .slice B3 t3.length d3]) (k := w.heap.size + 1 + 1) (by simp)).alloc _).alloc _)
  have b3 : Has (((((w.alloc (.cells #[.slice B0 t0.length d0] 36)).alloc (.cells #[.int .i64 m2, .slice B2 t2.length d2] 38)).alloc (.cells #[.int .i64 m3, .slice B3 t3.length d3] 33)).alloc (.cells #[.int .i64 0, .slice none 0 0] 38)).alloc (.cells #[.int .i64 0, .slice none 0 0] 33)) (w.heap.size + 1 + 1 + 1) 38 #[.int .i64 0, .slice none 0 0] := ((Has.newAt (w := (((w.alloc (.cells #[.slice B0 t0.length d0] 36)).alloc (.cells #[.int .i64 m2, .slice B2 t2.length d2] 38)).alloc (.cells #[.int .i64 m3, .slice B3 t3.length d3] 33))) (e := 38) (cs := #[.int .i64 0, .slice none 0 0]) (k := w.heap.size + 1 + 1 + 1) (by simp)).alloc _)
  have b4 : Has (((((w.alloc (.cells #[.slice B0 t0.length d0] 36)).alloc (.cells #[.int .i64 m2, .slice B2 t2.length d2] 38)).alloc (.cells #[.int .i64 m3, .slice B3 t3.length d3] 33)).alloc (.cells #[.int .i64 0, .slice none 0 0] 38)).alloc (.cells #[.int .i64 0, .slice none 0 0] 33)) (w.heap.size + 1 + 1 + 1 + 1) 33 #[.int .i64 0, .slice none 0 0] := (Has.newAt (w := ((((w.alloc (.cells #[.slice B0 t0.length d0] 36)).alloc (.cells #[.int .i64 m2, .slice B2 t2.length d2] 38)).alloc (.cells #[.int .i64 m3, .slice B3 t3.length d3] 33)).alloc (.cells #[.int .i64 0, .slice none 0 0] 38))) (e := 33) (cs := #[.int .i64 0, .slice none 0 0]) (k := w.heap.size + 1 + 1 + 1 + 1) (by simp))
  have HSG := Lib.hid (fun W (he : Ex w W) => l07Code_any B0 B1 t0 t1 d0 d1 W (hR.ex he) (hX.ex he) hs hx)
  obtain ⟨z, hzz⟩ : ∃ z, sgC t0 t1 [] = z := ⟨_, rfl⟩
  rw [hzz] at hz HSG
  have HQ := Lib.hid (ic_no (m := m2) (us := t2) (n := m3) (fs := t3) (icC_qu (quC_err hzz hz) hz) hz)
  have hzb : (z != 0) = true := by simpa using hz
  have k0 := b0.cell 0
  clear hzz hz hR hX hs hx
  go_enter Tryz.func25, Tryz.ntmps25
  go_wp2_with fail
  generalize (((((w.alloc (.cells #[.slice B0 t0.length d0] 36)).alloc (.cells #[.int .i64 m2, .slice B2 t2.length d2] 38)).alloc (.cells #[.int .i64 m3, .slice B3 t3.length d3] 33)).alloc (.cells #[.int .i64 0, .slice none 0 0] 38)).alloc (.cells #[.int .i64 0, .slice none 0 0] 33)) = W0 at *
  refine (HSG.out W0 e0).mono ?_
  rintro e W1 ⟨rfl, he1⟩
  have HE1 := Lib.hid (e0.trans he1)
  have HB0 := Lib.hid (b0.ex he1)
  have HB1 := Lib.hid (b1.ex he1)
  have HB2 := Lib.hid (b2.ex he1)
  have HB3 := Lib.hid (b3.ex he1)
  have HB4 := Lib.hid (b4.ex he1)
  clear b0 b1 b2 b3 b4 e0 he1 k0 HSG
  have p3 := HB3.out.cell 0
  have p3' := HB3.out.cell 1
  have f3 := HB3.out.free 0
  have f3' := HB3.out.free 1
  have p4 := HB4.out.cell 0
  have p4' := HB4.out.cell 1
  have f4 := HB4.out.free 0
  have f4' := HB4.out.free 1
  go_wp2_with fail
  have H4 := (Has.far (p := ⟨w.heap.size + 1 + 1 + 1 + 1, 1, none⟩) (Has.far (p := ⟨w.heap.size + 1 + 1 + 1 + 1, 0, none⟩) (HB3.out.put2 (u := .int .i64 0) (v := .slice none 0 0)) (by show w.heap.size + 1 + 1 + 1 ≠ w.heap.size + 1 + 1 + 1 + 1; omega) (.int .i64 0)) (by show w.heap.size + 1 + 1 + 1 ≠ w.heap.size + 1 + 1 + 1 + 1; omega) (.slice none 0 0))
  have H5 := Has.put2 (u := .int .i64 0) (v := .slice none 0 0) (Has.far (p := ⟨w.heap.size + 1 + 1 + 1, 1, none⟩) (Has.far (p := ⟨w.heap.size + 1 + 1 + 1, 0, none⟩) HB4.out (by show w.heap.size + 1 + 1 + 1 + 1 ≠ w.heap.size + 1 + 1 + 1; omega) (.int .i64 0)) (by show w.heap.size + 1 + 1 + 1 + 1 ≠ w.heap.size + 1 + 1 + 1; omega) (.slice none 0 0))
  have c4 := H4.cell 0
  have c4' := H4.cell 1
  have c5 := H5.cell 0
  have c5' := H5.cell 1
  refine bodyPost_ret (v := .tuple #[.agg #[.int .i64 0, .slice none 0 0], .agg #[.int .i64 0, .slice none 0 0], .int .i64 z]) (by simp [results, Tryz.results25, go_sem, c4, c4', c5, c5']) rfl (TwS.err HQ.out rfl ((((HE1.out.setCell (by show w.heap.size ≤ w.heap.size + 1 + 1 + 1; omega) _).setCell (by show w.heap.size ≤ w.heap.size + 1 + 1 + 1; omega) _).setCell (by show w.heap.size ≤ w.heap.size + 1 + 1 + 1 + 1; omega) _).setCell (by show w.heap.size ≤ w.heap.size + 1 + 1 + 1 + 1; omega) _))

set_option maxRecDepth 100000 in
set_option maxHeartbeats 4000000 in
theorem specIC_nor (t0 : List (List Int)) (t1 : List Int) (m2 : Int) (t2 : List Int) (m3 : Int) (t3 : List Int) (B0 : Option Addr) (d0 : Nat) (B1 : Option Addr) (d1 : Nat) (B2 : Option Addr) (d2 : Nat) (B3 : Option Addr) (d3 : Nat) (w : World) (hR : RwsW w B0 t0) (hX : IntsW w B1 t1) (hs : SmallT t0) (hx : t1.length ≤ 1048576) (hz : sgC t0 t1 [] = 0) (hn : norB t0 (bitsK t1 t1.length) = false) :
    Calls Tryz.prog 25 #[.agg #[.slice B0 t0.length d0], .slice B1 t1.length d1, .agg #[.int .i64 m2, .slice B2 t2.length d2], .agg #[.int .i64 m3, .slice B3 t3.length d3]] w (TwS (qInflateCochain0 t0 t1 m2 t2 m3 t3) (yInflateCochain0 t0 t1 m2 t2 m3 t3) (qInflateCochain1 t0 t1 m2 t2 m3 t3) (yInflateCochain1 t0 t1 m2 t2 m3 t3) (qInflateCochain2 t0 t1 m2 t2 m3 t3) w) := by
  have hsx := subX_code hz
  have e0 : Ex w (((((w.alloc (.cells #[.slice B0 t0.length d0] 36)).alloc (.cells #[.int .i64 m2, .slice B2 t2.length d2] 38)).alloc (.cells #[.int .i64 m3, .slice B3 t3.length d3] 33)).alloc (.cells #[.int .i64 0, .slice none 0 0] 38)).alloc (.cells #[.int .i64 0, .slice none 0 0] 33)) := (((((Ex.refl w).alloc _).alloc _).alloc _).alloc _).alloc _
  have b0 : Has (((((w.alloc (.cells #[.slice B0 t0.length d0] 36)).alloc (.cells #[.int .i64 m2, .slice B2 t2.length d2] 38)).alloc (.cells #[.int .i64 m3, .slice B3 t3.length d3] 33)).alloc (.cells #[.int .i64 0, .slice none 0 0] 38)).alloc (.cells #[.int .i64 0, .slice none 0 0] 33)) (w.heap.size) 36 #[.slice B0 t0.length d0] := (((((Has.newAt (w := w) (e := 36) (cs := #[.slice B0 t0.length d0]) (k := w.heap.size) (by simp)).alloc _).alloc _).alloc _).alloc _)
  have b1 : Has (((((w.alloc (.cells #[.slice B0 t0.length d0] 36)).alloc (.cells #[.int .i64 m2, .slice B2 t2.length d2] 38)).alloc (.cells #[.int .i64 m3, .slice B3 t3.length d3] 33)).alloc (.cells #[.int .i64 0, .slice none 0 0] 38)).alloc (.cells #[.int .i64 0, .slice none 0 0] 33)) (w.heap.size + 1) 38 #[.int .i64 m2, .slice B2 t2.length d2] := ((((Has.newAt (w := (w.alloc (.cells #[.slice B0 t0.length d0] 36))) (e := 38) (cs := #[.int .i64 m2, .slice B2 t2.length d2]) (k := w.heap.size + 1) (by simp)).alloc _).alloc _).alloc _)
  have b2 : Has (((((w.alloc (.cells #[.slice B0 t0.length d0] 36)).alloc (.cells #[.int .i64 m2, .slice B2 t2.length d2] 38)).alloc (.cells #[.int .i64 m3, .slice B3 t3.length d3] 33)).alloc (.cells #[.int .i64 0, .slice none 0 0] 38)).alloc (.cells #[.int .i64 0, .slice none 0 0] 33)) (w.heap.size + 1 + 1) 33 #[.int .i64 m3, .slice B3 t3.length d3] := (((Has.newAt (w := ((w.alloc (.cells #[.slice B0 t0.length d0] 36)).alloc (.cells #[.int .i64 m2, .slice B2 t2.length d2] 38))) (e := 33) (cs := #[.int .i64 m3, .slice B3 t3.length d3]) (k := w.heap.size + 1 + 1) (by simp)).alloc _).alloc _)
  have b3 : Has (((((w.alloc (.cells #[.slice B0 t0.length d0] 36)).alloc (.cells #[.int .i64 m2, .slice B2 t2.length d2] 38)).alloc (.cells #[.int .i64 m3, .slice B3 t3.length d3] 33)).alloc (.cells #[.int .i64 0, .slice none 0 0] 38)).alloc (.cells #[.int .i64 0, .slice none 0 0] 33)) (w.heap.size + 1 + 1 + 1) 38 #[.int .i64 0, .slice none 0 0] := ((Has.newAt (w := (((w.alloc (.cells #[.slice B0 t0.length d0] 36)).alloc (.cells #[.int .i64 m2, .slice B2 t2.length d2] 38)).alloc (.cells #[.int .i64 m3, .slice B3 t3.length d3] 33))) (e := 38) (cs := #[.int .i64 0, .slice none 0 0]) (k := w.heap.size + 1 + 1 + 1) (by simp)).alloc _)
  have b4 : Has (((((w.alloc (.cells #[.slice B0 t0.length d0] 36)).alloc (.cells #[.int .i64 m2, .slice B2 t2.length d2] 38)).alloc (.cells #[.int .i64 m3, .slice B3 t3.length d3] 33)).alloc (.cells #[.int .i64 0, .slice none 0 0] 38)).alloc (.cells #[.int .i64 0, .slice none 0 0] 33)) (w.heap.size + 1 + 1 + 1 + 1) 33 #[.int .i64 0, .slice none 0 0] := (Has.newAt (w := ((((w.alloc (.cells #[.slice B0 t0.length d0] 36)).alloc (.cells #[.int .i64 m2, .slice B2 t2.length d2] 38)).alloc (.cells #[.int .i64 m3, .slice B3 t3.length d3] 33)).alloc (.cells #[.int .i64 0, .slice none 0 0] 38))) (e := 33) (cs := #[.int .i64 0, .slice none 0 0]) (k := w.heap.size + 1 + 1 + 1 + 1) (by simp))
  have HSG := Lib.hid (fun W (he : Ex w W) => l07Code_any B0 B1 t0 t1 d0 d1 W (hR.ex he) (hX.ex he) hs hx)
  have HNO := Lib.hid (fun W (he : Ex w W) => l01Normal_any B0 B1 t0 t1 d0 d1 W (hR.ex he) (hX.ex he) hsx.g hx hsx.b)
  have hq : quC t0 t1 = 5 := by rw [quC_of hz, hn, if_neg Bool.false_ne_true]
  have HQ := Lib.hid (ic_no (m := m2) (us := t2) (n := m3) (fs := t3) (icC_qu hq (by decide)) (by decide))
  rw [hz] at HSG
  rw [hn] at HNO
  have k0 := b0.cell 0
  clear hz hn hq hsx hR hX hs hx
  go_enter Tryz.func25, Tryz.ntmps25
  go_wp2_with fail
  generalize (((((w.alloc (.cells #[.slice B0 t0.length d0] 36)).alloc (.cells #[.int .i64 m2, .slice B2 t2.length d2] 38)).alloc (.cells #[.int .i64 m3, .slice B3 t3.length d3] 33)).alloc (.cells #[.int .i64 0, .slice none 0 0] 38)).alloc (.cells #[.int .i64 0, .slice none 0 0] 33)) = W0 at *
  refine (HSG.out W0 e0).mono ?_
  rintro e W1 ⟨rfl, he1⟩
  have HE1 := Lib.hid (e0.trans he1)
  have HB0 := Lib.hid (b0.ex he1)
  have HB1 := Lib.hid (b1.ex he1)
  have HB2 := Lib.hid (b2.ex he1)
  have HB3 := Lib.hid (b3.ex he1)
  have HB4 := Lib.hid (b4.ex he1)
  clear b0 b1 b2 b3 b4 e0 he1 k0 HSG
  have k0 := HB0.out.cell 0
  go_wp2_with fail
  refine (HNO.out W1 HE1.out).mono ?_
  rintro e W2 ⟨rfl, he2⟩
  have HE2 := Lib.hid (HE1.out.trans he2)
  have HB02 := Lib.hid (HB0.out.ex he2)
  have HB12 := Lib.hid (HB1.out.ex he2)
  have HB22 := Lib.hid (HB2.out.ex he2)
  have HB32 := Lib.hid (HB3.out.ex he2)
  have HB42 := Lib.hid (HB4.out.ex he2)
  clear he2 k0 HNO
  have p3 := HB32.out.cell 0
  have p3' := HB32.out.cell 1
  have f3 := HB32.out.free 0
  have f3' := HB32.out.free 1
  have p4 := HB42.out.cell 0
  have p4' := HB42.out.cell 1
  have f4 := HB42.out.free 0
  have f4' := HB42.out.free 1
  go_wp2_with fail
  have H4 := (Has.far (p := ⟨w.heap.size + 1 + 1 + 1 + 1, 1, none⟩) (Has.far (p := ⟨w.heap.size + 1 + 1 + 1 + 1, 0, none⟩) (HB32.out.put2 (u := .int .i64 0) (v := .slice none 0 0)) (by show w.heap.size + 1 + 1 + 1 ≠ w.heap.size + 1 + 1 + 1 + 1; omega) (.int .i64 0)) (by show w.heap.size + 1 + 1 + 1 ≠ w.heap.size + 1 + 1 + 1 + 1; omega) (.slice none 0 0))
  have H5 := Has.put2 (u := .int .i64 0) (v := .slice none 0 0) (Has.far (p := ⟨w.heap.size + 1 + 1 + 1, 1, none⟩) (Has.far (p := ⟨w.heap.size + 1 + 1 + 1, 0, none⟩) HB42.out (by show w.heap.size + 1 + 1 + 1 + 1 ≠ w.heap.size + 1 + 1 + 1; omega) (.int .i64 0)) (by show w.heap.size + 1 + 1 + 1 + 1 ≠ w.heap.size + 1 + 1 + 1; omega) (.slice none 0 0))
  have c4 := H4.cell 0
  have c4' := H4.cell 1
  have c5 := H5.cell 0
  have c5' := H5.cell 1
  refine bodyPost_ret (v := .tuple #[.agg #[.int .i64 0, .slice none 0 0], .agg #[.int .i64 0, .slice none 0 0], .int .i64 5]) (by simp [results, Tryz.results25, go_sem, c4, c4', c5, c5']) rfl (TwS.err HQ.out rfl ((((HE2.out.setCell (by show w.heap.size ≤ w.heap.size + 1 + 1 + 1; omega) _).setCell (by show w.heap.size ≤ w.heap.size + 1 + 1 + 1; omega) _).setCell (by show w.heap.size ≤ w.heap.size + 1 + 1 + 1 + 1; omega) _).setCell (by show w.heap.size ≤ w.heap.size + 1 + 1 + 1 + 1; omega) _))

set_option maxRecDepth 100000 in
set_option maxHeartbeats 4000000 in
theorem specIC_no (t0 : List (List Int)) (t1 : List Int) (m2 : Int) (t2 : List Int) (m3 : Int) (t3 : List Int) (B0 : Option Addr) (d0 : Nat) (B1 : Option Addr) (d1 : Nat) (B2 : Option Addr) (d2 : Nat) (B3 : Option Addr) (d3 : Nat) (w : World) (hR : RwsW w B0 t0) (hX : IntsW w B1 t1) (hU : IntsW w B2 t2) (hF : IntsW w B3 t3) (hs : SmallT t0) (hx : t1.length ≤ 1048576) (hu : t2.length ≤ 1048576) (hf : t3.length ≤ 1048576) (hz : quC t0 t1 = 0) (hg : gmcB (yQuotientOf0 t0 t1) m2 t2 m3 t3 = false) :
    Calls Tryz.prog 25 #[.agg #[.slice B0 t0.length d0], .slice B1 t1.length d1, .agg #[.int .i64 m2, .slice B2 t2.length d2], .agg #[.int .i64 m3, .slice B3 t3.length d3]] w (TwS (qInflateCochain0 t0 t1 m2 t2 m3 t3) (yInflateCochain0 t0 t1 m2 t2 m3 t3) (qInflateCochain1 t0 t1 m2 t2 m3 t3) (yInflateCochain1 t0 t1 m2 t2 m3 t3) (qInflateCochain2 t0 t1 m2 t2 m3 t3) w) := by
  have hsx := (quC_sub hz).1
  have hn := (quC_sub hz).2
  have hsz : sgC t0 t1 [] = 0 := sgC_yes (grpB_iff.2 hsx.g) hsx.b rfl (quC_zero hz).2.1
  have e0 : Ex w (((((w.alloc (.cells #[.slice B0 t0.length d0] 36)).alloc (.cells #[.int .i64 m2, .slice B2 t2.length d2] 38)).alloc (.cells #[.int .i64 m3, .slice B3 t3.length d3] 33)).alloc (.cells #[.int .i64 0, .slice none 0 0] 38)).alloc (.cells #[.int .i64 0, .slice none 0 0] 33)) := (((((Ex.refl w).alloc _).alloc _).alloc _).alloc _).alloc _
  have b0 : Has (((((w.alloc (.cells #[.slice B0 t0.length d0] 36)).alloc (.cells #[.int .i64 m2, .slice B2 t2.length d2] 38)).alloc (.cells #[.int .i64 m3, .slice B3 t3.length d3] 33)).alloc (.cells #[.int .i64 0, .slice none 0 0] 38)).alloc (.cells #[.int .i64 0, .slice none 0 0] 33)) (w.heap.size) 36 #[.slice B0 t0.length d0] := (((((Has.newAt (w := w) (e := 36) (cs := #[.slice B0 t0.length d0]) (k := w.heap.size) (by simp)).alloc _).alloc _).alloc _).alloc _)
  have b1 : Has (((((w.alloc (.cells #[.slice B0 t0.length d0] 36)).alloc (.cells #[.int .i64 m2, .slice B2 t2.length d2] 38)).alloc (.cells #[.int .i64 m3, .slice B3 t3.length d3] 33)).alloc (.cells #[.int .i64 0, .slice none 0 0] 38)).alloc (.cells #[.int .i64 0, .slice none 0 0] 33)) (w.heap.size + 1) 38 #[.int .i64 m2, .slice B2 t2.length d2] := ((((Has.newAt (w := (w.alloc (.cells #[.slice B0 t0.length d0] 36))) (e := 38) (cs := #[.int .i64 m2, .slice B2 t2.length d2]) (k := w.heap.size + 1) (by simp)).alloc _).alloc _).alloc _)
  have b2 : Has (((((w.alloc (.cells #[.slice B0 t0.length d0] 36)).alloc (.cells #[.int .i64 m2, .slice B2 t2.length d2] 38)).alloc (.cells #[.int .i64 m3, .slice B3 t3.length d3] 33)).alloc (.cells #[.int .i64 0, .slice none 0 0] 38)).alloc (.cells #[.int .i64 0, .slice none 0 0] 33)) (w.heap.size + 1 + 1) 33 #[.int .i64 m3, .slice B3 t3.length d3] := (((Has.newAt (w := ((w.alloc (.cells #[.slice B0 t0.length d0] 36)).alloc (.cells #[.int .i64 m2, .slice B2 t2.length d2] 38))) (e := 33) (cs := #[.int .i64 m3, .slice B3 t3.length d3]) (k := w.heap.size + 1 + 1) (by simp)).alloc _).alloc _)
  have b3 : Has (((((w.alloc (.cells #[.slice B0 t0.length d0] 36)).alloc (.cells #[.int .i64 m2, .slice B2 t2.length d2] 38)).alloc (.cells #[.int .i64 m3, .slice B3 t3.length d3] 33)).alloc (.cells #[.int .i64 0, .slice none 0 0] 38)).alloc (.cells #[.int .i64 0, .slice none 0 0] 33)) (w.heap.size + 1 + 1 + 1) 38 #[.int .i64 0, .slice none 0 0] := ((Has.newAt (w := (((w.alloc (.cells #[.slice B0 t0.length d0] 36)).alloc (.cells #[.int .i64 m2, .slice B2 t2.length d2] 38)).alloc (.cells #[.int .i64 m3, .slice B3 t3.length d3] 33))) (e := 38) (cs := #[.int .i64 0, .slice none 0 0]) (k := w.heap.size + 1 + 1 + 1) (by simp)).alloc _)
  have b4 : Has (((((w.alloc (.cells #[.slice B0 t0.length d0] 36)).alloc (.cells #[.int .i64 m2, .slice B2 t2.length d2] 38)).alloc (.cells #[.int .i64 m3, .slice B3 t3.length d3] 33)).alloc (.cells #[.int .i64 0, .slice none 0 0] 38)).alloc (.cells #[.int .i64 0, .slice none 0 0] 33)) (w.heap.size + 1 + 1 + 1 + 1) 33 #[.int .i64 0, .slice none 0 0] := (Has.newAt (w := ((((w.alloc (.cells #[.slice B0 t0.length d0] 36)).alloc (.cells #[.int .i64 m2, .slice B2 t2.length d2] 38)).alloc (.cells #[.int .i64 m3, .slice B3 t3.length d3] 33)).alloc (.cells #[.int .i64 0, .slice none 0 0] 38))) (e := 33) (cs := #[.int .i64 0, .slice none 0 0]) (k := w.heap.size + 1 + 1 + 1 + 1) (by simp))
  have HSG := Lib.hid (fun W (he : Ex w W) => l07Code_any B0 B1 t0 t1 d0 d1 W (hR.ex he) (hX.ex he) hs hx)
  have HNO := Lib.hid (fun W (he : Ex w W) => l01Normal_any B0 B1 t0 t1 d0 d1 W (hR.ex he) (hX.ex he) hsx.g hx hsx.b)
  have HQT := Lib.hid (fun W (he : Ex w W) => l01Quotient_any B0 B1 t0 t1 d0 d1 W (hR.ex he) (hX.ex he) hsx.g hx (fun i hi => hsx.rng hi) (quS t0 t1) rfl)
  have HSY := Lib.hid (quotientOf_small0 t0 t1)
  rw [← (qu_yes hz).1, ← qu_len hz] at HQT
  rw [hsz] at HSG
  rw [hn] at HNO
  have HQ := Lib.hid (ic_no (icC_no hz hg) (by decide))
  obtain ⟨y, hy⟩ : ∃ y, yQuotientOf0 t0 t1 = y := ⟨_, rfl⟩
  obtain ⟨num, hnm⟩ : ∃ num, (quS t0 t1).num = num := ⟨_, rfl⟩
  rw [hy] at HQT HSY hg
  rw [hnm] at HQT
  have HCO := Lib.hid (fun (W : World) (C : Option Addr) (n kb : Nat) (he : Ex w W) (hr : RwsW W C y) (hk : Has W kb 33 #[.int .i64 m3, .slice B3 t3.length d3]) => l03Code1_ex C B2 B3 y m2 t2 m3 t3 n d2 d3 kb W hr (hU.ex he) (hF.ex he) HSY.out hu hf hk)
  rw [hg, if_neg Bool.false_ne_true] at HCO
  have k0 := b0.cell 0
  clear hz hg hn hsz hsx hy hnm hR hX hU hF hs hx hu hf HSY
  go_enter Tryz.func25, Tryz.ntmps25
  go_wp2_with fail
  generalize (((((w.alloc (.cells #[.slice B0 t0.length d0] 36)).alloc (.cells #[.int .i64 m2, .slice B2 t2.length d2] 38)).alloc (.cells #[.int .i64 m3, .slice B3 t3.length d3] 33)).alloc (.cells #[.int .i64 0, .slice none 0 0] 38)).alloc (.cells #[.int .i64 0, .slice none 0 0] 33)) = W0 at *
  refine (HSG.out W0 e0).mono ?_
  rintro e W1 ⟨rfl, he1⟩
  have HE1 := Lib.hid (e0.trans he1)
  have HB0 := Lib.hid (b0.ex he1)
  have HB1 := Lib.hid (b1.ex he1)
  have HB2 := Lib.hid (b2.ex he1)
  have HB3 := Lib.hid (b3.ex he1)
  have HB4 := Lib.hid (b4.ex he1)
  clear b0 b1 b2 b3 b4 e0 he1 k0 HSG
  have k0 := HB0.out.cell 0
  go_wp2_with fail
  refine (HNO.out W1 HE1.out).mono ?_
  rintro e W2 ⟨rfl, he2⟩
  have HE2 := Lib.hid (HE1.out.trans he2)
  have HB02 := Lib.hid (HB0.out.ex he2)
  have HB12 := Lib.hid (HB1.out.ex he2)
  have HB22 := Lib.hid (HB2.out.ex he2)
  have HB32 := Lib.hid (HB3.out.ex he2)
  have HB42 := Lib.hid (HB4.out.ex he2)
  clear he2 k0 HNO
  have k0 := HB02.out.cell 0
  go_wp2_with fail
  refine (HQT.out W2 HE2.out).mono ?_
  rintro e W3 ⟨C0, n0, D, rfl, he3, hlD, hD, hO⟩
  obtain ⟨s, hs1⟩ : ∃ s, W3.heap.size = s := ⟨_, rfl⟩
  have ea := he3.trans (Ex.new W3 (.cells #[.slice C0 y.length n0] 36))
  have HE3 := Lib.hid (HE2.out.trans ea)
  have HB03 := Lib.hid (HB02.out.ex ea)
  have HB13 := Lib.hid (HB12.out.ex ea)
  have HB23 := Lib.hid (HB22.out.ex ea)
  have HB33 := Lib.hid (HB32.out.ex ea)
  have HB43 := Lib.hid (HB42.out.ex ea)
  have HG : Hid (Has (W3.alloc (.cells #[.slice C0 y.length n0] 36)) s 36 #[.slice C0 y.length n0]) := Lib.hid (Has.newAt hs1)
  have HY := Lib.hid ((hO.ex (Ex.new W3 (.cells #[.slice C0 y.length n0] 36))).rws)
  have HN := Lib.hid (((has_num hD (Nat.zero_le D)).ex (Ex.new W3 (.cells #[.slice C0 y.length n0] 36))).ints)
  clear he3 ea hlD hD hO k0 HQT
  go_upto_region 7 with (fail)
  simp only [hs1] at *
  clear hs1
  generalize W3.alloc (.cells #[.slice C0 y.length n0] 36) = W4 at *
  have k0 := HG.out.cell 0
  have k1 := HB13.out.cell 0
  have k1' := HB13.out.cell 1
  have k2 := HB23.out.cell 0
  have k2' := HB23.out.cell 1
  go_wp2_with fail
  have en := Ex.new W4 (.cells #[.int .i64 m3, .slice B3 t3.length d3] 33)
  refine (HCO.out _ C0 n0 W4.heap.size (HE3.out.trans en) (HY.out.ex en) (Has.new W4 33 #[.int .i64 m3, .slice B3 t3.length d3])).mono ?_
  rintro e W5 ⟨rfl, he5⟩
  have ex5 := en.trans he5
  have HE5 := Lib.hid (HE3.out.trans ex5)
  have HB35 := Lib.hid (HB33.out.ex ex5)
  have HB45 := Lib.hid (HB43.out.ex ex5)
  clear he5 en ex5 k0 k1 k1' k2 k2'
  have p3 := HB35.out.cell 0
  have p3' := HB35.out.cell 1
  have f3 := HB35.out.free 0
  have f3' := HB35.out.free 1
  have p4 := HB45.out.cell 0
  have p4' := HB45.out.cell 1
  have f4 := HB45.out.free 0
  have f4' := HB45.out.free 1
  go_wp2_with fail
  have H4 := (Has.far (p := ⟨w.heap.size + 1 + 1 + 1 + 1, 1, none⟩) (Has.far (p := ⟨w.heap.size + 1 + 1 + 1 + 1, 0, none⟩) (HB35.out.put2 (u := .int .i64 0) (v := .slice none 0 0)) (by show w.heap.size + 1 + 1 + 1 ≠ w.heap.size + 1 + 1 + 1 + 1; omega) (.int .i64 0)) (by show w.heap.size + 1 + 1 + 1 ≠ w.heap.size + 1 + 1 + 1 + 1; omega) (.slice none 0 0))
  have H5 := Has.put2 (u := .int .i64 0) (v := .slice none 0 0) (Has.far (p := ⟨w.heap.size + 1 + 1 + 1, 1, none⟩) (Has.far (p := ⟨w.heap.size + 1 + 1 + 1, 0, none⟩) HB45.out (by show w.heap.size + 1 + 1 + 1 + 1 ≠ w.heap.size + 1 + 1 + 1; omega) (.int .i64 0)) (by show w.heap.size + 1 + 1 + 1 + 1 ≠ w.heap.size + 1 + 1 + 1; omega) (.slice none 0 0))
  have c4 := H4.cell 0
  have c4' := H4.cell 1
  have c5 := H5.cell 0
  have c5' := H5.cell 1
  refine bodyPost_ret (v := .tuple #[.agg #[.int .i64 0, .slice none 0 0], .agg #[.int .i64 0, .slice none 0 0], .int .i64 1]) (by simp [results, Tryz.results25, go_sem, c4, c4', c5, c5']) rfl (TwS.err HQ.out rfl ((((HE5.out.setCell (by show w.heap.size ≤ w.heap.size + 1 + 1 + 1; omega) _).setCell (by show w.heap.size ≤ w.heap.size + 1 + 1 + 1; omega) _).setCell (by show w.heap.size ≤ w.heap.size + 1 + 1 + 1 + 1; omega) _).setCell (by show w.heap.size ≤ w.heap.size + 1 + 1 + 1 + 1; omega) _))

set_option maxRecDepth 100000 in
set_option maxHeartbeats 8000000 in
theorem specIC_yes (t0 : List (List Int)) (t1 : List Int) (M : Nat) (t2 : List Int) (d : Nat) (t3 : List Int) (B0 : Option Addr) (d0 : Nat) (B1 : Option Addr) (d1 : Nat) (B2 : Option Addr) (d2 : Nat) (B3 : Option Addr) (d3 : Nat) (w : World) (hR : RwsW w B0 t0) (hX : IntsW w B1 t1) (hU : IntsW w B2 t2) (hF : IntsW w B3 t3) (hs : SmallT t0) (hx : t1.length ≤ 1048576) (hu : t2.length ≤ 1048576) (hf : t3.length ≤ 1048576) (hz : quC t0 t1 = 0) (hg : gmcB (yQuotientOf0 t0 t1) (M : Int) t2 (d : Int) t3 = true) (hMF : ModF (yQuotientOf0 t0 t1) M t2) (hd3 : d ≤ 3) (hlen : t3.length = cellsN (yQuotientOf0 t0 t1).length d) :
    Calls Tryz.prog 25 #[.agg #[.slice B0 t0.length d0], .slice B1 t1.length d1, .agg #[.int .i64 (M : Int), .slice B2 t2.length d2], .agg #[.int .i64 (d : Int), .slice B3 t3.length d3]] w (TwS (qInflateCochain0 t0 t1 (M : Int) t2 (d : Int) t3) (yInflateCochain0 t0 t1 (M : Int) t2 (d : Int) t3) (qInflateCochain1 t0 t1 (M : Int) t2 (d : Int) t3) (yInflateCochain1 t0 t1 (M : Int) t2 (d : Int) t3) (qInflateCochain2 t0 t1 (M : Int) t2 (d : Int) t3) w) := by
  have hsx := (quC_sub hz).1
  have hn := (quC_sub hz).2
  have hsz : sgC t0 t1 [] = 0 := sgC_yes (grpB_iff.2 hsx.g) hsx.b rfl (quC_zero hz).2.1
  have e0 : Ex w (((((w.alloc (.cells #[.slice B0 t0.length d0] 36)).alloc (.cells #[.int .i64 (M : Int), .slice B2 t2.length d2] 38)).alloc (.cells #[.int .i64 (d : Int), .slice B3 t3.length d3] 33)).alloc (.cells #[.int .i64 0, .slice none 0 0] 38)).alloc (.cells #[.int .i64 0, .slice none 0 0] 33)) := (((((Ex.refl w).alloc _).alloc _).alloc _).alloc _).alloc _
  have b0 : Has (((((w.alloc (.cells #[.slice B0 t0.length d0] 36)).alloc (.cells #[.int .i64 (M : Int), .slice B2 t2.length d2] 38)).alloc (.cells #[.int .i64 (d : Int), .slice B3 t3.length d3] 33)).alloc (.cells #[.int .i64 0, .slice none 0 0] 38)).alloc (.cells #[.int .i64 0, .slice none 0 0] 33)) (w.heap.size) 36 #[.slice B0 t0.length d0] := (((((Has.newAt (w := w) (e := 36) (cs := #[.slice B0 t0.length d0]) (k := w.heap.size) (by simp)).alloc _).alloc _).alloc _).alloc _)
  have b1 : Has (((((w.alloc (.cells #[.slice B0 t0.length d0] 36)).alloc (.cells #[.int .i64 (M : Int), .slice B2 t2.length d2] 38)).alloc (.cells #[.int .i64 (d : Int), .slice B3 t3.length d3] 33)).alloc (.cells #[.int .i64 0, .slice none 0 0] 38)).alloc (.cells #[.int .i64 0, .slice none 0 0] 33)) (w.heap.size + 1) 38 #[.int .i64 (M : Int), .slice B2 t2.length d2] := ((((Has.newAt (w := (w.alloc (.cells #[.slice B0 t0.length d0] 36))) (e := 38) (cs := #[.int .i64 (M : Int), .slice B2 t2.length d2]) (k := w.heap.size + 1) (by simp)).alloc _).alloc _).alloc _)
  have b2 : Has (((((w.alloc (.cells #[.slice B0 t0.length d0] 36)).alloc (.cells #[.int .i64 (M : Int), .slice B2 t2.length d2] 38)).alloc (.cells #[.int .i64 (d : Int), .slice B3 t3.length d3] 33)).alloc (.cells #[.int .i64 0, .slice none 0 0] 38)).alloc (.cells #[.int .i64 0, .slice none 0 0] 33)) (w.heap.size + 1 + 1) 33 #[.int .i64 (d : Int), .slice B3 t3.length d3] := (((Has.newAt (w := ((w.alloc (.cells #[.slice B0 t0.length d0] 36)).alloc (.cells #[.int .i64 (M : Int), .slice B2 t2.length d2] 38))) (e := 33) (cs := #[.int .i64 (d : Int), .slice B3 t3.length d3]) (k := w.heap.size + 1 + 1) (by simp)).alloc _).alloc _)
  have b3 : Has (((((w.alloc (.cells #[.slice B0 t0.length d0] 36)).alloc (.cells #[.int .i64 (M : Int), .slice B2 t2.length d2] 38)).alloc (.cells #[.int .i64 (d : Int), .slice B3 t3.length d3] 33)).alloc (.cells #[.int .i64 0, .slice none 0 0] 38)).alloc (.cells #[.int .i64 0, .slice none 0 0] 33)) (w.heap.size + 1 + 1 + 1) 38 #[.int .i64 0, .slice none 0 0] := ((Has.newAt (w := (((w.alloc (.cells #[.slice B0 t0.length d0] 36)).alloc (.cells #[.int .i64 (M : Int), .slice B2 t2.length d2] 38)).alloc (.cells #[.int .i64 (d : Int), .slice B3 t3.length d3] 33))) (e := 38) (cs := #[.int .i64 0, .slice none 0 0]) (k := w.heap.size + 1 + 1 + 1) (by simp)).alloc _)
  have b4 : Has (((((w.alloc (.cells #[.slice B0 t0.length d0] 36)).alloc (.cells #[.int .i64 (M : Int), .slice B2 t2.length d2] 38)).alloc (.cells #[.int .i64 (d : Int), .slice B3 t3.length d3] 33)).alloc (.cells #[.int .i64 0, .slice none 0 0] 38)).alloc (.cells #[.int .i64 0, .slice none 0 0] 33)) (w.heap.size + 1 + 1 + 1 + 1) 33 #[.int .i64 0, .slice none 0 0] := (Has.newAt (w := ((((w.alloc (.cells #[.slice B0 t0.length d0] 36)).alloc (.cells #[.int .i64 (M : Int), .slice B2 t2.length d2] 38)).alloc (.cells #[.int .i64 (d : Int), .slice B3 t3.length d3] 33)).alloc (.cells #[.int .i64 0, .slice none 0 0] 38))) (e := 33) (cs := #[.int .i64 0, .slice none 0 0]) (k := w.heap.size + 1 + 1 + 1 + 1) (by simp))
  have HSG := Lib.hid (fun W (he : Ex w W) => l07Code_any B0 B1 t0 t1 d0 d1 W (hR.ex he) (hX.ex he) hs hx)
  have HNO := Lib.hid (fun W (he : Ex w W) => l01Normal_any B0 B1 t0 t1 d0 d1 W (hR.ex he) (hX.ex he) hsx.g hx hsx.b)
  have HQT := Lib.hid (fun W (he : Ex w W) => l01Quotient_any B0 B1 t0 t1 d0 d1 W (hR.ex he) (hX.ex he) hsx.g hx (fun i hi => hsx.rng hi) (quS t0 t1) rfl)
  have HSY := Lib.hid (quotientOf_small0 t0 t1)
  rw [← (qu_yes hz).1, ← qu_len hz] at HQT
  rw [hsz] at HSG
  rw [hn] at HNO
  have HQ := Lib.hid (ic_yes (icC_yes hz hg))
  have hN8 := hsx.g.n8
  have hN1 := hsx.g.n1
  have hnum : ∀ x, x < t0.length → (quS t0 t1).num x < (yQuotientOf0 t0 t1).length := fun x hx => qu_num hz hx
  obtain ⟨y, hy⟩ : ∃ y, yQuotientOf0 t0 t1 = y := ⟨_, rfl⟩
  obtain ⟨num, hnm⟩ : ∃ num, (quS t0 t1).num = num := ⟨_, rfl⟩
  rw [hy] at HQT HSY HQ hg hMF hlen hnum
  rw [hnm] at HQT HQ hnum
  have HCO := Lib.hid (fun (W : World) (C : Option Addr) (n kb : Nat) (he : Ex w W) (hr : RwsW W C y) (hk : Has W kb 33 #[.int .i64 (d : Int), .slice B3 t3.length d3]) => l03Code1_ex C B2 B3 y (M : Int) t2 (d : Int) t3 n d2 d3 kb W hr (hU.ex he) (hF.ex he) HSY.out hu hf hk)
  rw [hg, if_pos rfl] at HCO
  have hml := hMF.len
  have hy8 := hMF.g.n8
  have hy1 := hMF.g.n1
  obtain ⟨ns, hns⟩ : ∃ ns, (List.range t0.length).map (fun x => (num x : Int)) = ns := ⟨_, rfl⟩
  have hnl : ns.length = t0.length := by rw [← hns]; simp
  have hnn : ∀ x, x < t0.length → nth ns x = (num x : Int) := fun x hx => by rw [← hns]; simp [nth, hx]
  have HPL := Lib.hid (fun (W : World) (C0 : Option Addr) (n0 D : Nat) (he : Ex w W) (hi : IntsW W (some ⟨D, 0, none⟩) ns) => l03Pull_any B0 B2 (some ⟨D, 0, none⟩) C0 B3 t0.length y.length d (M : Int) t2 ns t3 d0 d2 t0.length n0 d3 W (hU.ex he) hi (hF.ex he) hN8 hN1 hy8 hy1 hml hnl (fun i hi => by rw [hnn i (by omega)]; have := hnum i (by omega); omega) hd3 hlen)
  rw [hnl, show (List.range t0.length).map (fun i => nth t2 (im ns i)) = (List.range t0.length).map (fun i => nth t2 (num i)) from List.map_congr_left (fun i hi => by rw [im, hnn i (List.mem_range.1 hi), Int.toNat_natCast]), show pbY (fun x => nth ns x) t3 t0.length y.length d = pbY (fun x => (num x : Int)) t3 t0.length y.length d from pbY_congr (fun x hx => hnn x hx)] at HPL
  have HV0 := Lib.hid (show ((List.range t0.length).map fun i => nth t2 (num i)).length = t0.length by simp)
  have HV1 := Lib.hid (pbY_len (fun x => (num x : Int)) t3 t0.length y.length d)
  have HNS := Lib.hid hns
  obtain ⟨z0, hz0⟩ : ∃ z0, (List.range t0.length).map (fun i => nth t2 (num i)) = z0 := ⟨_, rfl⟩
  obtain ⟨z1, hz1⟩ : ∃ z1, pbY (fun x => (num x : Int)) t3 t0.length y.length d = z1 := ⟨_, rfl⟩
  obtain ⟨cn, hcn⟩ : ∃ cn, cellsN t0.length d = cn := ⟨_, rfl⟩
  rw [hz0] at HQ HPL HV0
  rw [hz1] at HQ HPL HV1
  rw [hcn] at HPL HV1
  have k0 := b0.cell 0
  clear hz hg hn hsz hsx hy hnm hns hnl hnn hnum hR hX hU hF hs hx hu hf HSY hml hy8 hy1 hMF hlen hN8 hN1 hd3 hz0 hz1 hcn
  go_enter Tryz.func25, Tryz.ntmps25
  go_wp2_with fail
  generalize (((((w.alloc (.cells #[.slice B0 t0.length d0] 36)).alloc (.cells #[.int .i64 (M : Int), .slice B2 t2.length d2] 38)).alloc (.cells #[.int .i64 (d : Int), .slice B3 t3.length d3] 33)).alloc (.cells #[.int .i64 0, .slice none 0 0] 38)).alloc (.cells #[.int .i64 0, .slice none 0 0] 33)) = W0 at *
  refine (HSG.out W0 e0).mono ?_
  rintro e W1 ⟨rfl, he1⟩
  have HE1 := Lib.hid (e0.trans he1)
  have HB0 := Lib.hid (b0.ex he1)
  have HB1 := Lib.hid (b1.ex he1)
  have HB2 := Lib.hid (b2.ex he1)
  have HB3 := Lib.hid (b3.ex he1)
  have HB4 := Lib.hid (b4.ex he1)
  clear b0 b1 b2 b3 b4 e0 he1 k0 HSG
  have k0 := HB0.out.cell 0
  go_wp2_with fail
  refine (HNO.out W1 HE1.out).mono ?_
  rintro e W2 ⟨rfl, he2⟩
  have HE2 := Lib.hid (HE1.out.trans he2)
  have HB02 := Lib.hid (HB0.out.ex he2)
  have HB12 := Lib.hid (HB1.out.ex he2)
  have HB22 := Lib.hid (HB2.out.ex he2)
  have HB32 := Lib.hid (HB3.out.ex he2)
  have HB42 := Lib.hid (HB4.out.ex he2)
  clear he2 k0 HNO
  have k0 := HB02.out.cell 0
  go_wp2_with fail
  refine (HQT.out W2 HE2.out).mono ?_
  rintro e W3 ⟨C0, n0, D, rfl, he3, hlD, hD, hO⟩
  obtain ⟨s, hs1⟩ : ∃ s, W3.heap.size = s := ⟨_, rfl⟩
  have ea := he3.trans (Ex.new W3 (.cells #[.slice C0 y.length n0] 36))
  have HE3 := Lib.hid (HE2.out.trans ea)
  have HB03 := Lib.hid (HB02.out.ex ea)
  have HB13 := Lib.hid (HB12.out.ex ea)
  have HB23 := Lib.hid (HB22.out.ex ea)
  have HB33 := Lib.hid (HB32.out.ex ea)
  have HB43 := Lib.hid (HB42.out.ex ea)
  have HG : Hid (Has (W3.alloc (.cells #[.slice C0 y.length n0] 36)) s 36 #[.slice C0 y.length n0]) := Lib.hid (Has.newAt hs1)
  have HY := Lib.hid ((hO.ex (Ex.new W3 (.cells #[.slice C0 y.length n0] 36))).rws)
  have HN := Lib.hid (((has_num hD (Nat.zero_le D)).ex (Ex.new W3 (.cells #[.slice C0 y.length n0] 36))).ints)
  clear he3 ea hlD hD hO k0 HQT
  rw [HNS.out] at HN
  go_upto_region 7 with (fail)
  simp only [hs1] at *
  clear hs1
  generalize W3.alloc (.cells #[.slice C0 y.length n0] 36) = W4 at *
  have k0 := HG.out.cell 0
  have k1 := HB13.out.cell 0
  have k1' := HB13.out.cell 1
  have k2 := HB23.out.cell 0
  have k2' := HB23.out.cell 1
  go_wp2_with fail
  have en := Ex.new W4 (.cells #[.int .i64 (d : Int), .slice B3 t3.length d3] 33)
  refine (HCO.out _ C0 n0 W4.heap.size (HE3.out.trans en) (HY.out.ex en) (Has.new W4 33 #[.int .i64 (d : Int), .slice B3 t3.length d3])).mono ?_
  rintro e W5 ⟨rfl, he5⟩
  have ex5 := en.trans he5
  have HE5 := Lib.hid (HE3.out.trans ex5)
  have HB35 := Lib.hid (HB33.out.ex ex5)
  have HB45 := Lib.hid (HB43.out.ex ex5)
  have HN5 := Lib.hid (HN.out.ex ex5)
  have g0 := (HB03.out.ex ex5).cell 0
  have g1 := (HB13.out.ex ex5).cell 0
  have g1' := (HB13.out.ex ex5).cell 1
  have g2 := (HB23.out.ex ex5).cell 0
  have g2' := (HB23.out.ex ex5).cell 1
  have g3 := (HG.out.ex ex5).cell 0
  clear he5 en ex5 k0 k1 k1' k2 k2'
  go_wp2_with fail
  refine (HPL.out W5 C0 n0 D HE5.out HN5.out).mono ?_
  rintro e W6 ⟨A0, k0, A1, k1, rfl, he6, hO0, hO1⟩
  obtain ⟨z, hz⟩ : ∃ z, W6.heap.size = z := ⟨_, rfl⟩
  have ea := (Ex.new W6 (.cells #[.int .i64 (M : Int), .slice A0 t0.length k0] 38)).alloc (.cells #[.int .i64 (d : Int), .slice A1 cn k1] 33)
  have HE6 := Lib.hid (HE5.out.trans (he6.trans ea))
  have HB36 := Lib.hid (HB35.out.ex (he6.trans ea))
  have HB46 := Lib.hid (HB45.out.ex (he6.trans ea))
  have HM6 : Hid (Has ((W6.alloc (.cells #[.int .i64 (M : Int), .slice A0 t0.length k0] 38)).alloc (.cells #[.int .i64 (d : Int), .slice A1 cn k1] 33)) z 38 #[.int .i64 (M : Int), .slice A0 t0.length k0]) := Lib.hid ((Has.newAt hz).alloc _)
  have HK6 : Hid (Has ((W6.alloc (.cells #[.int .i64 (M : Int), .slice A0 t0.length k0] 38)).alloc (.cells #[.int .i64 (d : Int), .slice A1 cn k1] 33)) (z + 1) 33 #[.int .i64 (d : Int), .slice A1 cn k1]) := Lib.hid (Has.newAt (by simp [hz]))
  have HO0 := Lib.hid (hO0.ex ea)
  have HO1 := Lib.hid (hO1.ex ea)
  have hl4 := HB35.out.lt
  have hl5 := HB45.out.lt
  have hl0 := HE5.out.size
  have hlz : W5.heap.size ≤ z := by rw [← hz]; exact he6.size
  clear he6 hO0 hO1 ea g0 g1 g1' g2 g2' g3
  go_wp2_with fail
  simp only [hz] at *
  generalize ((W6.alloc (.cells #[.int .i64 (M : Int), .slice A0 t0.length k0] 38)).alloc (.cells #[.int .i64 (d : Int), .slice A1 cn k1] 33)) = W7 at *
  have p3 := HB36.out.cell 0
  have p3' := HB36.out.cell 1
  have f3 := HB36.out.free 0
  have f3' := HB36.out.free 1
  have p4 := HB46.out.cell 0
  have p4' := HB46.out.cell 1
  have f4 := HB46.out.free 0
  have f4' := HB46.out.free 1
  have hC0 := And.intro (HM6.out.cell 0) (And.intro (HM6.out.cell 1) (And.intro (HK6.out.cell 0) (HK6.out.cell 1)))
  refine Late.region (C := fun w' => w'.cell? ⟨z, 0, none⟩ = some (.int .i64 (M : Int)) ∧ w'.cell? ⟨z, 1, none⟩ = some (.slice A0 t0.length k0) ∧ w'.cell? ⟨z + 1, 0, none⟩ = some (.int .i64 (d : Int)) ∧ w'.cell? ⟨z + 1, 1, none⟩ = some (.slice A1 cn k1)) (fun j => decide (j < 3)) (by kernel_rfl) hC0 (fun hC => ?_)
  refine Late.take (i := 0) (oi := _) (v := ?_) rfl (by kernel_rfl) (by kernel_rfl) (by kernel_rfl) (by kernel_rfl) (fun _ _ _ h => h) (Or.inl ⟨by rfl, ?_⟩) hC ?_
  rotate_left
  · (intro w hSw; (try dsimp only at hSw); go_simp; first | done | with_reducible rfl)
  simp only [Act.put]
  refine Late.take (i := 1) (oi := _) (v := ?_) rfl (by kernel_rfl) (by kernel_rfl) (by kernel_rfl) (by kernel_rfl) (fun _ _ _ h => h) (Or.inl ⟨by rfl, ?_⟩) hC ?_
  rotate_left
  · (intro w hSw; (try dsimp only at hSw); go_simp; first | done | with_reducible rfl)
  simp only [Act.put]
  have F8 := (HM6.out.far (p := ⟨w.heap.size + 1 + 1 + 1, 0, none⟩) (by show z ≠ w.heap.size + 1 + 1 + 1; omega) (.int .i64 (M : Int))).far (p := ⟨w.heap.size + 1 + 1 + 1, 1, none⟩) (by show z ≠ w.heap.size + 1 + 1 + 1; omega) (.slice A0 t0.length k0)
  have F9 := (HK6.out.far (p := ⟨w.heap.size + 1 + 1 + 1, 0, none⟩) (by show z + 1 ≠ w.heap.size + 1 + 1 + 1; omega) (.int .i64 (M : Int))).far (p := ⟨w.heap.size + 1 + 1 + 1, 1, none⟩) (by show z + 1 ≠ w.heap.size + 1 + 1 + 1; omega) (.slice A0 t0.length k0)
  have hC6 := And.intro (F8.cell 0) (And.intro (F8.cell 1) (And.intro (F9.cell 0) (F9.cell 1)))
  clear F8 F9
  refine Late.one (i := 2) (o := _) (by kernel_rfl) rfl (fun K' hK' => ?_)
  go_simp
  refine hK'.out _ _ (fun _ => hC6) (fun _ => ?_)
  clear hK' K' hC6 hC hC0
  try simp only [Act.put, List.setIfInBounds_toArray, List.set_cons_zero, List.set_cons_succ]
  refine Late.one (i := 3) (o := _) (by kernel_rfl) rfl (fun K' hK' => ?_)
  go_simp
  refine hK'.out _ _ (fun h => by cases h) (fun _ => ?_)
  clear hK' K'
  try simp only [Act.put, List.setIfInBounds_toArray, List.set_cons_zero, List.set_cons_succ]
  refine Late.one (i := 4) (o := _) (by kernel_rfl) rfl (fun K' hK' => ?_)
  go_simp
  refine hK'.out _ _ (fun h => by cases h) (fun _ => ?_)
  clear hK' K'
  try simp only [Act.put, List.setIfInBounds_toArray, List.set_cons_zero, List.set_cons_succ]
  refine Late.done (by kernel_rfl) ?_ _
  go_wp2_with fail
  have H4 := (Has.far (p := ⟨w.heap.size + 1 + 1 + 1 + 1, 1, none⟩) (Has.far (p := ⟨w.heap.size + 1 + 1 + 1 + 1, 0, none⟩) (HB36.out.put2 (u := .int .i64 (M : Int)) (v := .slice A0 t0.length k0)) (by show w.heap.size + 1 + 1 + 1 ≠ w.heap.size + 1 + 1 + 1 + 1; omega) (.int .i64 (d : Int))) (by show w.heap.size + 1 + 1 + 1 ≠ w.heap.size + 1 + 1 + 1 + 1; omega) (.slice A1 cn k1))
  have H5 := Has.put2 (u := .int .i64 (d : Int)) (v := .slice A1 cn k1) (Has.far (p := ⟨w.heap.size + 1 + 1 + 1, 1, none⟩) (Has.far (p := ⟨w.heap.size + 1 + 1 + 1, 0, none⟩) HB46.out (by show w.heap.size + 1 + 1 + 1 + 1 ≠ w.heap.size + 1 + 1 + 1; omega) (.int .i64 (M : Int))) (by show w.heap.size + 1 + 1 + 1 + 1 ≠ w.heap.size + 1 + 1 + 1; omega) (.slice A0 t0.length k0))
  have c4 := H4.cell 0
  have c4' := H4.cell 1
  have c5 := H5.cell 0
  have c5' := H5.cell 1
  refine bodyPost_ret (v := .tuple #[.agg #[.int .i64 (M : Int), .slice A0 t0.length k0], .agg #[.int .i64 (d : Int), .slice A1 cn k1], .int .i64 0]) (by simp [results, Tryz.results25, go_sem, c4, c4', c5, c5']) rfl (TwS.of (C0 := A0) (e0 := k0) (C1 := A1) (e1 := k1) HQ.out (by rw [HV0.out, HV1.out]) ((((HE6.out.drew.setCell (by show w.heap.size ≤ w.heap.size + 1 + 1 + 1; omega) _).setCell (by show w.heap.size ≤ w.heap.size + 1 + 1 + 1; omega) _).setCell (by show w.heap.size ≤ w.heap.size + 1 + 1 + 1 + 1; omega) _).setCell (by show w.heap.size ≤ w.heap.size + 1 + 1 + 1 + 1; omega) _) ?_ ?_)
  · exact (((((HO0.out.ex (Ex.refl W7).drew).above (Only.set _ _ _ _) hl4).above (Only.set _ _ _ _) hl4).above (Only.set _ _ _ _) hl5).above (Only.set _ _ _ _) hl5).mono hl0 (by have := HM6.out.lt; simp only [World.size_setCell, World.size_drew]; omega) (Nat.le_refl _)
  · exact (((((HO1.out.ex (Ex.refl W7).drew).above (Only.set _ _ _ _) hl4).above (Only.set _ _ _ _) hl4).above (Only.set _ _ _ _) hl5).above (Only.set _ _ _ _) hl5).mono hl0 (by have := HM6.out.lt; simp only [World.size_setCell, World.size_drew]; omega) (Nat.le_refl _)

theorem specInflateCochain_ex (t0 : List (List Int)) (t1 : List Int) (m2 : Int) (t2 : List Int) (m3 : Int) (t3 : List Int) : ∀ (B0 : Option Addr) (d0 : Nat) (B1 : Option Addr) (d1 : Nat) (B2 : Option Addr) (d2 : Nat) (B3 : Option Addr) (d3 : Nat) (W : World), RwsW W B0 t0 → IntsW W B1 t1 → IntsW W B2 t2 → IntsW W B3 t3 → SmallT t0 → t1.length ≤ 1048576 → t2.length ≤ 1048576 → t3.length ≤ 1048576 →
    Calls Tryz.prog 25 #[.agg #[.slice B0 t0.length d0], .slice B1 t1.length d1, .agg #[.int .i64 m2, .slice B2 t2.length d2], .agg #[.int .i64 m3, .slice B3 t3.length d3]] W (TwS (qInflateCochain0 t0 t1 m2 t2 m3 t3) (yInflateCochain0 t0 t1 m2 t2 m3 t3) (qInflateCochain1 t0 t1 m2 t2 m3 t3) (yInflateCochain1 t0 t1 m2 t2 m3 t3) (qInflateCochain2 t0 t1 m2 t2 m3 t3) W) := by
  intro B0 d0 B1 d1 B2 d2 B3 d3 w hR hX hU hF hs hx hu hf
  by_cases hz : sgC t0 t1 [] = 0
  · cases hn : norB t0 (bitsK t1 t1.length) with
    | false => exact specIC_nor t0 t1 m2 t2 m3 t3 B0 d0 B1 d1 B2 d2 B3 d3 w hR hX hs hx hz hn
    | true =>
      have hq : quC t0 t1 = 0 := by rw [quC_of hz, hn, if_pos rfl]
      cases hg : gmcB (yQuotientOf0 t0 t1) m2 t2 m3 t3 with
      | false => exact specIC_no t0 t1 m2 t2 m3 t3 B0 d0 B1 d1 B2 d2 B3 d3 w hR hX hU hF hs hx hu hf hq hg
      | true =>
        obtain ⟨M, d, rfl, rfl, hMF, hd3, hlen, -, -⟩ := gmc_facts hg
        exact specIC_yes t0 t1 M t2 d t3 B0 d0 B1 d1 B2 d2 B3 d3 w hR hX hU hF hs hx hu hf hq hg hMF hd3 hlen
  · exact specIC_code t0 t1 m2 t2 m3 t3 B0 d0 B1 d1 B2 d2 B3 d3 w hR hX hs hx hz

end Go.Proofs.YtfnjpbjlikajbaaGreatDoor
