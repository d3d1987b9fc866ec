/- InflateCochain: the program's contract. -/
import Derived.Test.YtfnjpbjlikajbaaGreatDoorNa
import Derived.Test.YtfnjpbjlikajbaaGreatDoorQu
namespace Go.Proofs.YtfnjpbjlikajbaaGreatDoor
open Go.RowKit Go.Shelf

set_option maxRecDepth 100000 in
set_option maxHeartbeats 4000000 in
theorem implIC_qu (t0 : List (List Int)) (t1 : List Int) (m2 : Int) (t2 : List Int) (m3 : Int) (t3 : List Int) (B0 : Option Addr) (d0 : Nat) (B1 : Option Addr) (d1 : Nat) (B2 : Option Addr) (d2 : Nat) (B3 : Option Addr) (d3 : Nat) (w : World) (hR : RwsW w B0 t0) (hX : IntsW w B1 t1) (hs : SmallT t0) (hx : t1.length ≤ 1048576) (hT : TabL w) (hz : quC t0 t1 ≠ 0) :
    Calls Tryz.prog 26 #[.agg #[.slice B0 t0.length d0], .slice B1 t1.length d1, .agg #[.int .i64 m2, .slice B2 t2.length d2], .agg #[.int .i64 m3, .slice B3 t3.length d3]] w (TwP (qInflateCochain0 t0 t1 m2 t2 m3 t3) (yInflateCochain0 t0 t1 m2 t2 m3 t3) (qInflateCochain1 t0 t1 m2 t2 m3 t3) (yInflateCochain1 t0 t1 m2 t2 m3 t3) (qInflateCochain2 t0 t1 m2 t2 m3 t3) w) := by
  have e0 : Ex w (((((w.alloc (.cells #[.slice B0 t0.length d0] 36)).alloc (.cells #[.int .i64 m2, .slice B2 t2.length d2] 38)).alloc (.cells #[.int .i64 m3, .slice B3 t3.length d3] 33)).alloc (.cells #[.int .i64 0, .slice none 0 0] 38)).alloc (.cells #[.int .i64 0, .slice none 0 0] 33)) := (((((Ex.refl w).alloc _).alloc _).alloc _).alloc _).alloc _
  have b0 : Has (((((w.alloc (.cells #[.slice B0 t0.length d0] 36)).alloc (.cells #[.int .i64 m2, .slice B2 t2.length d2] 38)).alloc (.cells #[.int .i64 m3, .slice B3 t3.length d3] 33)).alloc (.cells #[.int .i64 0, .slice none 0 0] 38)).alloc (.cells #[.int .i64 0, .slice none 0 0] 33)) (w.heap.size) 36 #[.slice B0 t0.length d0] := (((((Has.newAt (w := w) (e := 36) (cs := #[.slice B0 t0.length d0]) (k := w.heap.size) (by simp)).alloc _).alloc _).alloc _).alloc _)
  have b1 : Has (((((w.alloc (.cells #[.slice B0 t0.length d0] 36)).alloc (.cells #[.int .i64 m2, .slice B2 t2.length d2] 38)).alloc (.cells #[.int .i64 m3, .slice B3 t3.length d3] 33)).alloc (.cells #[.int .i64 0, .slice none 0 0] 38)).alloc (.cells #[.int .i64 0, .slice none 0 0] 33)) (w.heap.size + 1) 38 #[.int .i64 m2, .slice B2 t2.length d2] := ((((Has.newAt (w := (w.alloc (.cells #[.slice B0 t0.length d0] 36))) (e := 38) (cs := #[.int .i64 m2, .slice B2 t2.length d2]) (k := w.heap.size + 1) (by simp)).alloc _).alloc _).alloc _)
  have b2 : Has (((((w.alloc (.cells #[.slice B0 t0.length d0] 36)).alloc (.cells #[.int .i64 m2, .slice B2 t2.length d2] 38)).alloc (.cells #[.int .i64 m3, .slice B3 t3.length d3] 33)).alloc (.cells #[.int .i64 0, .slice none 0 0] 38)).alloc (.cells #[.int .i64 0, .slice none 0 0] 33)) (w.heap.size + 1 + 1) 33 #[.int .i64 m3, .slice B3 t3.length d3] := (((Has.newAt (w := ((w.alloc (.cells #[.slice B0 t0.length d0] 36)).alloc (.cells #[.int .i64 m2, .slice B2 t2.length d2] 38))) (e := 33) (cs := #[.int .i64 m3, .slice B3 t3.length d3]) (k := w.heap.size + 1 + 1) (by simp)).alloc _).alloc _)
  have b3 : Has (((((w.alloc (.cells #[.slice B0 t0.length d0] 36)).alloc (.cells #[.int .i64 m2, .slice B2 t2.length d2] 38)).alloc (.cells #[.int .i64 m3, .slice B3 t3.length d3] 33)).alloc (.cells #[.int .i64 0, .slice none 0 0] 38)).alloc (.cells #[.int .i64 0, .slice none 0 0] 33)) (w.heap.size + 1 + 1 + 1) 38 #[.int .i64 0, .slice none 0 0] := ((Has.newAt (w := (((w.alloc (.cells #[.slice B0 t0.length d0] 36)).alloc (.cells #[.int .i64 m2, .slice B2 t2.length d2] 38)).alloc (.cells #[.int .i64 m3, .slice B3 t3.length d3] 33))) (e := 38) (cs := #[.int .i64 0, .slice none 0 0]) (k := w.heap.size + 1 + 1 + 1) (by simp)).alloc _)
  have b4 : Has (((((w.alloc (.cells #[.slice B0 t0.length d0] 36)).alloc (.cells #[.int .i64 m2, .slice B2 t2.length d2] 38)).alloc (.cells #[.int .i64 m3, .slice B3 t3.length d3] 33)).alloc (.cells #[.int .i64 0, .slice none 0 0] 38)).alloc (.cells #[.int .i64 0, .slice none 0 0] 33)) (w.heap.size + 1 + 1 + 1 + 1) 33 #[.int .i64 0, .slice none 0 0] := (Has.newAt (w := ((((w.alloc (.cells #[.slice B0 t0.length d0] 36)).alloc (.cells #[.int .i64 m2, .slice B2 t2.length d2] 38)).alloc (.cells #[.int .i64 m3, .slice B3 t3.length d3] 33)).alloc (.cells #[.int .i64 0, .slice none 0 0] 38))) (e := 33) (cs := #[.int .i64 0, .slice none 0 0]) (k := w.heap.size + 1 + 1 + 1 + 1) (by simp))
  have HQU := Lib.hid (fun W (he : Ex w W) => implQuotientOf_ex t0 t1 B0 d0 B1 d1 W (hR.ex he) (hX.ex he) hs hx (hT.ex he))
  obtain ⟨z, hzz⟩ : ∃ z, quC t0 t1 = z := ⟨_, rfl⟩
  rw [hzz] at hz
  have HQ := Lib.hid (ic_no (m := m2) (us := t2) (n := m3) (fs := t3) (icC_qu hzz hz) hz)
  rw [show qQuotientOf2 t0 t1 = z from hzz] at HQU
  have hzb : (z != 0) = true := by simpa using hz
  obtain ⟨y, hy⟩ : ∃ y, yQuotientOf0 t0 t1 = y := ⟨_, rfl⟩
  obtain ⟨ns, hns⟩ : ∃ ns, yQuotientOf1 t0 t1 = ns := ⟨_, rfl⟩
  rw [hy, hns] at HQU
  have k0 := b0.cell 0
  clear hzz hz hy hns hR hX hs hx hT
  go_enter Tryz.func26, Tryz.ntmps26
  go_wp2_with fail
  generalize (((((w.alloc (.cells #[.slice B0 t0.length d0] 36)).alloc (.cells #[.int .i64 m2, .slice B2 t2.length d2] 38)).alloc (.cells #[.int .i64 m3, .slice B3 t3.length d3] 33)).alloc (.cells #[.int .i64 0, .slice none 0 0] 38)).alloc (.cells #[.int .i64 0, .slice none 0 0] 33)) = W0 at *
  refine (HQU.out W0 e0).mono ?_
  rintro e W1 ⟨C0, n0, C1, n1, mid, rfl, he1, -, -, -, -⟩
  have ea := he1.trans (Ex.new W1 (.cells #[.slice C0 y.length n0] 36))
  have HE1 := Lib.hid (e0.trans ea)
  have HB3 := Lib.hid (b3.ex ea)
  have HB4 := Lib.hid (b4.ex ea)
  clear b0 b1 b2 b3 b4 e0 he1 ea k0 HQU
  go_upto_region 2 with (fail)
  generalize W1.alloc (.cells #[.slice C0 y.length n0] 36) = W2 at *
  have p3 := HB3.out.cell 0
  have p3' := HB3.out.cell 1
  have f3 := HB3.out.free 0
  have f3' := HB3.out.free 1
  have p4 := HB4.out.cell 0
  have p4' := HB4.out.cell 1
  have f4 := HB4.out.free 0
  have f4' := HB4.out.free 1
  go_wp2_with fail
  have H4 := (Has.far (p := ⟨w.heap.size + 1 + 1 + 1 + 1, 1, none⟩) (Has.far (p := ⟨w.heap.size + 1 + 1 + 1 + 1, 0, none⟩) (HB3.out.put2 (u := .int .i64 0) (v := .slice none 0 0)) (by show w.heap.size + 1 + 1 + 1 ≠ w.heap.size + 1 + 1 + 1 + 1; omega) (.int .i64 0)) (by show w.heap.size + 1 + 1 + 1 ≠ w.heap.size + 1 + 1 + 1 + 1; omega) (.slice none 0 0))
  have H5 := Has.put2 (u := .int .i64 0) (v := .slice none 0 0) (Has.far (p := ⟨w.heap.size + 1 + 1 + 1, 1, none⟩) (Has.far (p := ⟨w.heap.size + 1 + 1 + 1, 0, none⟩) HB4.out (by show w.heap.size + 1 + 1 + 1 + 1 ≠ w.heap.size + 1 + 1 + 1; omega) (.int .i64 0)) (by show w.heap.size + 1 + 1 + 1 + 1 ≠ w.heap.size + 1 + 1 + 1; omega) (.slice none 0 0))
  have c4 := H4.cell 0
  have c4' := H4.cell 1
  have c5 := H5.cell 0
  have c5' := H5.cell 1
  refine bodyPost_ret (v := .tuple #[.agg #[.int .i64 0, .slice none 0 0], .agg #[.int .i64 0, .slice none 0 0], .int .i64 z]) (by simp [results, Tryz.results26, go_sem, c4, c4', c5, c5']) rfl (TwP.err HQ.out rfl ((((HE1.out.setCell (by show w.heap.size ≤ w.heap.size + 1 + 1 + 1; omega) _).setCell (by show w.heap.size ≤ w.heap.size + 1 + 1 + 1; omega) _).setCell (by show w.heap.size ≤ w.heap.size + 1 + 1 + 1 + 1; omega) _).setCell (by show w.heap.size ≤ w.heap.size + 1 + 1 + 1 + 1; omega) _))

set_option maxRecDepth 100000 in
set_option maxHeartbeats 4000000 in
theorem implIC_no (t0 : List (List Int)) (t1 : List Int) (m2 : Int) (t2 : List Int) (m3 : Int) (t3 : List Int) (B0 : Option Addr) (d0 : Nat) (B1 : Option Addr) (d1 : Nat) (B2 : Option Addr) (d2 : Nat) (B3 : Option Addr) (d3 : Nat) (w : World) (hR : RwsW w B0 t0) (hX : IntsW w B1 t1) (hU : IntsW w B2 t2) (hF : IntsW w B3 t3) (hs : SmallT t0) (hx : t1.length ≤ 1048576) (hu : t2.length ≤ 1048576) (hf : t3.length ≤ 1048576) (hT : TabL w) (hz : quC t0 t1 = 0) (hg : gmcB (yQuotientOf0 t0 t1) m2 t2 m3 t3 = false) :
    Calls Tryz.prog 26 #[.agg #[.slice B0 t0.length d0], .slice B1 t1.length d1, .agg #[.int .i64 m2, .slice B2 t2.length d2], .agg #[.int .i64 m3, .slice B3 t3.length d3]] w (TwP (qInflateCochain0 t0 t1 m2 t2 m3 t3) (yInflateCochain0 t0 t1 m2 t2 m3 t3) (qInflateCochain1 t0 t1 m2 t2 m3 t3) (yInflateCochain1 t0 t1 m2 t2 m3 t3) (qInflateCochain2 t0 t1 m2 t2 m3 t3) w) := by
  have e0 : Ex w (((((w.alloc (.cells #[.slice B0 t0.length d0] 36)).alloc (.cells #[.int .i64 m2, .slice B2 t2.length d2] 38)).alloc (.cells #[.int .i64 m3, .slice B3 t3.length d3] 33)).alloc (.cells #[.int .i64 0, .slice none 0 0] 38)).alloc (.cells #[.int .i64 0, .slice none 0 0] 33)) := (((((Ex.refl w).alloc _).alloc _).alloc _).alloc _).alloc _
  have b0 : Has (((((w.alloc (.cells #[.slice B0 t0.length d0] 36)).alloc (.cells #[.int .i64 m2, .slice B2 t2.length d2] 38)).alloc (.cells #[.int .i64 m3, .slice B3 t3.length d3] 33)).alloc (.cells #[.int .i64 0, .slice none 0 0] 38)).alloc (.cells #[.int .i64 0, .slice none 0 0] 33)) (w.heap.size) 36 #[.slice B0 t0.length d0] := (((((Has.newAt (w := w) (e := 36) (cs := #[.slice B0 t0.length d0]) (k := w.heap.size) (by simp)).alloc _).alloc _).alloc _).alloc _)
  have b1 : Has (((((w.alloc (.cells #[.slice B0 t0.length d0] 36)).alloc (.cells #[.int .i64 m2, .slice B2 t2.length d2] 38)).alloc (.cells #[.int .i64 m3, .slice B3 t3.length d3] 33)).alloc (.cells #[.int .i64 0, .slice none 0 0] 38)).alloc (.cells #[.int .i64 0, .slice none 0 0] 33)) (w.heap.size + 1) 38 #[.int .i64 m2, .slice B2 t2.length d2] := ((((Has.newAt (w := (w.alloc (.cells #[.slice B0 t0.length d0] 36))) (e := 38) (cs := #[.int .i64 m2, .slice B2 t2.length d2]) (k := w.heap.size + 1) (by simp)).alloc _).alloc _).alloc _)
  have b2 : Has (((((w.alloc (.cells #[.slice B0 t0.length d0] 36)).alloc (.cells #[.int .i64 m2, .slice B2 t2.length d2] 38)).alloc (.cells #[.int .i64 m3, .slice B3 t3.length d3] 33)).alloc (.cells #[.int .i64 0, .slice none 0 0] 38)).alloc (.cells #[.int .i64 0, .slice none 0 0] 33)) (w.heap.size + 1 + 1) 33 #[.int .i64 m3, .slice B3 t3.length d3] := (((Has.newAt (w := ((w.alloc (.cells #[.slice B0 t0.length d0] 36)).alloc (.cells #[.int .i64 m2, .slice B2 t2.length d2] 38))) (e := 33) (cs := #[.int .i64 m3, .slice B3 t3.length d3]) (k := w.heap.size + 1 + 1) (by simp)).alloc _).alloc _)
  have b3 : Has (((((w.alloc (.cells #[.slice B0 t0.length d0] 36)).alloc (.cells #[.int .i64 m2, .slice B2 t2.length d2] 38)).alloc (.cells #[.int .i64 m3, .slice B3 t3.length d3] 33)).alloc (.cells #[.int .i64 0, .slice none 0 0] 38)).alloc (.cells #[.int .i64 0, .slice none 0 0] 33)) (w.heap.size + 1 + 1 + 1) 38 #[.int .i64 0, .slice none 0 0] := ((Has.newAt (w := (((w.alloc (.cells #[.slice B0 t0.length d0] 36)).alloc (.cells #[.int .i64 m2, .slice B2 t2.length d2] 38)).alloc (.cells #[.int .i64 m3, .slice B3 t3.length d3] 33))) (e := 38) (cs := #[.int .i64 0, .slice none 0 0]) (k := w.heap.size + 1 + 1 + 1) (by simp)).alloc _)
  have b4 : Has (((((w.alloc (.cells #[.slice B0 t0.length d0] 36)).alloc (.cells #[.int .i64 m2, .slice B2 t2.length d2] 38)).alloc (.cells #[.int .i64 m3, .slice B3 t3.length d3] 33)).alloc (.cells #[.int .i64 0, .slice none 0 0] 38)).alloc (.cells #[.int .i64 0, .slice none 0 0] 33)) (w.heap.size + 1 + 1 + 1 + 1) 33 #[.int .i64 0, .slice none 0 0] := (Has.newAt (w := ((((w.alloc (.cells #[.slice B0 t0.length d0] 36)).alloc (.cells #[.int .i64 m2, .slice B2 t2.length d2] 38)).alloc (.cells #[.int .i64 m3, .slice B3 t3.length d3] 33)).alloc (.cells #[.int .i64 0, .slice none 0 0] 38))) (e := 33) (cs := #[.int .i64 0, .slice none 0 0]) (k := w.heap.size + 1 + 1 + 1 + 1) (by simp))
  have HQU := Lib.hid (fun W (he : Ex w W) => implQuotientOf_ex t0 t1 B0 d0 B1 d1 W (hR.ex he) (hX.ex he) hs hx (hT.ex he))
  have HSY := Lib.hid (quotientOf_small0 t0 t1)
  rw [show qQuotientOf2 t0 t1 = 0 from hz] at HQU
  have HQ := Lib.hid (ic_no (icC_no hz hg) (by decide))
  obtain ⟨y, hy⟩ : ∃ y, yQuotientOf0 t0 t1 = y := ⟨_, rfl⟩
  obtain ⟨ns, hns⟩ : ∃ ns, yQuotientOf1 t0 t1 = ns := ⟨_, rfl⟩
  rw [hy] at HQU HSY hg
  rw [hns] at HQU
  have HCO := Lib.hid (fun (W : World) (C : Option Addr) (n : Nat) (he : Ex w W) (hr : RwsW W C y) => isCochain_any C B2 B3 y m2 t2 m3 t3 n d2 d3 W hr (hU.ex he) (hF.ex he) HSY.out hu hf)
  rw [show (gmB y m2 t2 && cocB y.length m2 m3 t3) = gmcB y m2 t2 m3 t3 from rfl, hg] at HCO
  have k0 := b0.cell 0
  clear hz hg hy hns hR hX hU hF hs hx hu hf hT HSY
  go_enter Tryz.func26, Tryz.ntmps26
  go_wp2_with fail
  generalize (((((w.alloc (.cells #[.slice B0 t0.length d0] 36)).alloc (.cells #[.int .i64 m2, .slice B2 t2.length d2] 38)).alloc (.cells #[.int .i64 m3, .slice B3 t3.length d3] 33)).alloc (.cells #[.int .i64 0, .slice none 0 0] 38)).alloc (.cells #[.int .i64 0, .slice none 0 0] 33)) = W0 at *
  refine (HQU.out W0 e0).mono ?_
  rintro e W1 ⟨C0, n0, C1, n1, mid, rfl, he1, -, -, ho1, ho0⟩
  obtain ⟨s, hs1⟩ : ∃ s, W1.heap.size = s := ⟨_, rfl⟩
  have ea := he1.trans (Ex.new W1 (.cells #[.slice C0 y.length n0] 36))
  have HE1 := Lib.hid (e0.trans ea)
  have HB0 := Lib.hid (b0.ex ea)
  have HB1 := Lib.hid (b1.ex ea)
  have HB2 := Lib.hid (b2.ex ea)
  have HB3 := Lib.hid (b3.ex ea)
  have HB4 := Lib.hid (b4.ex ea)
  have HG : Hid (Has (W1.alloc (.cells #[.slice C0 y.length n0] 36)) s 36 #[.slice C0 y.length n0]) := Lib.hid (Has.newAt hs1)
  have HY := Lib.hid ((ho0.ex (Ex.new W1 (.cells #[.slice C0 y.length n0] 36))).rws)
  have HN := Lib.hid ((ho1.ex (Ex.new W1 (.cells #[.slice C0 y.length n0] 36))).ints)
  clear b0 b1 b2 b3 b4 e0 he1 ea ho0 ho1 k0 HQU
  go_upto_region 2 with (fail)
  simp only [hs1] at *
  clear hs1
  generalize W1.alloc (.cells #[.slice C0 y.length n0] 36) = W2 at *
  have k0 := HG.out.cell 0
  have k1 := HB1.out.cell 0
  have k1' := HB1.out.cell 1
  have k2 := HB2.out.cell 0
  have k2' := HB2.out.cell 1
  go_wp2_with fail
  refine (HCO.out W2 C0 n0 HE1.out HY.out).mono ?_
  rintro e W3 ⟨rfl, he3⟩
  have HE3 := Lib.hid (HE1.out.trans he3)
  have HB33 := Lib.hid (HB3.out.ex he3)
  have HB43 := Lib.hid (HB4.out.ex he3)
  clear he3 k0 k1 k1' k2 k2'
  have p3 := HB33.out.cell 0
  have p3' := HB33.out.cell 1
  have f3 := HB33.out.free 0
  have f3' := HB33.out.free 1
  have p4 := HB43.out.cell 0
  have p4' := HB43.out.cell 1
  have f4 := HB43.out.free 0
  have f4' := HB43.out.free 1
  go_wp2_with fail
  have H4 := (Has.far (p := ⟨w.heap.size + 1 + 1 + 1 + 1, 1, none⟩) (Has.far (p := ⟨w.heap.size + 1 + 1 + 1 + 1, 0, none⟩) (HB33.out.put2 (u := .int .i64 0) (v := .slice none 0 0)) (by show w.heap.size + 1 + 1 + 1 ≠ w.heap.size + 1 + 1 + 1 + 1; omega) (.int .i64 0)) (by show w.heap.size + 1 + 1 + 1 ≠ w.heap.size + 1 + 1 + 1 + 1; omega) (.slice none 0 0))
  have H5 := Has.put2 (u := .int .i64 0) (v := .slice none 0 0) (Has.far (p := ⟨w.heap.size + 1 + 1 + 1, 1, none⟩) (Has.far (p := ⟨w.heap.size + 1 + 1 + 1, 0, none⟩) HB43.out (by show w.heap.size + 1 + 1 + 1 + 1 ≠ w.heap.size + 1 + 1 + 1; omega) (.int .i64 0)) (by show w.heap.size + 1 + 1 + 1 + 1 ≠ w.heap.size + 1 + 1 + 1; omega) (.slice none 0 0))
  have c4 := H4.cell 0
  have c4' := H4.cell 1
  have c5 := H5.cell 0
  have c5' := H5.cell 1
  refine bodyPost_ret (v := .tuple #[.agg #[.int .i64 0, .slice none 0 0], .agg #[.int .i64 0, .slice none 0 0], .int .i64 1]) (by simp [results, Tryz.results26, go_sem, c4, c4', c5, c5']) rfl (TwP.err HQ.out rfl ((((HE3.out.setCell (by show w.heap.size ≤ w.heap.size + 1 + 1 + 1; omega) _).setCell (by show w.heap.size ≤ w.heap.size + 1 + 1 + 1; omega) _).setCell (by show w.heap.size ≤ w.heap.size + 1 + 1 + 1 + 1; omega) _).setCell (by show w.heap.size ≤ w.heap.size + 1 + 1 + 1 + 1; omega) _))

set_option maxRecDepth 100000 in
set_option maxHeartbeats 8000000 in
theorem implIC_yes (t0 : List (List Int)) (t1 : List Int) (M : Nat) (t2 : List Int) (d : Nat) (t3 : List Int) (B0 : Option Addr) (d0 : Nat) (B1 : Option Addr) (d1 : Nat) (B2 : Option Addr) (d2 : Nat) (B3 : Option Addr) (d3 : Nat) (w : World) (hR : RwsW w B0 t0) (hX : IntsW w B1 t1) (hU : IntsW w B2 t2) (hF : IntsW w B3 t3) (hs : SmallT t0) (hx : t1.length ≤ 1048576) (hu : t2.length ≤ 1048576) (hf : t3.length ≤ 1048576) (hT : TabL w) (hz : quC t0 t1 = 0) (hg : gmcB (yQuotientOf0 t0 t1) (M : Int) t2 (d : Int) t3 = true) (hMF : ModF (yQuotientOf0 t0 t1) M t2) (hd3 : d ≤ 3) (hlen : t3.length = cellsN (yQuotientOf0 t0 t1).length d) :
    Calls Tryz.prog 26 #[.agg #[.slice B0 t0.length d0], .slice B1 t1.length d1, .agg #[.int .i64 (M : Int), .slice B2 t2.length d2], .agg #[.int .i64 (d : Int), .slice B3 t3.length d3]] w (TwP (qInflateCochain0 t0 t1 (M : Int) t2 (d : Int) t3) (yInflateCochain0 t0 t1 (M : Int) t2 (d : Int) t3) (qInflateCochain1 t0 t1 (M : Int) t2 (d : Int) t3) (yInflateCochain1 t0 t1 (M : Int) t2 (d : Int) t3) (qInflateCochain2 t0 t1 (M : Int) t2 (d : Int) t3) w) := by
  have e0 : Ex w (((((w.alloc (.cells #[.slice B0 t0.length d0] 36)).alloc (.cells #[.int .i64 (M : Int), .slice B2 t2.length d2] 38)).alloc (.cells #[.int .i64 (d : Int), .slice B3 t3.length d3] 33)).alloc (.cells #[.int .i64 0, .slice none 0 0] 38)).alloc (.cells #[.int .i64 0, .slice none 0 0] 33)) := (((((Ex.refl w).alloc _).alloc _).alloc _).alloc _).alloc _
  have b0 : Has (((((w.alloc (.cells #[.slice B0 t0.length d0] 36)).alloc (.cells #[.int .i64 (M : Int), .slice B2 t2.length d2] 38)).alloc (.cells #[.int .i64 (d : Int), .slice B3 t3.length d3] 33)).alloc (.cells #[.int .i64 0, .slice none 0 0] 38)).alloc (.cells #[.int .i64 0, .slice none 0 0] 33)) (w.heap.size) 36 #[.slice B0 t0.length d0] := (((((Has.newAt (w := w) (e := 36) (cs := #[.slice B0 t0.length d0]) (k := w.heap.size) (by simp)).alloc _).alloc _).alloc _).alloc _)
  have b1 : Has (((((w.alloc (.cells #[.slice B0 t0.length d0] 36)).alloc (.cells #[.int .i64 (M : Int), .slice B2 t2.length d2] 38)).alloc (.cells #[.int .i64 (d : Int), .slice B3 t3.length d3] 33)).alloc (.cells #[.int .i64 0, .slice none 0 0] 38)).alloc (.cells #[.int .i64 0, .slice none 0 0] 33)) (w.heap.size + 1) 38 #[.int .i64 (M : Int), .slice B2 t2.length d2] := ((((Has.newAt (w := (w.alloc (.cells #[.slice B0 t0.length d0] 36))) (e := 38) (cs := #[.int .i64 (M : Int), .slice B2 t2.length d2]) (k := w.heap.size + 1) (by simp)).alloc _).alloc _).alloc _)
  have b2 : Has (((((w.alloc (.cells #[.slice B0 t0.length d0] 36)).alloc (.cells #[.int .i64 (M : Int), .slice B2 t2.length d2] 38)).alloc (.cells #[.int .i64 (d : Int), .slice B3 t3.length d3] 33)).alloc (.cells #[.int .i64 0, .slice none 0 0] 38)).alloc (.cells #[.int .i64 0, .slice none 0 0] 33)) (w.heap.size + 1 + 1) 33 #[.int .i64 (d : Int), .slice B3 t3.length d3] := (((Has.newAt (w := ((w.alloc (.cells #[.slice B0 t0.length d0] 36)).alloc (.cells #[.int .i64 (M : Int), .slice B2 t2.length d2] 38))) (e := 33) (cs := #[.int .i64 (d : Int), .slice B3 t3.length d3]) (k := w.heap.size + 1 + 1) (by simp)).alloc _).alloc _)
  have b3 : Has (((((w.alloc (.cells #[.slice B0 t0.length d0] 36)).alloc (.cells #[.int .i64 (M : Int), .slice B2 t2.length d2] 38)).alloc (.cells #[.int .i64 (d : Int), .slice B3 t3.length d3] 33)).alloc (.cells #[.int .i64 0, .slice none 0 0] 38)).alloc (.cells #[.int .i64 0, .slice none 0 0] 33)) (w.heap.size + 1 + 1 + 1) 38 #[.int .i64 0, .slice none 0 0] := ((Has.newAt (w := (((w.alloc (.cells #[.slice B0 t0.length d0] 36)).alloc (.cells #[.int .i64 (M : Int), .slice B2 t2.length d2] 38)).alloc (.cells #[.int .i64 (d : Int), .slice B3 t3.length d3] 33))) (e := 38) (cs := #[.int .i64 0, .slice none 0 0]) (k := w.heap.size + 1 + 1 + 1) (by simp)).alloc _)
  have b4 : Has (((((w.alloc (.cells #[.slice B0 t0.length d0] 36)).alloc (.cells #[.int .i64 (M : Int), .slice B2 t2.length d2] 38)).alloc (.cells #[.int .i64 (d : Int), .slice B3 t3.length d3] 33)).alloc (.cells #[.int .i64 0, .slice none 0 0] 38)).alloc (.cells #[.int .i64 0, .slice none 0 0] 33)) (w.heap.size + 1 + 1 + 1 + 1) 33 #[.int .i64 0, .slice none 0 0] := (Has.newAt (w := ((((w.alloc (.cells #[.slice B0 t0.length d0] 36)).alloc (.cells #[.int .i64 (M : Int), .slice B2 t2.length d2] 38)).alloc (.cells #[.int .i64 (d : Int), .slice B3 t3.length d3] 33)).alloc (.cells #[.int .i64 0, .slice none 0 0] 38))) (e := 33) (cs := #[.int .i64 0, .slice none 0 0]) (k := w.heap.size + 1 + 1 + 1 + 1) (by simp))
  have HQU := Lib.hid (fun W (he : Ex w W) => implQuotientOf_ex t0 t1 B0 d0 B1 d1 W (hR.ex he) (hX.ex he) hs hx (hT.ex he))
  have HSY := Lib.hid (quotientOf_small0 t0 t1)
  rw [show qQuotientOf2 t0 t1 = 0 from hz] at HQU
  have HQ := Lib.hid (ic_yes (icC_yes hz hg))
  have hN8 := (quC_sub hz).1.g.n8
  have hN1 := (quC_sub hz).1.g.n1
  have hl1 : (yQuotientOf1 t0 t1).length = t0.length := by rw [(qu_yes hz).2.1]; simp
  have hnum : ∀ x, x < t0.length → nth (yQuotientOf1 t0 t1) x = ((quS t0 t1).num x : Int) ∧ (quS t0 t1).num x < (yQuotientOf0 t0 t1).length := fun x hx => ⟨by rw [(qu_yes hz).2.1]; simp [nth, hx], qu_num hz hx⟩
  obtain ⟨y, hy⟩ : ∃ y, yQuotientOf0 t0 t1 = y := ⟨_, rfl⟩
  obtain ⟨ns, hns⟩ : ∃ ns, yQuotientOf1 t0 t1 = ns := ⟨_, rfl⟩
  obtain ⟨num, hnm⟩ : ∃ num, (quS t0 t1).num = num := ⟨_, rfl⟩
  rw [hy] at HQU HSY HQ hg hMF hlen
  rw [hns] at HQU hl1
  rw [hnm] at HQ
  rw [hns, hnm, hy] at hnum
  have HCO := Lib.hid (fun (W : World) (C : Option Addr) (n : Nat) (he : Ex w W) (hr : RwsW W C y) => isCochain_any C B2 B3 y (M : Int) t2 (d : Int) t3 n d2 d3 W hr (hU.ex he) (hF.ex he) HSY.out hu hf)
  rw [show (gmB y (M : Int) t2 && cocB y.length (M : Int) (d : Int) t3) = gmcB y (M : Int) t2 (d : Int) t3 from rfl, hg] at HCO
  have hml := hMF.len
  have hy8 := hMF.g.n8
  have hy1 := hMF.g.n1
  have HPM := Lib.hid (fun (W : World) (C0 C1 : Option Addr) (n0 n1 : Nat) (he : Ex w W) (hi : IntsW W C1 ns) => prjModule_any B0 C0 C1 B2 d0 y.length n0 n1 d2 num (M : Int) t2 ns W hi (by omega) (hU.ex he) (by omega) (fun x hx => ⟨(hnum x (by omega)).1, by rw [hml]; exact (hnum x (by omega)).2⟩))
  have HPC := Lib.hid (fun (W : World) (C0 C1 : Option Addr) (n0 n1 : Nat) (he : Ex w W) (hi : IntsW W C1 ns) => prjCochain_any B0 C0 C1 B3 d0 y.length n0 n1 d3 d num t3 ns W hi (by omega) (by omega) hy8 hy1 (hF.ex he) hd3 hlen (fun x hx => hnum x (by omega)))
  rw [hl1] at HQU HPM HPC
  have HV0 := Lib.hid (show ((List.range t0.length).map fun i => nth t2 (num i)).length = t0.length by simp)
  have HV1 := Lib.hid (pbY_len (fun x => (num x : Int)) t3 t0.length y.length d)
  obtain ⟨z0, hz0⟩ : ∃ z0, (List.range t0.length).map (fun i => nth t2 (num i)) = z0 := ⟨_, rfl⟩
  obtain ⟨z1, hz1⟩ : ∃ z1, pbY (fun x => (num x : Int)) t3 t0.length y.length d = z1 := ⟨_, rfl⟩
  obtain ⟨cn, hcn⟩ : ∃ cn, cellsN t0.length d = cn := ⟨_, rfl⟩
  rw [hz0] at HQ HPM HV0
  rw [hz1] at HQ HPC HV1
  rw [hcn] at HPC HV1
  have k0 := b0.cell 0
  clear hz hg hy hns hnm hnum hR hX hU hF hs hx hu hf hT HSY hl1 hml hy8 hy1 hMF hlen hN8 hN1 hd3 hz0 hz1 hcn
  go_enter Tryz.func26, Tryz.ntmps26
  go_wp2_with fail
  generalize (((((w.alloc (.cells #[.slice B0 t0.length d0] 36)).alloc (.cells #[.int .i64 (M : Int), .slice B2 t2.length d2] 38)).alloc (.cells #[.int .i64 (d : Int), .slice B3 t3.length d3] 33)).alloc (.cells #[.int .i64 0, .slice none 0 0] 38)).alloc (.cells #[.int .i64 0, .slice none 0 0] 33)) = W0 at *
  refine (HQU.out W0 e0).mono ?_
  rintro e W1 ⟨C0, n0, C1, n1, mid, rfl, he1, -, -, ho1, ho0⟩
  obtain ⟨s, hs1⟩ : ∃ s, W1.heap.size = s := ⟨_, rfl⟩
  have ea := he1.trans (Ex.new W1 (.cells #[.slice C0 y.length n0] 36))
  have HE1 := Lib.hid (e0.trans ea)
  have HB0 := Lib.hid (b0.ex ea)
  have HB1 := Lib.hid (b1.ex ea)
  have HB2 := Lib.hid (b2.ex ea)
  have HB3 := Lib.hid (b3.ex ea)
  have HB4 := Lib.hid (b4.ex ea)
  have HG : Hid (Has (W1.alloc (.cells #[.slice C0 y.length n0] 36)) s 36 #[.slice C0 y.length n0]) := Lib.hid (Has.newAt hs1)
  have HY := Lib.hid ((ho0.ex (Ex.new W1 (.cells #[.slice C0 y.length n0] 36))).rws)
  have HN := Lib.hid ((ho1.ex (Ex.new W1 (.cells #[.slice C0 y.length n0] 36))).ints)
  clear b0 b1 b2 b3 b4 e0 he1 ea ho0 ho1 k0 HQU
  go_upto_region 2 with (fail)
  simp only [hs1] at *
  clear hs1
  generalize W1.alloc (.cells #[.slice C0 y.length n0] 36) = W2 at *
  have k0 := HG.out.cell 0
  have k1 := HB1.out.cell 0
  have k1' := HB1.out.cell 1
  have k2 := HB2.out.cell 0
  have k2' := HB2.out.cell 1
  go_wp2_with fail
  refine (HCO.out W2 C0 n0 HE1.out HY.out).mono ?_
  rintro e W3 ⟨rfl, he3⟩
  have HE3 := Lib.hid (HE1.out.trans he3)
  have HB33 := Lib.hid (HB3.out.ex he3)
  have HB43 := Lib.hid (HB4.out.ex he3)
  clear k0 k1 k1' k2 k2'
  obtain ⟨s2, hs2⟩ : ∃ s2, W3.heap.size = s2 := ⟨_, rfl⟩
  have hlt33 := HB33.out.lt
  have ea3 := Ex.new W3 (.cells #[.slice B0 t0.length d0, .slice C0 y.length n0, .slice C1 t0.length n1] 76)
  have q0 := (HB0.out.ex he3).cell 0
  have q1 := (HG.out.ex he3).cell 0
  have HE4 := Lib.hid (HE3.out.trans ea3)
  have HN4 := Lib.hid (HN.out.ex (he3.trans ea3))
  have HB14 := Lib.hid (HB1.out.ex (he3.trans ea3))
  have HB24 := Lib.hid (HB2.out.ex (he3.trans ea3))
  have HB34 := Lib.hid (HB33.out.ex ea3)
  have HB44 := Lib.hid (HB43.out.ex ea3)
  have HP4 : Hid (Has (W3.alloc (.cells #[.slice B0 t0.length d0, .slice C0 y.length n0, .slice C1 t0.length n1] 76)) s2 76 #[.slice B0 t0.length d0, .slice C0 y.length n0, .slice C1 t0.length n1]) := Lib.hid (Has.newAt hs2)
  clear he3 ea3
  go_upto_region 7 with (fail)
  simp only [hs2] at *
  clear hs2 q0 q1
  generalize W3.alloc (.cells #[.slice B0 t0.length d0, .slice C0 y.length n0, .slice C1 t0.length n1] 76) = W4 at *
  have HCF := Lib.hid (fun (W : World) (he : Ex W4 W) => And.intro ((HP4.out.ex he).cell 0) (And.intro ((HP4.out.ex he).cell 1) (And.intro ((HP4.out.ex he).cell 2) (And.intro ((HB14.out.ex he).cell 0) (And.intro ((HB14.out.ex he).cell 1) (And.intro ((HB24.out.ex he).cell 0) ((HB24.out.ex he).cell 1)))))))
  have hC0 := HCF.out W4 (Ex.refl _)
  refine Late.region (C := fun w' => w'.cell? ⟨s2, 0, none⟩ = some (.slice B0 t0.length d0) ∧ w'.cell? ⟨s2, 1, none⟩ = some (.slice C0 y.length n0) ∧ w'.cell? ⟨s2, 2, none⟩ = some (.slice C1 t0.length n1) ∧ w'.cell? ⟨w.heap.size + 1, 0, none⟩ = some (.int .i64 (M : Int)) ∧ w'.cell? ⟨w.heap.size + 1, 1, none⟩ = some (.slice B2 t2.length d2) ∧ w'.cell? ⟨w.heap.size + 1 + 1, 0, none⟩ = some (.int .i64 (d : Int)) ∧ w'.cell? ⟨w.heap.size + 1 + 1, 1, none⟩ = some (.slice B3 t3.length d3)) (fun j => decide (j < 9)) (by kernel_rfl) hC0 (fun hC => ?_)
  refine Late.take (i := 0) (oi := _) (v := ?_) rfl (by kernel_rfl) (by kernel_rfl) (by kernel_rfl) (by kernel_rfl) (fun _ _ _ h => h) (Or.inl ⟨by rfl, ?_⟩) hC ?_
  rotate_left
  · (intro w hSw; (try dsimp only at hSw); go_simp; first | done | with_reducible rfl)
  simp only [Act.put]
  refine Late.take (i := 1) (oi := _) (v := ?_) rfl (by kernel_rfl) (by kernel_rfl) (by kernel_rfl) (by kernel_rfl) (fun _ _ _ h => h) (Or.inl ⟨by rfl, ?_⟩) hC ?_
  rotate_left
  · (intro w hSw; (try dsimp only at hSw); go_simp; first | done | with_reducible rfl)
  simp only [Act.put]
  refine Late.take (i := 2) (oi := _) (v := ?_) rfl (by kernel_rfl) (by kernel_rfl) (by kernel_rfl) (by kernel_rfl) (fun _ _ _ h => h) (Or.inl ⟨by rfl, ?_⟩) hC ?_
  rotate_left
  · (intro w hSw; (try dsimp only at hSw); go_simp; first | done | with_reducible rfl)
  simp only [Act.put]
  refine Late.take (i := 4) (oi := _) (v := ?_) rfl (by kernel_rfl) (by kernel_rfl) (by kernel_rfl) (by kernel_rfl) (fun _ _ _ h => h) (Or.inl ⟨by rfl, ?_⟩) hC ?_
  rotate_left
  · (intro w hSw; (try dsimp only at hSw); go_simp; first | done | with_reducible rfl)
  simp only [Act.put]
  refine Late.take (i := 5) (oi := _) (v := ?_) rfl (by kernel_rfl) (by kernel_rfl) (by kernel_rfl) (by kernel_rfl) (fun _ _ _ h => h) (Or.inl ⟨by rfl, ?_⟩) hC ?_
  rotate_left
  · (intro w hSw; (try dsimp only at hSw); go_simp; first | done | with_reducible rfl)
  simp only [Act.put]
  refine Late.take (i := 6) (oi := _) (v := ?_) rfl (by kernel_rfl) (by kernel_rfl) (by kernel_rfl) (by kernel_rfl) (fun _ _ _ h => h) (Or.inl ⟨by rfl, ?_⟩) hC ?_
  rotate_left
  · (intro w hSw; (try dsimp only at hSw); go_simp; first | done | with_reducible rfl)
  simp only [Act.put]
  clear hC hC0
  refine Late.one (i := 3) (o := _) (by kernel_rfl) rfl (fun K' hK' => ?_)
  go_simp
  refine (HPM.out W4.drew C0 C1 n0 n1 HE4.out.drew (HN4.out.ex (Ex.refl W4).drew)).mono ?_
  rintro e W5 ⟨A5, k5, rfl, he5, ho5⟩
  have hx5 : Ex W4 W5 := (Ex.refl W4).drew.trans he5
  have HX5 := Lib.hid hx5
  have HO5 := Lib.hid ho5
  refine hK'.out _ _ (fun _ => HCF.out W5 hx5) (fun _ => ?_)
  clear hK' K' he5 ho5 hx5
  try simp only [Act.put, List.setIfInBounds_toArray, List.set_cons_zero, List.set_cons_succ]
  refine Late.one (i := 7) (o := _) (by kernel_rfl) rfl (fun K' hK' => ?_)
  go_simp
  refine (HPC.out W5 C0 C1 n0 n1 (HE4.out.trans HX5.out) (HN4.out.ex HX5.out)).mono ?_
  rintro e W6 ⟨A6, k6, rfl, he6, ho6⟩
  have hx6 : Ex W4 W6 := HX5.out.trans he6
  have HE6 := Lib.hid (HE4.out.trans hx6)
  have HB36 := Lib.hid (HB34.out.ex hx6)
  have HB46 := Lib.hid (HB44.out.ex hx6)
  have HO56 := Lib.hid (HO5.out.ex he6)
  have HO6 := Lib.hid ho6
  have hlt3 := HB34.out.lt
  have hlt4 := HB44.out.lt
  have hsz4 := HE4.out.size
  have hsz5 := HX5.out.size
  have hsd : W4.drew.heap.size = W4.heap.size := rfl
  have hmid : W5.heap.size ≤ W6.heap.size := he6.size
  have HP6 := Lib.hid (HP4.out.ex hx6)
  have HB16 := Lib.hid (HB14.out.ex hx6)
  have HB26 := Lib.hid (HB24.out.ex hx6)
  have p3 := HB36.out.cell 0
  have p3' := HB36.out.cell 1
  have f3 := HB36.out.free 0
  have f3' := HB36.out.free 1
  have p4 := HB46.out.cell 0
  have p4' := HB46.out.cell 1
  have f4 := HB46.out.free 0
  have f4' := HB46.out.free 1
  refine hK'.out _ _ (fun _ => HCF.out W6 hx6) (fun _ => ?_)
  clear hK' K' he6 ho6 hx6
  try simp only [Act.put, List.setIfInBounds_toArray, List.set_cons_zero, List.set_cons_succ]
  have F0 := (HP6.out.far (p := ⟨w.heap.size + 1 + 1 + 1, 0, none⟩) (by show s2 ≠ w.heap.size + 1 + 1 + 1; omega) (.int .i64 (M : Int))).far (p := ⟨w.heap.size + 1 + 1 + 1, 1, none⟩) (by show s2 ≠ w.heap.size + 1 + 1 + 1; omega) (.slice A5 t0.length k5)
  have F1 := (HB16.out.far (p := ⟨w.heap.size + 1 + 1 + 1, 0, none⟩) (by show w.heap.size + 1 ≠ w.heap.size + 1 + 1 + 1; omega) (.int .i64 (M : Int))).far (p := ⟨w.heap.size + 1 + 1 + 1, 1, none⟩) (by show w.heap.size + 1 ≠ w.heap.size + 1 + 1 + 1; omega) (.slice A5 t0.length k5)
  have F2 := (HB26.out.far (p := ⟨w.heap.size + 1 + 1 + 1, 0, none⟩) (by show w.heap.size + 1 + 1 ≠ w.heap.size + 1 + 1 + 1; omega) (.int .i64 (M : Int))).far (p := ⟨w.heap.size + 1 + 1 + 1, 1, none⟩) (by show w.heap.size + 1 + 1 ≠ w.heap.size + 1 + 1 + 1; omega) (.slice A5 t0.length k5)
  have hC8 := And.intro (F0.cell 0) (And.intro (F0.cell 1) (And.intro (F0.cell 2) (And.intro (F1.cell 0) (And.intro (F1.cell 1) (And.intro (F2.cell 0) (F2.cell 1))))))
  clear F0 F1 F2
  refine Late.one (i := 8) (o := _) (by kernel_rfl) rfl (fun K' hK' => ?_)
  go_simp
  refine hK'.out _ _ (fun _ => hC8) (fun _ => ?_)
  clear hC8
  clear hK' K'
  try simp only [Act.put, List.setIfInBounds_toArray, List.set_cons_zero, List.set_cons_succ]
  refine Late.one (i := 9) (o := _) (by kernel_rfl) rfl (fun K' hK' => ?_)
  go_simp
  refine hK'.out _ _ (fun h => by cases h) (fun _ => ?_)
  clear hK' K'
  try simp only [Act.put, List.setIfInBounds_toArray, List.set_cons_zero, List.set_cons_succ]
  refine Late.one (i := 10) (o := _) (by kernel_rfl) rfl (fun K' hK' => ?_)
  go_simp
  refine hK'.out _ _ (fun h => by cases h) (fun _ => ?_)
  clear hK' K'
  try simp only [Act.put, List.setIfInBounds_toArray, List.set_cons_zero, List.set_cons_succ]
  refine Late.done (by kernel_rfl) ?_ _
  go_wp2_with fail
  have H4 := (Has.far (p := ⟨w.heap.size + 1 + 1 + 1 + 1, 1, none⟩) (Has.far (p := ⟨w.heap.size + 1 + 1 + 1 + 1, 0, none⟩) (HB36.out.put2 (u := .int .i64 (M : Int)) (v := .slice A5 t0.length k5)) (by show w.heap.size + 1 + 1 + 1 ≠ w.heap.size + 1 + 1 + 1 + 1; omega) (.int .i64 (d : Int))) (by show w.heap.size + 1 + 1 + 1 ≠ w.heap.size + 1 + 1 + 1 + 1; omega) (.slice A6 cn k6))
  have H5 := Has.put2 (u := .int .i64 (d : Int)) (v := .slice A6 cn k6) (Has.far (p := ⟨w.heap.size + 1 + 1 + 1, 1, none⟩) (Has.far (p := ⟨w.heap.size + 1 + 1 + 1, 0, none⟩) HB46.out (by show w.heap.size + 1 + 1 + 1 + 1 ≠ w.heap.size + 1 + 1 + 1; omega) (.int .i64 (M : Int))) (by show w.heap.size + 1 + 1 + 1 + 1 ≠ w.heap.size + 1 + 1 + 1; omega) (.slice A5 t0.length k5))
  have c4 := H4.cell 0
  have c4' := H4.cell 1
  have c5 := H5.cell 0
  have c5' := H5.cell 1
  refine bodyPost_ret (v := .tuple #[.agg #[.int .i64 (M : Int), .slice A5 t0.length k5], .agg #[.int .i64 (d : Int), .slice A6 cn k6], .int .i64 0]) (by simp [results, Tryz.results26, go_sem, c4, c4', c5, c5']) rfl (TwP.of (mid := W5.heap.size) (C0 := A5) (e0 := k5) (C1 := A6) (e1 := k6) HQ.out (by rw [HV0.out, HV1.out]) ((((HE6.out.setCell (by show w.heap.size ≤ w.heap.size + 1 + 1 + 1; omega) _).setCell (by show w.heap.size ≤ w.heap.size + 1 + 1 + 1; omega) _).setCell (by show w.heap.size ≤ w.heap.size + 1 + 1 + 1 + 1; omega) _).setCell (by show w.heap.size ≤ w.heap.size + 1 + 1 + 1 + 1; omega) _) (by omega) (by simpa using hmid) ((((((HO56.out.above (Only.set _ _ _ _) (by omega)).above (Only.set _ _ _ _) (by omega)).above (Only.set _ _ _ _) (by omega)).above (Only.set _ _ _ _) (by omega))).mono (by omega) (Nat.le_refl _) (by simpa using hmid)) ((((((HO6.out.above (Only.set _ _ _ _) (by omega)).above (Only.set _ _ _ _) (by omega)).above (Only.set _ _ _ _) (by omega)).above (Only.set _ _ _ _) (by omega))).mono (Nat.le_refl _) (by simp) (Nat.le_refl _)))

theorem implInflateCochain_ex (t0 : List (List Int)) (t1 : List Int) (m2 : Int) (t2 : List Int) (m3 : Int) (t3 : List Int) : ∀ (B0 : Option Addr) (d0 : Nat) (B1 : Option Addr) (d1 : Nat) (B2 : Option Addr) (d2 : Nat) (B3 : Option Addr) (d3 : Nat) (W : World), RwsW W B0 t0 → IntsW W B1 t1 → IntsW W B2 t2 → IntsW W B3 t3 → SmallT t0 → t1.length ≤ 1048576 → t2.length ≤ 1048576 → t3.length ≤ 1048576 → TabL W →
    Calls Tryz.prog 26 #[.agg #[.slice B0 t0.length d0], .slice B1 t1.length d1, .agg #[.int .i64 m2, .slice B2 t2.length d2], .agg #[.int .i64 m3, .slice B3 t3.length d3]] W (TwP (qInflateCochain0 t0 t1 m2 t2 m3 t3) (yInflateCochain0 t0 t1 m2 t2 m3 t3) (qInflateCochain1 t0 t1 m2 t2 m3 t3) (yInflateCochain1 t0 t1 m2 t2 m3 t3) (qInflateCochain2 t0 t1 m2 t2 m3 t3) W) := by
  intro B0 d0 B1 d1 B2 d2 B3 d3 w hR hX hU hF hs hx hu hf hT
  by_cases hz : quC t0 t1 = 0
  · cases hg : gmcB (yQuotientOf0 t0 t1) m2 t2 m3 t3 with
    | false => exact implIC_no t0 t1 m2 t2 m3 t3 B0 d0 B1 d1 B2 d2 B3 d3 w hR hX hU hF hs hx hu hf hT hz hg
    | true =>
      obtain ⟨M, d, rfl, rfl, hMF, hd3, hlen, -, -⟩ := gmc_facts hg
      exact implIC_yes t0 t1 M t2 d t3 B0 d0 B1 d1 B2 d2 B3 d3 w hR hX hU hF hs hx hu hf hT hz hg hMF hd3 hlen
  · exact implIC_qu t0 t1 m2 t2 m3 t3 B0 d0 B1 d1 B2 d2 B3 d3 w hR hX hs hx hT hz

end Go.Proofs.YtfnjpbjlikajbaaGreatDoor
