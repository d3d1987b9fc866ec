/- ConjugateCochain: the specification's contract. -/
import Derived.Test.YtfnjpbjlikajbaaGreatDoorOa
import Derived.Test.YtfnjpbjlikajbaaGreatDoorUl
import Derived.Test.YtfnjpbjlikajbaaGreatDoorUr
import Derived.Test.YtfnjpbjlikajbaaGreatDoorMy
import Derived.Test.YtfnjpbjlikajbaaGreatDoorOc
namespace Go.Proofs.YtfnjpbjlikajbaaGreatDoor
open Go.RowKit

theorem led_pb {V : Nat → Int} {fs : List Int} {N K d M T : Nat} {u : Int} (hT : T = cellsN N d) : (List.range T).map (fun j => u * valR K fs (pbL V N d j) % (M : Int)) = ledY M u (pbY V fs N K d) := by
  subst hT
  unfold ledY
  rw [pbY_len]
  exact List.map_congr_left fun j hj => by
    rw [show nth (pbY V fs N K d) j = valR K fs (pbL V N d j) by simp [nth, pbY, List.mem_range.1 hj, pbV]]

set_option maxRecDepth 100000 in
set_option maxHeartbeats 8000000 in
theorem specCJ_e1 (t0 : List (List Int)) (m1 : Int) (t1 t2 : List Int) (m3 : Int) (t3 : List Int) (m4 : Int) (B0 : Option Addr) (d0 : Nat) (B1 : Option Addr) (d1 : Nat) (B2 : Option Addr) (d2 : Nat) (B3 : Option Addr) (d3 : Nat) (w : World) (hR : RwsW w B0 t0) (_ : IntsW w B1 t1) (_ : IntsW w B2 t2) (_ : IntsW w B3 t3) (hs : SmallT t0) (_ : t1.length ≤ 1048576) (_ : t2.length ≤ 1048576) (_ : t3.length ≤ 1048576) (hg : grpB t0 = false) :
    Calls Tryz.prog 28 #[.agg #[.slice B0 t0.length d0], .agg #[.int .i64 m1, .slice B1 t1.length d1], .slice B2 t2.length d2, .agg #[.int .i64 m3, .slice B3 t3.length d3], .int .i64 m4] w (SqS (qConjugateCochain0 t0 m1 t1 t2 m3 t3 m4) (yConjugateCochain0 t0 m1 t1 t2 m3 t3 m4) (qConjugateCochain1 t0 m1 t1 t2 m3 t3 m4) w) := by
  have e0 : Ex w ((((w.alloc (.cells #[.slice B0 t0.length d0] 36)).alloc (.cells #[.int .i64 m1, .slice B1 t1.length d1] 38)).alloc (.cells #[.int .i64 m3, .slice B3 t3.length d3] 33)).alloc (.cells #[.int .i64 0, .slice none 0 0] 33)) := ((((Ex.refl w).alloc _).alloc _).alloc _).alloc _
  have b0 : Has ((((w.alloc (.cells #[.slice B0 t0.length d0] 36)).alloc (.cells #[.int .i64 m1, .slice B1 t1.length d1] 38)).alloc (.cells #[.int .i64 m3, .slice B3 t3.length d3] 33)).alloc (.cells #[.int .i64 0, .slice none 0 0] 33)) (w.heap.size) 36 #[.slice B0 t0.length d0] := ((((Has.newAt (w := w) (e := 36) (cs := #[.slice B0 t0.length d0]) (k := w.heap.size) (by simp)).alloc _).alloc _).alloc _)
  have b1 : Has ((((w.alloc (.cells #[.slice B0 t0.length d0] 36)).alloc (.cells #[.int .i64 m1, .slice B1 t1.length d1] 38)).alloc (.cells #[.int .i64 m3, .slice B3 t3.length d3] 33)).alloc (.cells #[.int .i64 0, .slice none 0 0] 33)) (w.heap.size + 1) 38 #[.int .i64 m1, .slice B1 t1.length d1] := (((Has.newAt (w := (w.alloc (.cells #[.slice B0 t0.length d0] 36))) (e := 38) (cs := #[.int .i64 m1, .slice B1 t1.length d1]) (k := w.heap.size + 1) (by simp)).alloc _).alloc _)
  have b2 : Has ((((w.alloc (.cells #[.slice B0 t0.length d0] 36)).alloc (.cells #[.int .i64 m1, .slice B1 t1.length d1] 38)).alloc (.cells #[.int .i64 m3, .slice B3 t3.length d3] 33)).alloc (.cells #[.int .i64 0, .slice none 0 0] 33)) (w.heap.size + 1 + 1) 33 #[.int .i64 m3, .slice B3 t3.length d3] := ((Has.newAt (w := ((w.alloc (.cells #[.slice B0 t0.length d0] 36)).alloc (.cells #[.int .i64 m1, .slice B1 t1.length d1] 38))) (e := 33) (cs := #[.int .i64 m3, .slice B3 t3.length d3]) (k := w.heap.size + 1 + 1) (by simp)).alloc _)
  have b3 : Has ((((w.alloc (.cells #[.slice B0 t0.length d0] 36)).alloc (.cells #[.int .i64 m1, .slice B1 t1.length d1] 38)).alloc (.cells #[.int .i64 m3, .slice B3 t3.length d3] 33)).alloc (.cells #[.int .i64 0, .slice none 0 0] 33)) (w.heap.size + 1 + 1 + 1) 33 #[.int .i64 0, .slice none 0 0] := (Has.newAt (w := (((w.alloc (.cells #[.slice B0 t0.length d0] 36)).alloc (.cells #[.int .i64 m1, .slice B1 t1.length d1] 38)).alloc (.cells #[.int .i64 m3, .slice B3 t3.length d3] 33))) (e := 33) (cs := #[.int .i64 0, .slice none 0 0]) (k := w.heap.size + 1 + 1 + 1) (by simp))
  have HC1 := Lib.hid (fun W (he : Ex w W) => l01Is_ex B0 t0 d0 W (hR.ex he) hs)
  rw [hg] at HC1
  have HQ := Lib.hid (cj_no (n := m3) (fs := t3) (cjC_err (by simp [mgE, gmB, hg] : mgE t0 m1 t1 t2 [m4] = 1) (by decide)) (by decide))
  have HE0 := Lib.hid e0
  have HB00 := Lib.hid b0
  have HB10 := Lib.hid b1
  have HB20 := Lib.hid b2
  have HB30 := Lib.hid b3
  have g := b0.cell 0
  have a := b1.cell 0
  have a' := b1.cell 1
  clear b0 b1 b2 b3 e0
  clear hR hs hg
  go_enter Tryz.func28, Tryz.ntmps28
  go_wp2_with fail
  generalize ((((w.alloc (.cells #[.slice B0 t0.length d0] 36)).alloc (.cells #[.int .i64 m1, .slice B1 t1.length d1] 38)).alloc (.cells #[.int .i64 m3, .slice B3 t3.length d3] 33)).alloc (.cells #[.int .i64 0, .slice none 0 0] 33)) = W0 at *
  refine (HC1.out W0 HE0.out).mono ?_
  rintro e W1 ⟨rfl, he⟩
  have hx := he
  have HE1 := Lib.hid (HE0.out.trans hx)
  have HB01 := Lib.hid (HB00.out.ex hx)
  have HB11 := Lib.hid (HB10.out.ex hx)
  have HB21 := Lib.hid (HB20.out.ex hx)
  have HB31 := Lib.hid (HB30.out.ex hx)
  clear hx he g a a' HC1 HE0 HB00 HB10 HB20 HB30
  have g := HB01.out.cell 0
  have a := HB11.out.cell 0
  have a' := HB11.out.cell 1
  clear g a a'
  have c4 := HB31.out.cell 0
  have c4' := HB31.out.cell 1
  have f4 := HB31.out.free 0
  have f4' := HB31.out.free 1
  go_wp2_with fail
  have H4 := HB31.out.put2 (u := .int .i64 0) (v := .slice none 0 0)
  have c4 := H4.cell 0
  have c4' := H4.cell 1
  refine bodyPost_ret (v := .tuple #[.agg #[.int .i64 0, .slice none 0 0], .int .i64 1]) (by simp [results, Tryz.results28, go_sem, c4, c4']) rfl (SqS.err HQ.out rfl ((HE1.out.setCell (by show w.heap.size ≤ w.heap.size + 1 + 1 + 1; omega) _).setCell (by show w.heap.size ≤ w.heap.size + 1 + 1 + 1; omega) _))

set_option maxRecDepth 100000 in
set_option maxHeartbeats 8000000 in
theorem specCJ_e2 (t0 : List (List Int)) (m1 : Int) (t1 t2 : List Int) (m3 : Int) (t3 : List Int) (m4 : Int) (B0 : Option Addr) (d0 : Nat) (B1 : Option Addr) (d1 : Nat) (B2 : Option Addr) (d2 : Nat) (B3 : Option Addr) (d3 : Nat) (w : World) (hR : RwsW w B0 t0) (hU : IntsW w B1 t1) (_ : IntsW w B2 t2) (_ : IntsW w B3 t3) (hs : SmallT t0) (hu : t1.length ≤ 1048576) (_ : t2.length ≤ 1048576) (_ : t3.length ≤ 1048576) (hg : grpB t0 = true) (hm : modB t0 m1 t1 = false) :
    Calls Tryz.prog 28 #[.agg #[.slice B0 t0.length d0], .agg #[.int .i64 m1, .slice B1 t1.length d1], .slice B2 t2.length d2, .agg #[.int .i64 m3, .slice B3 t3.length d3], .int .i64 m4] w (SqS (qConjugateCochain0 t0 m1 t1 t2 m3 t3 m4) (yConjugateCochain0 t0 m1 t1 t2 m3 t3 m4) (qConjugateCochain1 t0 m1 t1 t2 m3 t3 m4) w) := by
  have e0 : Ex w ((((w.alloc (.cells #[.slice B0 t0.length d0] 36)).alloc (.cells #[.int .i64 m1, .slice B1 t1.length d1] 38)).alloc (.cells #[.int .i64 m3, .slice B3 t3.length d3] 33)).alloc (.cells #[.int .i64 0, .slice none 0 0] 33)) := ((((Ex.refl w).alloc _).alloc _).alloc _).alloc _
  have b0 : Has ((((w.alloc (.cells #[.slice B0 t0.length d0] 36)).alloc (.cells #[.int .i64 m1, .slice B1 t1.length d1] 38)).alloc (.cells #[.int .i64 m3, .slice B3 t3.length d3] 33)).alloc (.cells #[.int .i64 0, .slice none 0 0] 33)) (w.heap.size) 36 #[.slice B0 t0.length d0] := ((((Has.newAt (w := w) (e := 36) (cs := #[.slice B0 t0.length d0]) (k := w.heap.size) (by simp)).alloc _).alloc _).alloc _)
  have b1 : Has ((((w.alloc (.cells #[.slice B0 t0.length d0] 36)).alloc (.cells #[.int .i64 m1, .slice B1 t1.length d1] 38)).alloc (.cells #[.int .i64 m3, .slice B3 t3.length d3] 33)).alloc (.cells #[.int .i64 0, .slice none 0 0] 33)) (w.heap.size + 1) 38 #[.int .i64 m1, .slice B1 t1.length d1] := (((Has.newAt (w := (w.alloc (.cells #[.slice B0 t0.length d0] 36))) (e := 38) (cs := #[.int .i64 m1, .slice B1 t1.length d1]) (k := w.heap.size + 1) (by simp)).alloc _).alloc _)
  have b2 : Has ((((w.alloc (.cells #[.slice B0 t0.length d0] 36)).alloc (.cells #[.int .i64 m1, .slice B1 t1.length d1] 38)).alloc (.cells #[.int .i64 m3, .slice B3 t3.length d3] 33)).alloc (.cells #[.int .i64 0, .slice none 0 0] 33)) (w.heap.size + 1 + 1) 33 #[.int .i64 m3, .slice B3 t3.length d3] := ((Has.newAt (w := ((w.alloc (.cells #[.slice B0 t0.length d0] 36)).alloc (.cells #[.int .i64 m1, .slice B1 t1.length d1] 38))) (e := 33) (cs := #[.int .i64 m3, .slice B3 t3.length d3]) (k := w.heap.size + 1 + 1) (by simp)).alloc _)
  have b3 : Has ((((w.alloc (.cells #[.slice B0 t0.length d0] 36)).alloc (.cells #[.int .i64 m1, .slice B1 t1.length d1] 38)).alloc (.cells #[.int .i64 m3, .slice B3 t3.length d3] 33)).alloc (.cells #[.int .i64 0, .slice none 0 0] 33)) (w.heap.size + 1 + 1 + 1) 33 #[.int .i64 0, .slice none 0 0] := (Has.newAt (w := (((w.alloc (.cells #[.slice B0 t0.length d0] 36)).alloc (.cells #[.int .i64 m1, .slice B1 t1.length d1] 38)).alloc (.cells #[.int .i64 m3, .slice B3 t3.length d3] 33))) (e := 33) (cs := #[.int .i64 0, .slice none 0 0]) (k := w.heap.size + 1 + 1 + 1) (by simp))
  have HC1 := Lib.hid (fun W (he : Ex w W) => l01Is_ex B0 t0 d0 W (hR.ex he) hs)
  rw [hg] at HC1
  have HC2 := Lib.hid (fun W (he : Ex w W) => l02Is_ex B0 B1 t0 m1 t1 d0 d1 W (hR.ex he) (hU.ex he) (grpB_iff.1 hg) hu)
  rw [hm] at HC2
  have HQ := Lib.hid (cj_no (n := m3) (fs := t3) (cjC_err (by simp [mgE, gmB, hg, hm] : mgE t0 m1 t1 t2 [m4] = 1) (by decide)) (by decide))
  have HE0 := Lib.hid e0
  have HB00 := Lib.hid b0
  have HB10 := Lib.hid b1
  have HB20 := Lib.hid b2
  have HB30 := Lib.hid b3
  have g := b0.cell 0
  have a := b1.cell 0
  have a' := b1.cell 1
  clear b0 b1 b2 b3 e0
  clear hR hU hs hu hg hm
  go_enter Tryz.func28, Tryz.ntmps28
  go_wp2_with fail
  generalize ((((w.alloc (.cells #[.slice B0 t0.length d0] 36)).alloc (.cells #[.int .i64 m1, .slice B1 t1.length d1] 38)).alloc (.cells #[.int .i64 m3, .slice B3 t3.length d3] 33)).alloc (.cells #[.int .i64 0, .slice none 0 0] 33)) = W0 at *
  refine (HC1.out W0 HE0.out).mono ?_
  rintro e W1 ⟨rfl, he⟩
  have hx := he
  have HE1 := Lib.hid (HE0.out.trans hx)
  have HB01 := Lib.hid (HB00.out.ex hx)
  have HB11 := Lib.hid (HB10.out.ex hx)
  have HB21 := Lib.hid (HB20.out.ex hx)
  have HB31 := Lib.hid (HB30.out.ex hx)
  clear hx he g a a' HC1 HE0 HB00 HB10 HB20 HB30
  have g := HB01.out.cell 0
  have a := HB11.out.cell 0
  have a' := HB11.out.cell 1
  go_wp2_with fail
  refine (HC2.out W1 HE1.out).mono ?_
  rintro e W2 ⟨rfl, he⟩
  have hx := he
  have HE2 := Lib.hid (HE1.out.trans hx)
  have HB02 := Lib.hid (HB01.out.ex hx)
  have HB12 := Lib.hid (HB11.out.ex hx)
  have HB22 := Lib.hid (HB21.out.ex hx)
  have HB32 := Lib.hid (HB31.out.ex hx)
  clear hx he g a a' HC2 HE1 HB01 HB11 HB21 HB31
  have g := HB02.out.cell 0
  have a := HB12.out.cell 0
  have a' := HB12.out.cell 1
  clear g a a'
  have c4 := HB32.out.cell 0
  have c4' := HB32.out.cell 1
  have f4 := HB32.out.free 0
  have f4' := HB32.out.free 1
  go_wp2_with fail
  have H4 := HB32.out.put2 (u := .int .i64 0) (v := .slice none 0 0)
  have c4 := H4.cell 0
  have c4' := H4.cell 1
  refine bodyPost_ret (v := .tuple #[.agg #[.int .i64 0, .slice none 0 0], .int .i64 1]) (by simp [results, Tryz.results28, go_sem, c4, c4']) rfl (SqS.err HQ.out rfl ((HE2.out.setCell (by show w.heap.size ≤ w.heap.size + 1 + 1 + 1; omega) _).setCell (by show w.heap.size ≤ w.heap.size + 1 + 1 + 1; omega) _))

set_option maxRecDepth 100000 in
set_option maxHeartbeats 8000000 in
theorem specCJ_e3 (t0 : List (List Int)) (m1 : Int) (t1 t2 : List Int) (m3 : Int) (t3 : List Int) (m4 : Int) (B0 : Option Addr) (d0 : Nat) (B1 : Option Addr) (d1 : Nat) (B2 : Option Addr) (d2 : Nat) (B3 : Option Addr) (d3 : Nat) (w : World) (hR : RwsW w B0 t0) (hU : IntsW w B1 t1) (hX : IntsW w B2 t2) (_ : IntsW w B3 t3) (hs : SmallT t0) (hu : t1.length ≤ 1048576) (hx : t2.length ≤ 1048576) (_ : t3.length ≤ 1048576) (hg : grpB t0 = true) (hm : modB t0 m1 t1 = true) (hb : setB t0.length t2 = false) :
    Calls Tryz.prog 28 #[.agg #[.slice B0 t0.length d0], .agg #[.int .i64 m1, .slice B1 t1.length d1], .slice B2 t2.length d2, .agg #[.int .i64 m3, .slice B3 t3.length d3], .int .i64 m4] w (SqS (qConjugateCochain0 t0 m1 t1 t2 m3 t3 m4) (yConjugateCochain0 t0 m1 t1 t2 m3 t3 m4) (qConjugateCochain1 t0 m1 t1 t2 m3 t3 m4) w) := by
  have e0 : Ex w ((((w.alloc (.cells #[.slice B0 t0.length d0] 36)).alloc (.cells #[.int .i64 m1, .slice B1 t1.length d1] 38)).alloc (.cells #[.int .i64 m3, .slice B3 t3.length d3] 33)).alloc (.cells #[.int .i64 0, .slice none 0 0] 33)) := ((((Ex.refl w).alloc _).alloc _).alloc _).alloc _
  have b0 : Has ((((w.alloc (.cells #[.slice B0 t0.length d0] 36)).alloc (.cells #[.int .i64 m1, .slice B1 t1.length d1] 38)).alloc (.cells #[.int .i64 m3, .slice B3 t3.length d3] 33)).alloc (.cells #[.int .i64 0, .slice none 0 0] 33)) (w.heap.size) 36 #[.slice B0 t0.length d0] := ((((Has.newAt (w := w) (e := 36) (cs := #[.slice B0 t0.length d0]) (k := w.heap.size) (by simp)).alloc _).alloc _).alloc _)
  have b1 : Has ((((w.alloc (.cells #[.slice B0 t0.length d0] 36)).alloc (.cells #[.int .i64 m1, .slice B1 t1.length d1] 38)).alloc (.cells #[.int .i64 m3, .slice B3 t3.length d3] 33)).alloc (.cells #[.int .i64 0, .slice none 0 0] 33)) (w.heap.size + 1) 38 #[.int .i64 m1, .slice B1 t1.length d1] := (((Has.newAt (w := (w.alloc (.cells #[.slice B0 t0.length d0] 36))) (e := 38) (cs := #[.int .i64 m1, .slice B1 t1.length d1]) (k := w.heap.size + 1) (by simp)).alloc _).alloc _)
  have b2 : Has ((((w.alloc (.cells #[.slice B0 t0.length d0] 36)).alloc (.cells #[.int .i64 m1, .slice B1 t1.length d1] 38)).alloc (.cells #[.int .i64 m3, .slice B3 t3.length d3] 33)).alloc (.cells #[.int .i64 0, .slice none 0 0] 33)) (w.heap.size + 1 + 1) 33 #[.int .i64 m3, .slice B3 t3.length d3] := ((Has.newAt (w := ((w.alloc (.cells #[.slice B0 t0.length d0] 36)).alloc (.cells #[.int .i64 m1, .slice B1 t1.length d1] 38))) (e := 33) (cs := #[.int .i64 m3, .slice B3 t3.length d3]) (k := w.heap.size + 1 + 1) (by simp)).alloc _)
  have b3 : Has ((((w.alloc (.cells #[.slice B0 t0.length d0] 36)).alloc (.cells #[.int .i64 m1, .slice B1 t1.length d1] 38)).alloc (.cells #[.int .i64 m3, .slice B3 t3.length d3] 33)).alloc (.cells #[.int .i64 0, .slice none 0 0] 33)) (w.heap.size + 1 + 1 + 1) 33 #[.int .i64 0, .slice none 0 0] := (Has.newAt (w := (((w.alloc (.cells #[.slice B0 t0.length d0] 36)).alloc (.cells #[.int .i64 m1, .slice B1 t1.length d1] 38)).alloc (.cells #[.int .i64 m3, .slice B3 t3.length d3] 33))) (e := 33) (cs := #[.int .i64 0, .slice none 0 0]) (k := w.heap.size + 1 + 1 + 1) (by simp))
  have HC1 := Lib.hid (fun W (he : Ex w W) => l01Is_ex B0 t0 d0 W (hR.ex he) hs)
  rw [hg] at HC1
  have HC2 := Lib.hid (fun W (he : Ex w W) => l02Is_ex B0 B1 t0 m1 t1 d0 d1 W (hR.ex he) (hU.ex he) (grpB_iff.1 hg) hu)
  rw [hm] at HC2
  have HC3 := Lib.hid (fun W (he : Ex w W) => l01Set_any B0 B2 t0 t2 d0 d2 W (hR.ex he) (hX.ex he) hs hx)
  rw [setC_out hg hb] at HC3
  have HQ := Lib.hid (cj_no (n := m3) (fs := t3) (cjC_err ((by simp [mgE, gmB, hg, hm] : mgE t0 m1 t1 t2 [m4] = sgC t0 t2 [m4]).trans (sgC_set hg hb)) (by decide)) (by decide))
  have HE0 := Lib.hid e0
  have HB00 := Lib.hid b0
  have HB10 := Lib.hid b1
  have HB20 := Lib.hid b2
  have HB30 := Lib.hid b3
  have g := b0.cell 0
  have a := b1.cell 0
  have a' := b1.cell 1
  clear b0 b1 b2 b3 e0
  clear hR hU hX hs hu hx hg hm hb
  go_enter Tryz.func28, Tryz.ntmps28
  go_wp2_with fail
  generalize ((((w.alloc (.cells #[.slice B0 t0.length d0] 36)).alloc (.cells #[.int .i64 m1, .slice B1 t1.length d1] 38)).alloc (.cells #[.int .i64 m3, .slice B3 t3.length d3] 33)).alloc (.cells #[.int .i64 0, .slice none 0 0] 33)) = W0 at *
  refine (HC1.out W0 HE0.out).mono ?_
  rintro e W1 ⟨rfl, he⟩
  have hx := he
  have HE1 := Lib.hid (HE0.out.trans hx)
  have HB01 := Lib.hid (HB00.out.ex hx)
  have HB11 := Lib.hid (HB10.out.ex hx)
  have HB21 := Lib.hid (HB20.out.ex hx)
  have HB31 := Lib.hid (HB30.out.ex hx)
  clear hx he g a a' HC1 HE0 HB00 HB10 HB20 HB30
  have g := HB01.out.cell 0
  have a := HB11.out.cell 0
  have a' := HB11.out.cell 1
  go_wp2_with fail
  refine (HC2.out W1 HE1.out).mono ?_
  rintro e W2 ⟨rfl, he⟩
  have hx := he
  have HE2 := Lib.hid (HE1.out.trans hx)
  have HB02 := Lib.hid (HB01.out.ex hx)
  have HB12 := Lib.hid (HB11.out.ex hx)
  have HB22 := Lib.hid (HB21.out.ex hx)
  have HB32 := Lib.hid (HB31.out.ex hx)
  clear hx he g a a' HC2 HE1 HB01 HB11 HB21 HB31
  have g := HB02.out.cell 0
  have a := HB12.out.cell 0
  have a' := HB12.out.cell 1
  go_wp2_with fail
  refine (HC3.out W2 HE2.out).mono ?_
  rintro e W3 ⟨rfl, he⟩
  have hx := he
  have HE3 := Lib.hid (HE2.out.trans hx)
  have HB03 := Lib.hid (HB02.out.ex hx)
  have HB13 := Lib.hid (HB12.out.ex hx)
  have HB23 := Lib.hid (HB22.out.ex hx)
  have HB33 := Lib.hid (HB32.out.ex hx)
  clear hx he g a a' HC3 HE2 HB02 HB12 HB22 HB32
  have g := HB03.out.cell 0
  have a := HB13.out.cell 0
  have a' := HB13.out.cell 1
  clear g a a'
  have c4 := HB33.out.cell 0
  have c4' := HB33.out.cell 1
  have f4 := HB33.out.free 0
  have f4' := HB33.out.free 1
  go_wp2_with fail
  have H4 := HB33.out.put2 (u := .int .i64 0) (v := .slice none 0 0)
  have c4 := H4.cell 0
  have c4' := H4.cell 1
  refine bodyPost_ret (v := .tuple #[.agg #[.int .i64 0, .slice none 0 0], .int .i64 2]) (by simp [results, Tryz.results28, go_sem, c4, c4']) rfl (SqS.err HQ.out rfl ((HE3.out.setCell (by show w.heap.size ≤ w.heap.size + 1 + 1 + 1; omega) _).setCell (by show w.heap.size ≤ w.heap.size + 1 + 1 + 1; omega) _))

set_option maxRecDepth 100000 in
set_option maxHeartbeats 8000000 in
theorem specCJ_e4 (t0 : List (List Int)) (m1 : Int) (t1 t2 : List Int) (m3 : Int) (t3 : List Int) (m4 : Int) (B0 : Option Addr) (d0 : Nat) (B1 : Option Addr) (d1 : Nat) (B2 : Option Addr) (d2 : Nat) (B3 : Option Addr) (d3 : Nat) (w : World) (hR : RwsW w B0 t0) (hU : IntsW w B1 t1) (hX : IntsW w B2 t2) (_ : IntsW w B3 t3) (hs : SmallT t0) (hu : t1.length ≤ 1048576) (hx : t2.length ≤ 1048576) (_ : t3.length ≤ 1048576) (hg : grpB t0 = true) (hm : modB t0 m1 t1 = true) (hb : setB t0.length t2 = true) (hv : movB t0.length m4 = false) :
    Calls Tryz.prog 28 #[.agg #[.slice B0 t0.length d0], .agg #[.int .i64 m1, .slice B1 t1.length d1], .slice B2 t2.length d2, .agg #[.int .i64 m3, .slice B3 t3.length d3], .int .i64 m4] w (SqS (qConjugateCochain0 t0 m1 t1 t2 m3 t3 m4) (yConjugateCochain0 t0 m1 t1 t2 m3 t3 m4) (qConjugateCochain1 t0 m1 t1 t2 m3 t3 m4) w) := by
  have e0 : Ex w ((((w.alloc (.cells #[.slice B0 t0.length d0] 36)).alloc (.cells #[.int .i64 m1, .slice B1 t1.length d1] 38)).alloc (.cells #[.int .i64 m3, .slice B3 t3.length d3] 33)).alloc (.cells #[.int .i64 0, .slice none 0 0] 33)) := ((((Ex.refl w).alloc _).alloc _).alloc _).alloc _
  have b0 : Has ((((w.alloc (.cells #[.slice B0 t0.length d0] 36)).alloc (.cells #[.int .i64 m1, .slice B1 t1.length d1] 38)).alloc (.cells #[.int .i64 m3, .slice B3 t3.length d3] 33)).alloc (.cells #[.int .i64 0, .slice none 0 0] 33)) (w.heap.size) 36 #[.slice B0 t0.length d0] := ((((Has.newAt (w := w) (e := 36) (cs := #[.slice B0 t0.length d0]) (k := w.heap.size) (by simp)).alloc _).alloc _).alloc _)
  have b1 : Has ((((w.alloc (.cells #[.slice B0 t0.length d0] 36)).alloc (.cells #[.int .i64 m1, .slice B1 t1.length d1] 38)).alloc (.cells #[.int .i64 m3, .slice B3 t3.length d3] 33)).alloc (.cells #[.int .i64 0, .slice none 0 0] 33)) (w.heap.size + 1) 38 #[.int .i64 m1, .slice B1 t1.length d1] := (((Has.newAt (w := (w.alloc (.cells #[.slice B0 t0.length d0] 36))) (e := 38) (cs := #[.int .i64 m1, .slice B1 t1.length d1]) (k := w.heap.size + 1) (by simp)).alloc _).alloc _)
  have b2 : Has ((((w.alloc (.cells #[.slice B0 t0.length d0] 36)).alloc (.cells #[.int .i64 m1, .slice B1 t1.length d1] 38)).alloc (.cells #[.int .i64 m3, .slice B3 t3.length d3] 33)).alloc (.cells #[.int .i64 0, .slice none 0 0] 33)) (w.heap.size + 1 + 1) 33 #[.int .i64 m3, .slice B3 t3.length d3] := ((Has.newAt (w := ((w.alloc (.cells #[.slice B0 t0.length d0] 36)).alloc (.cells #[.int .i64 m1, .slice B1 t1.length d1] 38))) (e := 33) (cs := #[.int .i64 m3, .slice B3 t3.length d3]) (k := w.heap.size + 1 + 1) (by simp)).alloc _)
  have b3 : Has ((((w.alloc (.cells #[.slice B0 t0.length d0] 36)).alloc (.cells #[.int .i64 m1, .slice B1 t1.length d1] 38)).alloc (.cells #[.int .i64 m3, .slice B3 t3.length d3] 33)).alloc (.cells #[.int .i64 0, .slice none 0 0] 33)) (w.heap.size + 1 + 1 + 1) 33 #[.int .i64 0, .slice none 0 0] := (Has.newAt (w := (((w.alloc (.cells #[.slice B0 t0.length d0] 36)).alloc (.cells #[.int .i64 m1, .slice B1 t1.length d1] 38)).alloc (.cells #[.int .i64 m3, .slice B3 t3.length d3] 33))) (e := 33) (cs := #[.int .i64 0, .slice none 0 0]) (k := w.heap.size + 1 + 1 + 1) (by simp))
  have HC1 := Lib.hid (fun W (he : Ex w W) => l01Is_ex B0 t0 d0 W (hR.ex he) hs)
  rw [hg] at HC1
  have HC2 := Lib.hid (fun W (he : Ex w W) => l02Is_ex B0 B1 t0 m1 t1 d0 d1 W (hR.ex he) (hU.ex he) (grpB_iff.1 hg) hu)
  rw [hm] at HC2
  have HC3 := Lib.hid (fun W (he : Ex w W) => l01Set_any B0 B2 t0 t2 d0 d2 W (hR.ex he) (hX.ex he) hs hx)
  rw [setC_yes hg hb] at HC3
  have HC4 := Lib.hid (fun kb W (he : Ex w W) => l01Elements1_ex B0 t0 d0 kb m4 W (hR.ex he) hs (grpB_iff.1 hg))
  rw [hv] at HC4
  have HQ := Lib.hid (cj_no (n := m3) (fs := t3) (cjC_err ((by simp [mgE, gmB, hg, hm] : mgE t0 m1 t1 t2 [m4] = sgC t0 t2 [m4]).trans (sgC_el hg ((below1 _ _).trans hv))) (by decide)) (by decide))
  have HE0 := Lib.hid e0
  have HB00 := Lib.hid b0
  have HB10 := Lib.hid b1
  have HB20 := Lib.hid b2
  have HB30 := Lib.hid b3
  have g := b0.cell 0
  have a := b1.cell 0
  have a' := b1.cell 1
  clear b0 b1 b2 b3 e0
  clear hR hU hX hs hu hx hg hm hb hv
  go_enter Tryz.func28, Tryz.ntmps28
  go_wp2_with fail
  generalize ((((w.alloc (.cells #[.slice B0 t0.length d0] 36)).alloc (.cells #[.int .i64 m1, .slice B1 t1.length d1] 38)).alloc (.cells #[.int .i64 m3, .slice B3 t3.length d3] 33)).alloc (.cells #[.int .i64 0, .slice none 0 0] 33)) = W0 at *
  refine (HC1.out W0 HE0.out).mono ?_
  rintro e W1 ⟨rfl, he⟩
  have hx := he
  have HE1 := Lib.hid (HE0.out.trans hx)
  have HB01 := Lib.hid (HB00.out.ex hx)
  have HB11 := Lib.hid (HB10.out.ex hx)
  have HB21 := Lib.hid (HB20.out.ex hx)
  have HB31 := Lib.hid (HB30.out.ex hx)
  clear hx he g a a' HC1 HE0 HB00 HB10 HB20 HB30
  have g := HB01.out.cell 0
  have a := HB11.out.cell 0
  have a' := HB11.out.cell 1
  go_wp2_with fail
  refine (HC2.out W1 HE1.out).mono ?_
  rintro e W2 ⟨rfl, he⟩
  have hx := he
  have HE2 := Lib.hid (HE1.out.trans hx)
  have HB02 := Lib.hid (HB01.out.ex hx)
  have HB12 := Lib.hid (HB11.out.ex hx)
  have HB22 := Lib.hid (HB21.out.ex hx)
  have HB32 := Lib.hid (HB31.out.ex hx)
  clear hx he g a a' HC2 HE1 HB01 HB11 HB21 HB31
  have g := HB02.out.cell 0
  have a := HB12.out.cell 0
  have a' := HB12.out.cell 1
  go_wp2_with fail
  refine (HC3.out W2 HE2.out).mono ?_
  rintro e W3 ⟨rfl, he⟩
  have hx := he
  have HE3 := Lib.hid (HE2.out.trans hx)
  have HB03 := Lib.hid (HB02.out.ex hx)
  have HB13 := Lib.hid (HB12.out.ex hx)
  have HB23 := Lib.hid (HB22.out.ex hx)
  have HB33 := Lib.hid (HB32.out.ex hx)
  clear hx he g a a' HC3 HE2 HB02 HB12 HB22 HB32
  have g := HB03.out.cell 0
  have a := HB13.out.cell 0
  have a' := HB13.out.cell 1
  go_wp2_with fail
  refine (HC4.out W3.heap.size _ (HE3.out.alloc _) (Has.new _ _ _)).mono ?_
  rintro e W4 ⟨rfl, he⟩
  have hx := (Ex.new W3 (.cells #[.int .i64 m4] 2)).trans he
  have HE4 := Lib.hid (HE3.out.trans hx)
  have HB04 := Lib.hid (HB03.out.ex hx)
  have HB14 := Lib.hid (HB13.out.ex hx)
  have HB24 := Lib.hid (HB23.out.ex hx)
  have HB34 := Lib.hid (HB33.out.ex hx)
  clear hx he g a a' HC4 HE3 HB03 HB13 HB23 HB33
  have g := HB04.out.cell 0
  have a := HB14.out.cell 0
  have a' := HB14.out.cell 1
  clear g a a'
  have c4 := HB34.out.cell 0
  have c4' := HB34.out.cell 1
  have f4 := HB34.out.free 0
  have f4' := HB34.out.free 1
  go_wp2_with fail
  have H4 := HB34.out.put2 (u := .int .i64 0) (v := .slice none 0 0)
  have c4 := H4.cell 0
  have c4' := H4.cell 1
  refine bodyPost_ret (v := .tuple #[.agg #[.int .i64 0, .slice none 0 0], .int .i64 2]) (by simp [results, Tryz.results28, go_sem, c4, c4']) rfl (SqS.err HQ.out rfl ((HE4.out.setCell (by show w.heap.size ≤ w.heap.size + 1 + 1 + 1; omega) _).setCell (by show w.heap.size ≤ w.heap.size + 1 + 1 + 1; omega) _))

set_option maxRecDepth 100000 in
set_option maxHeartbeats 8000000 in
theorem specCJ_e5 (t0 : List (List Int)) (m1 : Int) (t1 t2 : List Int) (m3 : Int) (t3 : List Int) (m4 : Int) (B0 : Option Addr) (d0 : Nat) (B1 : Option Addr) (d1 : Nat) (B2 : Option Addr) (d2 : Nat) (B3 : Option Addr) (d3 : Nat) (w : World) (hR : RwsW w B0 t0) (hU : IntsW w B1 t1) (hX : IntsW w B2 t2) (_ : IntsW w B3 t3) (hs : SmallT t0) (hu : t1.length ≤ 1048576) (hx : t2.length ≤ 1048576) (_ : t3.length ≤ 1048576) (hg : grpB t0 = true) (hm : modB t0 m1 t1 = true) (hb : setB t0.length t2 = true) (hv : movB t0.length m4 = true) (hsub : subB t0 (bitsK t2 t2.length) = false) :
    Calls Tryz.prog 28 #[.agg #[.slice B0 t0.length d0], .agg #[.int .i64 m1, .slice B1 t1.length d1], .slice B2 t2.length d2, .agg #[.int .i64 m3, .slice B3 t3.length d3], .int .i64 m4] w (SqS (qConjugateCochain0 t0 m1 t1 t2 m3 t3 m4) (yConjugateCochain0 t0 m1 t1 t2 m3 t3 m4) (qConjugateCochain1 t0 m1 t1 t2 m3 t3 m4) w) := by
  have e0 : Ex w ((((w.alloc (.cells #[.slice B0 t0.length d0] 36)).alloc (.cells #[.int .i64 m1, .slice B1 t1.length d1] 38)).alloc (.cells #[.int .i64 m3, .slice B3 t3.length d3] 33)).alloc (.cells #[.int .i64 0, .slice none 0 0] 33)) := ((((Ex.refl w).alloc _).alloc _).alloc _).alloc _
  have b0 : Has ((((w.alloc (.cells #[.slice B0 t0.length d0] 36)).alloc (.cells #[.int .i64 m1, .slice B1 t1.length d1] 38)).alloc (.cells #[.int .i64 m3, .slice B3 t3.length d3] 33)).alloc (.cells #[.int .i64 0, .slice none 0 0] 33)) (w.heap.size) 36 #[.slice B0 t0.length d0] := ((((Has.newAt (w := w) (e := 36) (cs := #[.slice B0 t0.length d0]) (k := w.heap.size) (by simp)).alloc _).alloc _).alloc _)
  have b1 : Has ((((w.alloc (.cells #[.slice B0 t0.length d0] 36)).alloc (.cells #[.int .i64 m1, .slice B1 t1.length d1] 38)).alloc (.cells #[.int .i64 m3, .slice B3 t3.length d3] 33)).alloc (.cells #[.int .i64 0, .slice none 0 0] 33)) (w.heap.size + 1) 38 #[.int .i64 m1, .slice B1 t1.length d1] := (((Has.newAt (w := (w.alloc (.cells #[.slice B0 t0.length d0] 36))) (e := 38) (cs := #[.int .i64 m1, .slice B1 t1.length d1]) (k := w.heap.size + 1) (by simp)).alloc _).alloc _)
  have b2 : Has ((((w.alloc (.cells #[.slice B0 t0.length d0] 36)).alloc (.cells #[.int .i64 m1, .slice B1 t1.length d1] 38)).alloc (.cells #[.int .i64 m3, .slice B3 t3.length d3] 33)).alloc (.cells #[.int .i64 0, .slice none 0 0] 33)) (w.heap.size + 1 + 1) 33 #[.int .i64 m3, .slice B3 t3.length d3] := ((Has.newAt (w := ((w.alloc (.cells #[.slice B0 t0.length d0] 36)).alloc (.cells #[.int .i64 m1, .slice B1 t1.length d1] 38))) (e := 33) (cs := #[.int .i64 m3, .slice B3 t3.length d3]) (k := w.heap.size + 1 + 1) (by simp)).alloc _)
  have b3 : Has ((((w.alloc (.cells #[.slice B0 t0.length d0] 36)).alloc (.cells #[.int .i64 m1, .slice B1 t1.length d1] 38)).alloc (.cells #[.int .i64 m3, .slice B3 t3.length d3] 33)).alloc (.cells #[.int .i64 0, .slice none 0 0] 33)) (w.heap.size + 1 + 1 + 1) 33 #[.int .i64 0, .slice none 0 0] := (Has.newAt (w := (((w.alloc (.cells #[.slice B0 t0.length d0] 36)).alloc (.cells #[.int .i64 m1, .slice B1 t1.length d1] 38)).alloc (.cells #[.int .i64 m3, .slice B3 t3.length d3] 33))) (e := 33) (cs := #[.int .i64 0, .slice none 0 0]) (k := w.heap.size + 1 + 1 + 1) (by simp))
  have HC1 := Lib.hid (fun W (he : Ex w W) => l01Is_ex B0 t0 d0 W (hR.ex he) hs)
  rw [hg] at HC1
  have HC2 := Lib.hid (fun W (he : Ex w W) => l02Is_ex B0 B1 t0 m1 t1 d0 d1 W (hR.ex he) (hU.ex he) (grpB_iff.1 hg) hu)
  rw [hm] at HC2
  have HC3 := Lib.hid (fun W (he : Ex w W) => l01Set_any B0 B2 t0 t2 d0 d2 W (hR.ex he) (hX.ex he) hs hx)
  rw [setC_yes hg hb] at HC3
  have HC4 := Lib.hid (fun kb W (he : Ex w W) => l01Elements1_ex B0 t0 d0 kb m4 W (hR.ex he) hs (grpB_iff.1 hg))
  rw [hv] at HC4
  have HC5 := Lib.hid (fun W (he : Ex w W) => l07Code_any B0 B2 t0 t2 d0 d2 W (hR.ex he) (hX.ex he) hs hx)
  rw [sgC_st hg hb rfl hsub] at HC5
  have HQ := Lib.hid (cj_no (n := m3) (fs := t3) (cjC_err ((by simp [mgE, gmB, hg, hm] : mgE t0 m1 t1 t2 [m4] = sgC t0 t2 [m4]).trans (sgC_st hg hb ((below1 _ _).trans hv) hsub)) (by decide)) (by decide))
  have HE0 := Lib.hid e0
  have HB00 := Lib.hid b0
  have HB10 := Lib.hid b1
  have HB20 := Lib.hid b2
  have HB30 := Lib.hid b3
  have g := b0.cell 0
  have a := b1.cell 0
  have a' := b1.cell 1
  clear b0 b1 b2 b3 e0
  clear hR hU hX hs hu hx hg hm hb hv hsub
  go_enter Tryz.func28, Tryz.ntmps28
  go_wp2_with fail
  generalize ((((w.alloc (.cells #[.slice B0 t0.length d0] 36)).alloc (.cells #[.int .i64 m1, .slice B1 t1.length d1] 38)).alloc (.cells #[.int .i64 m3, .slice B3 t3.length d3] 33)).alloc (.cells #[.int .i64 0, .slice none 0 0] 33)) = W0 at *
  refine (HC1.out W0 HE0.out).mono ?_
  rintro e W1 ⟨rfl, he⟩
  have hx := he
  have HE1 := Lib.hid (HE0.out.trans hx)
  have HB01 := Lib.hid (HB00.out.ex hx)
  have HB11 := Lib.hid (HB10.out.ex hx)
  have HB21 := Lib.hid (HB20.out.ex hx)
  have HB31 := Lib.hid (HB30.out.ex hx)
  clear hx he g a a' HC1 HE0 HB00 HB10 HB20 HB30
  have g := HB01.out.cell 0
  have a := HB11.out.cell 0
  have a' := HB11.out.cell 1
  go_wp2_with fail
  refine (HC2.out W1 HE1.out).mono ?_
  rintro e W2 ⟨rfl, he⟩
  have hx := he
  have HE2 := Lib.hid (HE1.out.trans hx)
  have HB02 := Lib.hid (HB01.out.ex hx)
  have HB12 := Lib.hid (HB11.out.ex hx)
  have HB22 := Lib.hid (HB21.out.ex hx)
  have HB32 := Lib.hid (HB31.out.ex hx)
  clear hx he g a a' HC2 HE1 HB01 HB11 HB21 HB31
  have g := HB02.out.cell 0
  have a := HB12.out.cell 0
  have a' := HB12.out.cell 1
  go_wp2_with fail
  refine (HC3.out W2 HE2.out).mono ?_
  rintro e W3 ⟨rfl, he⟩
  have hx := he
  have HE3 := Lib.hid (HE2.out.trans hx)
  have HB03 := Lib.hid (HB02.out.ex hx)
  have HB13 := Lib.hid (HB12.out.ex hx)
  have HB23 := Lib.hid (HB22.out.ex hx)
  have HB33 := Lib.hid (HB32.out.ex hx)
  clear hx he g a a' HC3 HE2 HB02 HB12 HB22 HB32
  have g := HB03.out.cell 0
  have a := HB13.out.cell 0
  have a' := HB13.out.cell 1
  go_wp2_with fail
  refine (HC4.out W3.heap.size _ (HE3.out.alloc _) (Has.new _ _ _)).mono ?_
  rintro e W4 ⟨rfl, he⟩
  have hx := (Ex.new W3 (.cells #[.int .i64 m4] 2)).trans he
  have HE4 := Lib.hid (HE3.out.trans hx)
  have HB04 := Lib.hid (HB03.out.ex hx)
  have HB14 := Lib.hid (HB13.out.ex hx)
  have HB24 := Lib.hid (HB23.out.ex hx)
  have HB34 := Lib.hid (HB33.out.ex hx)
  clear hx he g a a' HC4 HE3 HB03 HB13 HB23 HB33
  have g := HB04.out.cell 0
  have a := HB14.out.cell 0
  have a' := HB14.out.cell 1
  go_wp2_with fail
  refine (HC5.out W4 HE4.out).mono ?_
  rintro e W5 ⟨rfl, he⟩
  have hx := he
  have HE5 := Lib.hid (HE4.out.trans hx)
  have HB05 := Lib.hid (HB04.out.ex hx)
  have HB15 := Lib.hid (HB14.out.ex hx)
  have HB25 := Lib.hid (HB24.out.ex hx)
  have HB35 := Lib.hid (HB34.out.ex hx)
  clear hx he g a a' HC5 HE4 HB04 HB14 HB24 HB34
  have g := HB05.out.cell 0
  have a := HB15.out.cell 0
  have a' := HB15.out.cell 1
  clear g a a'
  have c4 := HB35.out.cell 0
  have c4' := HB35.out.cell 1
  have f4 := HB35.out.free 0
  have f4' := HB35.out.free 1
  go_wp2_with fail
  have H4 := HB35.out.put2 (u := .int .i64 0) (v := .slice none 0 0)
  have c4 := H4.cell 0
  have c4' := H4.cell 1
  refine bodyPost_ret (v := .tuple #[.agg #[.int .i64 0, .slice none 0 0], .int .i64 5]) (by simp [results, Tryz.results28, go_sem, c4, c4']) rfl (SqS.err HQ.out rfl ((HE5.out.setCell (by show w.heap.size ≤ w.heap.size + 1 + 1 + 1; omega) _).setCell (by show w.heap.size ≤ w.heap.size + 1 + 1 + 1; omega) _))

set_option maxRecDepth 100000 in
set_option maxHeartbeats 8000000 in
theorem specCJ_e6 (t0 : List (List Int)) (M : Nat) (t1 t2 : List Int) (m3 : Int) (t3 : List Int) (m4 : Int) (B0 : Option Addr) (d0 : Nat) (B1 : Option Addr) (d1 : Nat) (B2 : Option Addr) (d2 : Nat) (B3 : Option Addr) (d3 : Nat) (w : World) (hR : RwsW w B0 t0) (hU : IntsW w B1 t1) (hX : IntsW w B2 t2) (hF : IntsW w B3 t3) (hs : SmallT t0) (hu : t1.length ≤ 1048576) (hx : t2.length ≤ 1048576) (hf : t3.length ≤ 1048576) (hg : grpB t0 = true) (hm : modB t0 (M : Int) t1 = true) (hb : setB t0.length t2 = true) (hv : movB t0.length m4 = true) (hsub : subB t0 (bitsK t2 t2.length) = true) (hMF : ModF t0 M t1) (hcb : cocB t2.length (M : Int) m3 t3 = false) :
    Calls Tryz.prog 28 #[.agg #[.slice B0 t0.length d0], .agg #[.int .i64 (M : Int), .slice B1 t1.length d1], .slice B2 t2.length d2, .agg #[.int .i64 m3, .slice B3 t3.length d3], .int .i64 m4] w (SqS (qConjugateCochain0 t0 (M : Int) t1 t2 m3 t3 m4) (yConjugateCochain0 t0 (M : Int) t1 t2 m3 t3 m4) (qConjugateCochain1 t0 (M : Int) t1 t2 m3 t3 m4) w) := by
  have e0 : Ex w ((((w.alloc (.cells #[.slice B0 t0.length d0] 36)).alloc (.cells #[.int .i64 (M : Int), .slice B1 t1.length d1] 38)).alloc (.cells #[.int .i64 m3, .slice B3 t3.length d3] 33)).alloc (.cells #[.int .i64 0, .slice none 0 0] 33)) := ((((Ex.refl w).alloc _).alloc _).alloc _).alloc _
  have b0 : Has ((((w.alloc (.cells #[.slice B0 t0.length d0] 36)).alloc (.cells #[.int .i64 (M : Int), .slice B1 t1.length d1] 38)).alloc (.cells #[.int .i64 m3, .slice B3 t3.length d3] 33)).alloc (.cells #[.int .i64 0, .slice none 0 0] 33)) (w.heap.size) 36 #[.slice B0 t0.length d0] := ((((Has.newAt (w := w) (e := 36) (cs := #[.slice B0 t0.length d0]) (k := w.heap.size) (by simp)).alloc _).alloc _).alloc _)
  have b1 : Has ((((w.alloc (.cells #[.slice B0 t0.length d0] 36)).alloc (.cells #[.int .i64 (M : Int), .slice B1 t1.length d1] 38)).alloc (.cells #[.int .i64 m3, .slice B3 t3.length d3] 33)).alloc (.cells #[.int .i64 0, .slice none 0 0] 33)) (w.heap.size + 1) 38 #[.int .i64 (M : Int), .slice B1 t1.length d1] := (((Has.newAt (w := (w.alloc (.cells #[.slice B0 t0.length d0] 36))) (e := 38) (cs := #[.int .i64 (M : Int), .slice B1 t1.length d1]) (k := w.heap.size + 1) (by simp)).alloc _).alloc _)
  have b2 : Has ((((w.alloc (.cells #[.slice B0 t0.length d0] 36)).alloc (.cells #[.int .i64 (M : Int), .slice B1 t1.length d1] 38)).alloc (.cells #[.int .i64 m3, .slice B3 t3.length d3] 33)).alloc (.cells #[.int .i64 0, .slice none 0 0] 33)) (w.heap.size + 1 + 1) 33 #[.int .i64 m3, .slice B3 t3.length d3] := ((Has.newAt (w := ((w.alloc (.cells #[.slice B0 t0.length d0] 36)).alloc (.cells #[.int .i64 (M : Int), .slice B1 t1.length d1] 38))) (e := 33) (cs := #[.int .i64 m3, .slice B3 t3.length d3]) (k := w.heap.size + 1 + 1) (by simp)).alloc _)
  have b3 : Has ((((w.alloc (.cells #[.slice B0 t0.length d0] 36)).alloc (.cells #[.int .i64 (M : Int), .slice B1 t1.length d1] 38)).alloc (.cells #[.int .i64 m3, .slice B3 t3.length d3] 33)).alloc (.cells #[.int .i64 0, .slice none 0 0] 33)) (w.heap.size + 1 + 1 + 1) 33 #[.int .i64 0, .slice none 0 0] := (Has.newAt (w := (((w.alloc (.cells #[.slice B0 t0.length d0] 36)).alloc (.cells #[.int .i64 (M : Int), .slice B1 t1.length d1] 38)).alloc (.cells #[.int .i64 m3, .slice B3 t3.length d3] 33))) (e := 33) (cs := #[.int .i64 0, .slice none 0 0]) (k := w.heap.size + 1 + 1 + 1) (by simp))
  have HC1 := Lib.hid (fun W (he : Ex w W) => l01Is_ex B0 t0 d0 W (hR.ex he) hs)
  rw [hg] at HC1
  have HC2 := Lib.hid (fun W (he : Ex w W) => l02Is_ex B0 B1 t0 (M : Int) t1 d0 d1 W (hR.ex he) (hU.ex he) (grpB_iff.1 hg) hu)
  rw [hm] at HC2
  have HC3 := Lib.hid (fun W (he : Ex w W) => l01Set_any B0 B2 t0 t2 d0 d2 W (hR.ex he) (hX.ex he) hs hx)
  rw [setC_yes hg hb] at HC3
  have HC4 := Lib.hid (fun kb W (he : Ex w W) => l01Elements1_ex B0 t0 d0 kb m4 W (hR.ex he) hs (grpB_iff.1 hg))
  rw [hv] at HC4
  have HC5 := Lib.hid (fun W (he : Ex w W) => l07Code_any B0 B2 t0 t2 d0 d2 W (hR.ex he) (hX.ex he) hs hx)
  rw [sgC_yes hg hb rfl hsub] at HC5
  have HQ := Lib.hid (cj_no (cjC_no ((by simp [mgE, gmB, hg, hm] : mgE t0 (M : Int) t1 t2 [m4] = sgC t0 t2 [m4]).trans (sgC_yes hg hb ((below1 _ _).trans hv) hsub)) hcb) (by decide))
  have hsx := subX_of (grpB_iff.1 hg) hb hsub
  have HGR := Lib.hid (fun W (he : Ex w W) => l07Group_any B0 B2 t0 t2 d0 d2 W (hR.ex he) (hX.ex he) hsx)
  rw [show (grT t0 t2).length = t2.length from grT_len t0 t2] at HGR
  have HMO := Lib.hid (fun W (he : Ex w W) => l07Module_any B1 B2 t0 (M : Int) t1 t2 d1 d2 W (hU.ex he) (hX.ex he) hsx hMF.len)
  have HIS := Lib.hid (fun (W : World) (P A' : Option Addr) (q n' : Nat) (he : Ex w W) => l03Is_any P A' B3 (grT t0 t2) M t2 m3 t3 q n' d3 W (by rw [grT_len]; exact hsx.pos) (by rw [grT_len]; exact hsx.len8) hMF.m2 hMF.m12 (hF.ex he) hf)
  rw [grT_len, hcb] at HIS
  have HE0 := Lib.hid e0
  have HB00 := Lib.hid b0
  have HB10 := Lib.hid b1
  have HB20 := Lib.hid b2
  have HB30 := Lib.hid b3
  have g := b0.cell 0
  have a := b1.cell 0
  have a' := b1.cell 1
  clear b0 b1 b2 b3 e0
  clear hR hU hX hF hs hu hx hf hg hm hb hv hsub hMF hcb hsx
  go_enter Tryz.func28, Tryz.ntmps28
  go_wp2_with fail
  generalize ((((w.alloc (.cells #[.slice B0 t0.length d0] 36)).alloc (.cells #[.int .i64 (M : Int), .slice B1 t1.length d1] 38)).alloc (.cells #[.int .i64 m3, .slice B3 t3.length d3] 33)).alloc (.cells #[.int .i64 0, .slice none 0 0] 33)) = W0 at *
  refine (HC1.out W0 HE0.out).mono ?_
  rintro e W1 ⟨rfl, he⟩
  have hx := he
  have HE1 := Lib.hid (HE0.out.trans hx)
  have HB01 := Lib.hid (HB00.out.ex hx)
  have HB11 := Lib.hid (HB10.out.ex hx)
  have HB21 := Lib.hid (HB20.out.ex hx)
  have HB31 := Lib.hid (HB30.out.ex hx)
  clear hx he g a a' HC1 HE0 HB00 HB10 HB20 HB30
  have g := HB01.out.cell 0
  have a := HB11.out.cell 0
  have a' := HB11.out.cell 1
  go_wp2_with fail
  refine (HC2.out W1 HE1.out).mono ?_
  rintro e W2 ⟨rfl, he⟩
  have hx := he
  have HE2 := Lib.hid (HE1.out.trans hx)
  have HB02 := Lib.hid (HB01.out.ex hx)
  have HB12 := Lib.hid (HB11.out.ex hx)
  have HB22 := Lib.hid (HB21.out.ex hx)
  have HB32 := Lib.hid (HB31.out.ex hx)
  clear hx he g a a' HC2 HE1 HB01 HB11 HB21 HB31
  have g := HB02.out.cell 0
  have a := HB12.out.cell 0
  have a' := HB12.out.cell 1
  go_wp2_with fail
  refine (HC3.out W2 HE2.out).mono ?_
  rintro e W3 ⟨rfl, he⟩
  have hx := he
  have HE3 := Lib.hid (HE2.out.trans hx)
  have HB03 := Lib.hid (HB02.out.ex hx)
  have HB13 := Lib.hid (HB12.out.ex hx)
  have HB23 := Lib.hid (HB22.out.ex hx)
  have HB33 := Lib.hid (HB32.out.ex hx)
  clear hx he g a a' HC3 HE2 HB02 HB12 HB22 HB32
  have g := HB03.out.cell 0
  have a := HB13.out.cell 0
  have a' := HB13.out.cell 1
  go_wp2_with fail
  refine (HC4.out W3.heap.size _ (HE3.out.alloc _) (Has.new _ _ _)).mono ?_
  rintro e W4 ⟨rfl, he⟩
  have hx := (Ex.new W3 (.cells #[.int .i64 m4] 2)).trans he
  have HE4 := Lib.hid (HE3.out.trans hx)
  have HB04 := Lib.hid (HB03.out.ex hx)
  have HB14 := Lib.hid (HB13.out.ex hx)
  have HB24 := Lib.hid (HB23.out.ex hx)
  have HB34 := Lib.hid (HB33.out.ex hx)
  clear hx he g a a' HC4 HE3 HB03 HB13 HB23 HB33
  have g := HB04.out.cell 0
  have a := HB14.out.cell 0
  have a' := HB14.out.cell 1
  go_wp2_with fail
  refine (HC5.out W4 HE4.out).mono ?_
  rintro e W5 ⟨rfl, he⟩
  have hx := he
  have HE5 := Lib.hid (HE4.out.trans hx)
  have HB05 := Lib.hid (HB04.out.ex hx)
  have HB15 := Lib.hid (HB14.out.ex hx)
  have HB25 := Lib.hid (HB24.out.ex hx)
  have HB35 := Lib.hid (HB34.out.ex hx)
  clear hx he g a a' HC5 HE4 HB04 HB14 HB24 HB34
  have g := HB05.out.cell 0
  have a := HB15.out.cell 0
  have a' := HB15.out.cell 1
  go_wp2_with fail
  refine (HGR.out W5 HE5.out).mono ?_
  rintro e W6 ⟨GG, gn, rfl, he6, -⟩
  obtain ⟨s, hs6⟩ : ∃ s, W6.heap.size = s := ⟨_, rfl⟩
  have ea := he6.trans (Ex.new W6 (.cells #[.slice GG t2.length gn] 36))
  have HE7 := Lib.hid (HE5.out.trans ea)
  have HB07 := Lib.hid (HB05.out.ex ea)
  have HB17 := Lib.hid (HB15.out.ex ea)
  have HB27 := Lib.hid (HB25.out.ex ea)
  have HB37 := Lib.hid (HB35.out.ex ea)
  have HS7 : Hid (Has (W6.alloc (.cells #[.slice GG t2.length gn] 36)) s 36 #[.slice GG t2.length gn]) := Lib.hid (Has.newAt hs6)
  clear he6 ea g a a' HE5 HGR HB05 HB15 HB25 HB35
  go_upto_region 9 with (fail)
  simp only [hs6] at *
  clear hs6
  generalize W6.alloc (.cells #[.slice GG t2.length gn] 36) = W7 at *
  have HCF := Lib.hid (fun (W : World) (he : Ex W7 W) => And.intro ((HS7.out.ex he).cell 0) (And.intro ((HB17.out.ex he).cell 0) (And.intro ((HB17.out.ex he).cell 1) (And.intro ((HB27.out.ex he).cell 0) ((HB27.out.ex he).cell 1)))))
  have hC0 := HCF.out W7 (Ex.refl _)
  refine Late.region (C := fun w' => w'.cell? ⟨s, 0, none⟩ = some (.slice GG t2.length gn) ∧ w'.cell? ⟨w.heap.size + 1, 0, none⟩ = some (.int .i64 (M : Int)) ∧ w'.cell? ⟨w.heap.size + 1, 1, none⟩ = some (.slice B1 t1.length d1) ∧ w'.cell? ⟨w.heap.size + 1 + 1, 0, none⟩ = some (.int .i64 m3) ∧ w'.cell? ⟨w.heap.size + 1 + 1, 1, none⟩ = some (.slice B3 t3.length d3)) (fun _ => true) (by kernel_rfl) hC0 (fun hC => ?_)
  refine Late.take (i := 0) (oi := ⟨_, _, _, _, _, _⟩) (v := ?_) rfl (by kernel_rfl) (by kernel_rfl) (by kernel_rfl) (by kernel_rfl) (fun _ _ _ h => h) (Or.inl ⟨by rfl, ?_⟩) hC ?_
  rotate_left
  · (intro w hSw; (try dsimp only at hSw); go_simp; first | done | with_reducible rfl)
  simp only [Act.put]
  refine Late.take (i := 1) (oi := ⟨_, _, _, _, _, _⟩) (v := ?_) rfl (by kernel_rfl) (by kernel_rfl) (by kernel_rfl) (by kernel_rfl) (fun _ _ _ h => h) (Or.inl ⟨by rfl, ?_⟩) hC ?_
  rotate_left
  · (intro w hSw; (try dsimp only at hSw); go_simp; first | done | with_reducible rfl)
  simp only [Act.put]
  refine Late.take (i := 2) (oi := ⟨_, _, _, _, _, _⟩) (v := ?_) rfl (by kernel_rfl) (by kernel_rfl) (by kernel_rfl) (by kernel_rfl) (fun _ _ _ h => h) (Or.inl ⟨by rfl, ?_⟩) hC ?_
  rotate_left
  · (intro w hSw; (try dsimp only at hSw); go_simp; first | done | with_reducible rfl)
  simp only [Act.put]
  refine Late.take (i := 4) (oi := ⟨_, _, _, _, _, _⟩) (v := ?_) rfl (by kernel_rfl) (by kernel_rfl) (by kernel_rfl) (by kernel_rfl) (fun _ _ _ h => h) (Or.inl ⟨by rfl, ?_⟩) hC ?_
  rotate_left
  · (intro w hSw; (try dsimp only at hSw); go_simp; first | done | with_reducible rfl)
  simp only [Act.put]
  clear hC hC0
  refine Late.one (i := 3) (o := _) (by kernel_rfl) rfl (fun K' hK' => ?_)
  go_simp
  refine (HMO.out W7.drew HE7.out.drew).mono ?_
  rintro e W8 ⟨A', n', rfl, he8, -⟩
  have HX8 := Lib.hid ((Ex.refl W7).drew.trans he8)
  refine hK'.out _ _ (fun _ => HCF.out W8 HX8.out) (fun _ => ?_)
  clear hK' K' he8
  try simp only [Act.put, List.setIfInBounds_toArray, List.set_cons_zero, List.set_cons_succ]
  refine Late.one (i := 5) (o := _) (by kernel_rfl) rfl (fun K' hK' => ?_)
  go_simp
  refine (HIS.out W8 GG A' gn n' (HE7.out.trans HX8.out)).mono ?_
  rintro e W9 ⟨rfl, he9⟩
  have HX9 := Lib.hid (HX8.out.trans he9)
  have HE9 := Lib.hid (HE7.out.trans HX9.out)
  have HB09 := Lib.hid (HB07.out.ex HX9.out)
  have HB19 := Lib.hid (HB17.out.ex HX9.out)
  have HB29 := Lib.hid (HB27.out.ex HX9.out)
  have HB39 := Lib.hid (HB37.out.ex HX9.out)
  have HS9 := Lib.hid (HS7.out.ex HX9.out)
  have hC9 := HCF.out W9 HX9.out
  refine hK'.out _ _ (fun _ => hC9) (fun _ => ?_)
  clear hK' K' he9 HX8 HX9 HE7 HMO HIS HS7 HB07 HB17 HB27 HB37
  try simp only [Act.put, List.setIfInBounds_toArray, List.set_cons_zero, List.set_cons_succ]
  refine Late.take (i := 6) (oi := ⟨_, _, _, _, _, _⟩) (v := ?_) rfl (by kernel_rfl) (by kernel_rfl) (by kernel_rfl) (by kernel_rfl) (fun _ _ _ h => h) (Or.inl ⟨by rfl, ?_⟩) hC9 ?_
  rotate_left
  · (intro w hSw; (try dsimp only at hSw); go_simp; first | done | with_reducible rfl)
  simp only [Act.put]
  clear hC9 HCF
  refine Late.done (by kernel_rfl) ?_ _
  have c4 := HB39.out.cell 0
  have c4' := HB39.out.cell 1
  have f4 := HB39.out.free 0
  have f4' := HB39.out.free 1
  go_wp2_with fail
  have H4 := HB39.out.put2 (u := .int .i64 0) (v := .slice none 0 0)
  have c4 := H4.cell 0
  have c4' := H4.cell 1
  refine bodyPost_ret (v := .tuple #[.agg #[.int .i64 0, .slice none 0 0], .int .i64 1]) (by simp [results, Tryz.results28, go_sem, c4, c4']) rfl (SqS.err HQ.out rfl ((HE9.out.setCell (by show w.heap.size ≤ w.heap.size + 1 + 1 + 1; omega) _).setCell (by show w.heap.size ≤ w.heap.size + 1 + 1 + 1; omega) _))

set_option maxRecDepth 100000 in
set_option maxHeartbeats 8000000 in
theorem specCJ_yes (t0 : List (List Int)) (M : Nat) (t1 t2 : List Int) (d : Nat) (t3 : List Int) (k : Nat) (B0 : Option Addr) (d0 : Nat) (B1 : Option Addr) (d1 : Nat) (B2 : Option Addr) (d2 : Nat) (B3 : Option Addr) (d3 : Nat) (w : World) (hR : RwsW w B0 t0) (hU : IntsW w B1 t1) (hX : IntsW w B2 t2) (hF : IntsW w B3 t3) (hs : SmallT t0) (hu : t1.length ≤ 1048576) (hx : t2.length ≤ 1048576) (hf : t3.length ≤ 1048576) (hg : grpB t0 = true) (hm : modB t0 (M : Int) t1 = true) (hb : setB t0.length t2 = true) (hv : movB t0.length (k : Int) = true) (hsub : subB t0 (bitsK t2 t2.length) = true) (hMF : ModF t0 M t1) (hcb : cocB t2.length (M : Int) (d : Int) t3 = true) (hk : k < t0.length) (hd3 : d ≤ 3) (hlen : t3.length = cellsN t2.length d) (hfr : InR M t3) :
    Calls Tryz.prog 28 #[.agg #[.slice B0 t0.length d0], .agg #[.int .i64 (M : Int), .slice B1 t1.length d1], .slice B2 t2.length d2, .agg #[.int .i64 (d : Int), .slice B3 t3.length d3], .int .i64 (k : Int)] w (SqS (qConjugateCochain0 t0 (M : Int) t1 t2 (d : Int) t3 (k : Int)) (yConjugateCochain0 t0 (M : Int) t1 t2 (d : Int) t3 (k : Int)) (qConjugateCochain1 t0 (M : Int) t1 t2 (d : Int) t3 (k : Int)) w) := by
  obtain ⟨i0, hi, hi0, hi1, hi2⟩ := info_parts infoI
  have e0 : Ex w ((((w.alloc (.cells #[.slice B0 t0.length d0] 36)).alloc (.cells #[.int .i64 (M : Int), .slice B1 t1.length d1] 38)).alloc (.cells #[.int .i64 (d : Int), .slice B3 t3.length d3] 33)).alloc (.cells #[.int .i64 0, .slice none 0 0] 33)) := ((((Ex.refl w).alloc _).alloc _).alloc _).alloc _
  have b0 : Has ((((w.alloc (.cells #[.slice B0 t0.length d0] 36)).alloc (.cells #[.int .i64 (M : Int), .slice B1 t1.length d1] 38)).alloc (.cells #[.int .i64 (d : Int), .slice B3 t3.length d3] 33)).alloc (.cells #[.int .i64 0, .slice none 0 0] 33)) (w.heap.size) 36 #[.slice B0 t0.length d0] := ((((Has.newAt (w := w) (e := 36) (cs := #[.slice B0 t0.length d0]) (k := w.heap.size) (by simp)).alloc _).alloc _).alloc _)
  have b1 : Has ((((w.alloc (.cells #[.slice B0 t0.length d0] 36)).alloc (.cells #[.int .i64 (M : Int), .slice B1 t1.length d1] 38)).alloc (.cells #[.int .i64 (d : Int), .slice B3 t3.length d3] 33)).alloc (.cells #[.int .i64 0, .slice none 0 0] 33)) (w.heap.size + 1) 38 #[.int .i64 (M : Int), .slice B1 t1.length d1] := (((Has.newAt (w := (w.alloc (.cells #[.slice B0 t0.length d0] 36))) (e := 38) (cs := #[.int .i64 (M : Int), .slice B1 t1.length d1]) (k := w.heap.size + 1) (by simp)).alloc _).alloc _)
  have b2 : Has ((((w.alloc (.cells #[.slice B0 t0.length d0] 36)).alloc (.cells #[.int .i64 (M : Int), .slice B1 t1.length d1] 38)).alloc (.cells #[.int .i64 (d : Int), .slice B3 t3.length d3] 33)).alloc (.cells #[.int .i64 0, .slice none 0 0] 33)) (w.heap.size + 1 + 1) 33 #[.int .i64 (d : Int), .slice B3 t3.length d3] := ((Has.newAt (w := ((w.alloc (.cells #[.slice B0 t0.length d0] 36)).alloc (.cells #[.int .i64 (M : Int), .slice B1 t1.length d1] 38))) (e := 33) (cs := #[.int .i64 (d : Int), .slice B3 t3.length d3]) (k := w.heap.size + 1 + 1) (by simp)).alloc _)
  have b3 : Has ((((w.alloc (.cells #[.slice B0 t0.length d0] 36)).alloc (.cells #[.int .i64 (M : Int), .slice B1 t1.length d1] 38)).alloc (.cells #[.int .i64 (d : Int), .slice B3 t3.length d3] 33)).alloc (.cells #[.int .i64 0, .slice none 0 0] 33)) (w.heap.size + 1 + 1 + 1) 33 #[.int .i64 0, .slice none 0 0] := (Has.newAt (w := (((w.alloc (.cells #[.slice B0 t0.length d0] 36)).alloc (.cells #[.int .i64 (M : Int), .slice B1 t1.length d1] 38)).alloc (.cells #[.int .i64 (d : Int), .slice B3 t3.length d3] 33))) (e := 33) (cs := #[.int .i64 0, .slice none 0 0]) (k := w.heap.size + 1 + 1 + 1) (by simp))
  have HC1 := Lib.hid (fun W (he : Ex w W) => l01Is_ex B0 t0 d0 W (hR.ex he) hs)
  rw [hg] at HC1
  have HC2 := Lib.hid (fun W (he : Ex w W) => l02Is_ex B0 B1 t0 (M : Int) t1 d0 d1 W (hR.ex he) (hU.ex he) (grpB_iff.1 hg) hu)
  rw [hm] at HC2
  have HC3 := Lib.hid (fun W (he : Ex w W) => l01Set_any B0 B2 t0 t2 d0 d2 W (hR.ex he) (hX.ex he) hs hx)
  rw [setC_yes hg hb] at HC3
  have HC4 := Lib.hid (fun kb W (he : Ex w W) => l01Elements1_ex B0 t0 d0 kb (k : Int) W (hR.ex he) hs (grpB_iff.1 hg))
  rw [hv] at HC4
  have HC5 := Lib.hid (fun W (he : Ex w W) => l07Code_any B0 B2 t0 t2 d0 d2 W (hR.ex he) (hX.ex he) hs hx)
  rw [sgC_yes hg hb rfl hsub] at HC5
  have HQ := Lib.hid (cj_yes (cjC_yes ((by simp [mgE, gmB, hg, hm] : mgE t0 (M : Int) t1 t2 [(k : Int)] = sgC t0 t2 [(k : Int)]).trans (sgC_yes hg hb ((below1 _ _).trans hv) hsub)) hcb))
  have hsx := subX_of (grpB_iff.1 hg) hb hsub
  have HGR := Lib.hid (fun W (he : Ex w W) => l07Group_any B0 B2 t0 t2 d0 d2 W (hR.ex he) (hX.ex he) hsx)
  rw [show (grT t0 t2).length = t2.length from grT_len t0 t2] at HGR
  have HMO := Lib.hid (fun W (he : Ex w W) => l07Module_any B1 B2 t0 (M : Int) t1 t2 d1 d2 W (hU.ex he) (hX.ex he) hsx hMF.len)
  have HIS := Lib.hid (fun (W : World) (P A' : Option Addr) (q n' : Nat) (he : Ex w W) => l03Is_any P A' B3 (grT t0 t2) M t2 (d : Int) t3 q n' d3 W (by rw [grT_len]; exact hsx.pos) (by rw [grT_len]; exact hsx.len8) hMF.m2 hMF.m12 (hF.ex he) hf)
  rw [grT_len, hcb] at HIS
  have hcl := cjL_len hsx hk
  have hcs := cjL_sub hsx hk
  have hgr := hsx.g
  have hb' := (iv_spec hgr hk).1
  have HCE := Lib.hid (fun W (he : Ex w W) => l07Conjugate_any B0 B2 t0 t2 d0 d2 k W (hR.ex he) (hX.ex he) hgr (fun i hi => hsx.rng hi) hx hk)
  have HIV := Lib.hid (fun W (he : Ex w W) => l01Inverse_any B0 t0 d0 k W (hR.ex he) hgr hk)
  have hVX : ∀ x, x < t2.length → ∃ (y z : Nat), nth (cjL t0 t2 k) x = (y : Int) ∧ y < t0.length ∧ con t0 y (iv t0 k) = z ∧ z ∈ elsL t2 ∧ plN t2 z = cjV t0 t2 k x ∧ cjV t0 t2 k x < t2.length := fun x hx' => have hxl : x < (cjL t0 t2 k).length := by omega
    ⟨xN (cjL t0 t2 k) x, con t0 (xN (cjL t0 t2 k) x) (iv t0 k), (hcs.nat hxl).1, (hcs.nat hxl).2, rfl, cjL_back hsx hk hx', rfl, cjV_lt hsx hk hx'⟩
  rw [hcl] at HCE
  have hul := hMF.len
  have hal : k < t1.length := by omega
  have hun1 := hMF.rng k hal
  have hM2 := hMF.m2
  have hM12 := hMF.m12
  have HZS := Lib.hid (led_pb (V := fun x => (cjV t0 t2 k x : Int)) (fs := t3) (K := t2.length) (M := M) (u := nth t1 k) hlen)
  have HDN := Lib.hid (fun j (h : j < t3.length) => cells_posU (N := t2.length) (d := d) (k := j) (by rw [← hlen]; exact h))
  have hT24 : t3.length ≤ 2401 := by rw [hlen]; exact cellsN_le hsx.len8 (by omega)
  have hp8 := hsx.len8
  have hp1 := hsx.pos
  have HRW := Lib.hid hR
  have HXL := Lib.hid hX
  have HFL := Lib.hid hF
  have HUL := Lib.hid hU
  have HSX := Lib.hid hsx
  have HLN := Lib.hid hlen
  have HFR := Lib.hid hfr
  obtain ⟨V, hV⟩ : ∃ V, cjV t0 t2 k = V := ⟨_, rfl⟩
  obtain ⟨b, hbb⟩ : ∃ b, iv t0 k = b := ⟨_, rfl⟩
  obtain ⟨ys, hys⟩ : ∃ ys, cjL t0 t2 k = ys := ⟨_, rfl⟩
  rw [hV] at HZS HQ hVX
  rw [hbb] at HIV hb' hVX
  rw [hys] at HCE hVX
  have hyl : ys.length = t2.length := by rw [← hys]; exact hcl
  have HYL := Lib.hid hyl
  have HVX := Lib.hid hVX
  obtain ⟨zs, hzs⟩ : ∃ zs, ledY M (nth t1 k) (pbY (fun x => (V x : Int)) t3 t2.length t2.length d) = zs := ⟨_, rfl⟩
  rw [hzs] at HZS HQ
  have HLZ : Hid (zs.length = t3.length) := Lib.hid (by rw [← hzs, ledY_len, pbY_len, hlen])
  have HE0 := Lib.hid e0
  have HB00 := Lib.hid b0
  have HB10 := Lib.hid b1
  have HB20 := Lib.hid b2
  have HB30 := Lib.hid b3
  have g := b0.cell 0
  have a := b1.cell 0
  have a' := b1.cell 1
  clear b0 b1 b2 b3 e0
  clear hR hU hX hF hs hu hx hf hg hm hb hv hsub hMF hcb hsx hk hlen hfr hcl hcs hgr hVX hul hV hbb hys hyl hzs
  go_enter Tryz.func28, Tryz.ntmps28
  go_wp2_with fail
  generalize ((((w.alloc (.cells #[.slice B0 t0.length d0] 36)).alloc (.cells #[.int .i64 (M : Int), .slice B1 t1.length d1] 38)).alloc (.cells #[.int .i64 (d : Int), .slice B3 t3.length d3] 33)).alloc (.cells #[.int .i64 0, .slice none 0 0] 33)) = W0 at *
  refine (HC1.out W0 HE0.out).mono ?_
  rintro e W1 ⟨rfl, he⟩
  have hx := he
  have HE1 := Lib.hid (HE0.out.trans hx)
  have HB01 := Lib.hid (HB00.out.ex hx)
  have HB11 := Lib.hid (HB10.out.ex hx)
  have HB21 := Lib.hid (HB20.out.ex hx)
  have HB31 := Lib.hid (HB30.out.ex hx)
  clear hx he g a a' HC1 HE0 HB00 HB10 HB20 HB30
  have g := HB01.out.cell 0
  have a := HB11.out.cell 0
  have a' := HB11.out.cell 1
  go_wp2_with fail
  refine (HC2.out W1 HE1.out).mono ?_
  rintro e W2 ⟨rfl, he⟩
  have hx := he
  have HE2 := Lib.hid (HE1.out.trans hx)
  have HB02 := Lib.hid (HB01.out.ex hx)
  have HB12 := Lib.hid (HB11.out.ex hx)
  have HB22 := Lib.hid (HB21.out.ex hx)
  have HB32 := Lib.hid (HB31.out.ex hx)
  clear hx he g a a' HC2 HE1 HB01 HB11 HB21 HB31
  have g := HB02.out.cell 0
  have a := HB12.out.cell 0
  have a' := HB12.out.cell 1
  go_wp2_with fail
  refine (HC3.out W2 HE2.out).mono ?_
  rintro e W3 ⟨rfl, he⟩
  have hx := he
  have HE3 := Lib.hid (HE2.out.trans hx)
  have HB03 := Lib.hid (HB02.out.ex hx)
  have HB13 := Lib.hid (HB12.out.ex hx)
  have HB23 := Lib.hid (HB22.out.ex hx)
  have HB33 := Lib.hid (HB32.out.ex hx)
  clear hx he g a a' HC3 HE2 HB02 HB12 HB22 HB32
  have g := HB03.out.cell 0
  have a := HB13.out.cell 0
  have a' := HB13.out.cell 1
  go_wp2_with fail
  refine (HC4.out W3.heap.size _ (HE3.out.alloc _) (Has.new _ _ _)).mono ?_
  rintro e W4 ⟨rfl, he⟩
  have hx := (Ex.new W3 (.cells #[.int .i64 (k : Int)] 2)).trans he
  have HE4 := Lib.hid (HE3.out.trans hx)
  have HB04 := Lib.hid (HB03.out.ex hx)
  have HB14 := Lib.hid (HB13.out.ex hx)
  have HB24 := Lib.hid (HB23.out.ex hx)
  have HB34 := Lib.hid (HB33.out.ex hx)
  clear hx he g a a' HC4 HE3 HB03 HB13 HB23 HB33
  have g := HB04.out.cell 0
  have a := HB14.out.cell 0
  have a' := HB14.out.cell 1
  go_wp2_with fail
  refine (HC5.out W4 HE4.out).mono ?_
  rintro e W5 ⟨rfl, he⟩
  have hx := he
  have HE5 := Lib.hid (HE4.out.trans hx)
  have HB05 := Lib.hid (HB04.out.ex hx)
  have HB15 := Lib.hid (HB14.out.ex hx)
  have HB25 := Lib.hid (HB24.out.ex hx)
  have HB35 := Lib.hid (HB34.out.ex hx)
  clear hx he g a a' HC5 HE4 HB04 HB14 HB24 HB34
  have g := HB05.out.cell 0
  have a := HB15.out.cell 0
  have a' := HB15.out.cell 1
  go_wp2_with fail
  refine (HGR.out W5 HE5.out).mono ?_
  rintro e W6 ⟨GG, gn, rfl, he6, -⟩
  obtain ⟨s, hs6⟩ : ∃ s, W6.heap.size = s := ⟨_, rfl⟩
  have ea := he6.trans (Ex.new W6 (.cells #[.slice GG t2.length gn] 36))
  have HE7 := Lib.hid (HE5.out.trans ea)
  have HB07 := Lib.hid (HB05.out.ex ea)
  have HB17 := Lib.hid (HB15.out.ex ea)
  have HB27 := Lib.hid (HB25.out.ex ea)
  have HB37 := Lib.hid (HB35.out.ex ea)
  have HS7 : Hid (Has (W6.alloc (.cells #[.slice GG t2.length gn] 36)) s 36 #[.slice GG t2.length gn]) := Lib.hid (Has.newAt hs6)
  clear he6 ea g a a' HE5 HGR HB05 HB15 HB25 HB35
  go_upto_region 9 with (fail)
  simp only [hs6] at *
  clear hs6
  generalize W6.alloc (.cells #[.slice GG t2.length gn] 36) = W7 at *
  have HCF := Lib.hid (fun (W : World) (he : Ex W7 W) => And.intro ((HS7.out.ex he).cell 0) (And.intro ((HB17.out.ex he).cell 0) (And.intro ((HB17.out.ex he).cell 1) (And.intro ((HB27.out.ex he).cell 0) ((HB27.out.ex he).cell 1)))))
  have hC0 := HCF.out W7 (Ex.refl _)
  refine Late.region (C := fun w' => w'.cell? ⟨s, 0, none⟩ = some (.slice GG t2.length gn) ∧ w'.cell? ⟨w.heap.size + 1, 0, none⟩ = some (.int .i64 (M : Int)) ∧ w'.cell? ⟨w.heap.size + 1, 1, none⟩ = some (.slice B1 t1.length d1) ∧ w'.cell? ⟨w.heap.size + 1 + 1, 0, none⟩ = some (.int .i64 (d : Int)) ∧ w'.cell? ⟨w.heap.size + 1 + 1, 1, none⟩ = some (.slice B3 t3.length d3)) (fun _ => true) (by kernel_rfl) hC0 (fun hC => ?_)
  refine Late.take (i := 0) (oi := ⟨_, _, _, _, _, _⟩) (v := ?_) rfl (by kernel_rfl) (by kernel_rfl) (by kernel_rfl) (by kernel_rfl) (fun _ _ _ h => h) (Or.inl ⟨by rfl, ?_⟩) hC ?_
  rotate_left
  · (intro w hSw; (try dsimp only at hSw); go_simp; first | done | with_reducible rfl)
  simp only [Act.put]
  refine Late.take (i := 1) (oi := ⟨_, _, _, _, _, _⟩) (v := ?_) rfl (by kernel_rfl) (by kernel_rfl) (by kernel_rfl) (by kernel_rfl) (fun _ _ _ h => h) (Or.inl ⟨by rfl, ?_⟩) hC ?_
  rotate_left
  · (intro w hSw; (try dsimp only at hSw); go_simp; first | done | with_reducible rfl)
  simp only [Act.put]
  refine Late.take (i := 2) (oi := ⟨_, _, _, _, _, _⟩) (v := ?_) rfl (by kernel_rfl) (by kernel_rfl) (by kernel_rfl) (by kernel_rfl) (fun _ _ _ h => h) (Or.inl ⟨by rfl, ?_⟩) hC ?_
  rotate_left
  · (intro w hSw; (try dsimp only at hSw); go_simp; first | done | with_reducible rfl)
  simp only [Act.put]
  refine Late.take (i := 4) (oi := ⟨_, _, _, _, _, _⟩) (v := ?_) rfl (by kernel_rfl) (by kernel_rfl) (by kernel_rfl) (by kernel_rfl) (fun _ _ _ h => h) (Or.inl ⟨by rfl, ?_⟩) hC ?_
  rotate_left
  · (intro w hSw; (try dsimp only at hSw); go_simp; first | done | with_reducible rfl)
  simp only [Act.put]
  clear hC hC0
  refine Late.one (i := 3) (o := _) (by kernel_rfl) rfl (fun K' hK' => ?_)
  go_simp
  refine (HMO.out W7.drew HE7.out.drew).mono ?_
  rintro e W8 ⟨A', n', rfl, he8, -⟩
  have HX8 := Lib.hid ((Ex.refl W7).drew.trans he8)
  refine hK'.out _ _ (fun _ => HCF.out W8 HX8.out) (fun _ => ?_)
  clear hK' K' he8
  try simp only [Act.put, List.setIfInBounds_toArray, List.set_cons_zero, List.set_cons_succ]
  refine Late.one (i := 5) (o := _) (by kernel_rfl) rfl (fun K' hK' => ?_)
  go_simp
  refine (HIS.out W8 GG A' gn n' (HE7.out.trans HX8.out)).mono ?_
  rintro e W9 ⟨rfl, he9⟩
  have HX9 := Lib.hid (HX8.out.trans he9)
  have HE9 := Lib.hid (HE7.out.trans HX9.out)
  have HB09 := Lib.hid (HB07.out.ex HX9.out)
  have HB19 := Lib.hid (HB17.out.ex HX9.out)
  have HB29 := Lib.hid (HB27.out.ex HX9.out)
  have HB39 := Lib.hid (HB37.out.ex HX9.out)
  have HS9 := Lib.hid (HS7.out.ex HX9.out)
  have hC9 := HCF.out W9 HX9.out
  refine hK'.out _ _ (fun _ => hC9) (fun _ => ?_)
  clear hK' K' he9 HX8 HX9 HE7 HMO HIS HS7 HB07 HB17 HB27 HB37
  try simp only [Act.put, List.setIfInBounds_toArray, List.set_cons_zero, List.set_cons_succ]
  refine Late.take (i := 6) (oi := ⟨_, _, _, _, _, _⟩) (v := ?_) rfl (by kernel_rfl) (by kernel_rfl) (by kernel_rfl) (by kernel_rfl) (fun _ _ _ h => h) (Or.inl ⟨by rfl, ?_⟩) hC9 ?_
  rotate_left
  · (intro w hSw; (try dsimp only at hSw); go_simp; first | done | with_reducible rfl)
  simp only [Act.put]
  clear hC9 HCF
  refine Late.done (by kernel_rfl) ?_ _
  go_wp2_with fail
  have HCH := Lib.hid (fun (W : World) (he : Ex W9 W) => (HB09.out.ex he).cell 0)
  have hC0 := HCH.out W9 (Ex.refl _)
  refine Late.region (C := fun w' => w'.cell? ⟨w.heap.size, 0, none⟩ = some (.slice B0 t0.length d0)) (fun _ => true) (by kernel_rfl) hC0 (fun hC => ?_)
  refine Late.take (i := 0) (oi := ⟨_, _, _, _, _, _⟩) (v := ?_) rfl (by kernel_rfl) (by kernel_rfl) (by kernel_rfl) (by kernel_rfl) (fun _ _ _ h => h) (Or.inl ⟨by rfl, ?_⟩) hC ?_
  rotate_left
  · (intro w hSw; (try dsimp only at hSw); go_simp; first | done | with_reducible rfl)
  simp only [Act.put]
  refine Late.take (i := 1) (oi := ⟨_, _, _, _, _, _⟩) (v := ?_) rfl (by kernel_rfl) (by kernel_rfl) (by kernel_rfl) (by kernel_rfl) (fun _ _ _ h => h) (Or.inl ⟨by rfl, ?_⟩) hC ?_
  rotate_left
  · (intro w hSw; (try dsimp only at hSw); go_simp; first | done | with_reducible rfl)
  simp only [Act.put]
  refine Late.take (i := 2) (oi := ⟨_, _, _, _, _, _⟩) (v := ?_) rfl (by kernel_rfl) (by kernel_rfl) (by kernel_rfl) (by kernel_rfl) (fun _ _ _ h => h) (Or.inl ⟨by rfl, ?_⟩) hC ?_
  rotate_left
  · (intro w hSw; (try dsimp only at hSw); go_simp; first | done | with_reducible rfl)
  simp only [Act.put]
  refine Late.take (i := 4) (oi := ⟨_, _, _, _, _, _⟩) (v := ?_) rfl (by kernel_rfl) (by kernel_rfl) (by kernel_rfl) (by kernel_rfl) (fun _ _ _ h => h) (Or.inl ⟨by rfl, ?_⟩) hC ?_
  rotate_left
  · (intro w hSw; (try dsimp only at hSw); go_simp; first | done | with_reducible rfl)
  simp only [Act.put]
  refine Late.take (i := 5) (oi := ⟨_, _, _, _, _, _⟩) (v := ?_) rfl (by kernel_rfl) (by kernel_rfl) (by kernel_rfl) (by kernel_rfl) (fun _ _ _ h => h) (Or.inl ⟨by rfl, ?_⟩) hC ?_
  rotate_left
  · (intro w hSw; (try dsimp only at hSw); go_simp; first | done | with_reducible rfl)
  simp only [Act.put]
  clear hC hC0
  refine Late.one (i := 3) (o := _) (by kernel_rfl) rfl (fun K' hK' => ?_)
  go_simp
  refine (HCE.out W9.drew HE9.out.drew).mono ?_
  rintro e WA ⟨Y, yn, rfl, heA, hoA⟩
  have HXA := Lib.hid ((Ex.refl W9).drew.trans heA)
  have HYA := Lib.hid hoA.ints
  refine hK'.out _ _ (fun _ => HCH.out WA HXA.out) (fun _ => ?_)
  clear hK' K' heA hoA
  try simp only [Act.put, List.setIfInBounds_toArray, List.set_cons_zero, List.set_cons_succ]
  refine Late.one (i := 6) (o := _) (by kernel_rfl) rfl (fun K' hK' => ?_)
  go_simp
  refine (HIV.out WA (HE9.out.trans HXA.out)).mono ?_
  rintro e X ⟨rfl, heB⟩
  have hXB := HXA.out.trans heB
  have HEX := Lib.hid (HE9.out.trans hXB)
  have HYX := Lib.hid (HYA.out.ex heB)
  have HB0X := Lib.hid (HB09.out.ex hXB)
  have HB1X := Lib.hid (HB19.out.ex hXB)
  have HB2X := Lib.hid (HB29.out.ex hXB)
  have HB3X := Lib.hid (HB39.out.ex hXB)
  have HSX' := Lib.hid (HS9.out.ex hXB)
  have hCX := HCH.out X hXB
  refine hK'.out _ _ (fun _ => hCX) (fun _ => ?_)
  clear hK' K' heB hXB HXA HYA HE9 HS9 HCE HIV HB09 HB19 HB29 HB39
  try simp only [Act.put, List.setIfInBounds_toArray, List.set_cons_zero, List.set_cons_succ]
  refine Late.one (i := 7) (o := _) (by kernel_rfl) rfl (fun K' hK' => ?_)
  go_simp
  refine hK'.out _ _ (fun _ => hCX) (fun _ => ?_)
  clear hK' K'
  try simp only [Act.put, List.setIfInBounds_toArray, List.set_cons_zero, List.set_cons_succ]
  refine Late.one (i := 8) (o := _) (by kernel_rfl) rfl (fun K' hK' => ?_)
  go_simp
  refine hK'.out _ _ (fun _ => hCX) (fun _ => ?_)
  clear hK' K'
  try simp only [Act.put, List.setIfInBounds_toArray, List.set_cons_zero, List.set_cons_succ]
  clear hCX HCH
  refine Late.done (by kernel_rfl) ?_ _
  have k2 := HB2X.out.cell 0
  go_upto_region 12 with (fail)
  go_cut [16] (fun s16 wx => ∃ (D : Nat) (v : Value), s16 = .pointer (some ⟨D, 0, none⟩) ∧ Ex X wx ∧ X.heap.size ≤ D ∧ Has wx D 33 #[.int .i64 (d : Int), v] ∧ GrowI wx X.heap.size v 0 [])
  case first =>
    go_wp2_with fail
    go_meet
    exact ⟨_, _, rfl, ((Ex.refl _).alloc _).alloc _, by omega, Has.newAt (by simp), (GrowI.empty X (Nat.le_refl _)).ex (Ex.new _ _)⟩
  obtain ⟨W1, rfl⟩ : ∃ x : World, x = wc := ⟨_, rfl⟩
  obtain ⟨D, v0, rfl, he1, hD, hb1, hg1⟩ := hcut
  have HF1 := Lib.hid he1
  have HBO := Lib.hid hb1
  have HG1 := Lib.hid hg1
  clear he1 hb1 hg1 k2
  go_wp2_with fail
  go_loopw [17] (fun i wr => ∃ (j : Nat) (v : Value), j ≤ t3.length ∧ i = .int .i64 (j : Int) ∧ Hid (Ex X wr) ∧ Hid (Has wr D 33 #[.int .i64 (d : Int), v]) ∧ Hid (GrowI wr X.heap.size v j ((List.range j).map fun j => nth t1 k * valR t2.length t3 (pbL (fun x => (V x : Int)) t2.length d j) % (M : Int)))) (fun i _ => t3.length - (intOf i).toNat)
  case atStart => exact ⟨0, v0, Nat.zero_le _, rfl, HF1, HBO, HG1⟩
  case round =>
    obtain ⟨W2, rfl⟩ : ∃ x : World, x = wr := ⟨_, rfl⟩
    obtain ⟨j, v, hj, rfl, HE2, HO2, HG2⟩ := hrel
    have k2 := (HB2X.out.ex HE2.out).cell 0
    have k2' := (HB2X.out.ex HE2.out).cell 1
    by_cases hlt : j < t3.length
    · have hjb : decide ((j : Int) < (t3.length : Int)) = true := by simp; omega
      have cg := (HSX'.out.ex HE2.out).cell 0
      go_wp2_with fail
      refine (l03List_any GG t2.length gn d j W2 hp8 (HDN.out j hlt) hp1 (by omega) (by omega)).mono ?_
      rintro e W3 ⟨L', n3, rfl, he3, ho3⟩
      rw [lsL_len]
      have HE3 := Lib.hid he3
      have HL3 : Hid (OwnL W3 W2.heap.size W3.heap.size L' (upL (lsL t2.length d j) (fun p => (V (dN t2.length d j p) : Int)) 0)) := Lib.hid (by rw [upL_zero]; exact ho3)
      clear he3 ho3 cg k2 k2' hjb
      go_wp2_with fail
      go_loopw [19] (fun i wr => ∃ q : Nat, q ≤ d ∧ i = .int .i64 (q : Int) ∧ Hid (Ex W2 wr) ∧ Hid (OwnL wr W2.heap.size W3.heap.size L' (upL (lsL t2.length d j) (fun p => (V (dN t2.length d j p) : Int)) q))) (fun i _ => d - (intOf i).toNat)
      case atStart => exact ⟨0, Nat.zero_le _, rfl, HE3, HL3⟩
      case round =>
        obtain ⟨q, hq, rfl, HEq, HLq⟩ := hrel
        have HEw := Lib.hid (HE2.out.trans HEq.out)
        by_cases hqd : q < d
        · have hql : q < (lsL t2.length d j).length := by rw [lsL_len]; exact hqd
          obtain ⟨bl, ol, rfl, hbl1, hbl2, hcl, hfl⟩ := HLq.out.at_ (j := q) (by rw [upL_len]; exact hql)
          have HST := Lib.hid (upL_set (xs := lsL t2.length d j) (f := fun p => (V (dN t2.length d j p) : Int)) hql)
          rw [upL_at hql, if_neg (by omega), nth_lsL hqd] at hcl
          have hx := (dN_in (n := d) (i := j) (p := q) (show 2 ≤ t2.length by have := HDN.out j hlt; omega)).2
          obtain ⟨x, hxe⟩ : ∃ x, dN t2.length d j q = x := ⟨_, rfl⟩
          rw [hxe] at hcl HST hx
          obtain ⟨y, z, hy, hyl, hcz, hz, hpz, -⟩ := HVX.out x hx
          have HCJ := Lib.hid (fun W (he : Ex w W) => l01Conjugate_any B0 t0 d0 y b W (HRW.out.ex he) HSX.out.g hyl hb')
          have HPZ := Lib.hid (fun W (he : Ex w W) => l07Place_any B2 d2 z t0 t2 W HSX.out (HXL.out.ex he) hz)
          rw [hcz] at HCJ
          rw [hpz] at HPZ
          obtain ⟨r, hr⟩ : ∃ r, V x = r := ⟨_, rfl⟩
          rw [hr] at HPZ HST
          obtain ⟨by_, oy, rfl, hby, hcy⟩ := HYX.out.ints.at_ (show x < ys.length by rw [HYL.out]; exact hx)
          rw [hy] at hcy
          have hcy' := (HEw.out.below.cell (p := ⟨by_, oy + x, none⟩) hby).trans hcy
          have hq0 : (0 : Int) ≤ (q : Int) := by omega
          have hqn : (q : Int) < (d : Int) := by omega
          have hx0 : (0 : Int) ≤ (x : Int) := by omega
          have hxn : (x : Int) < (t2.length : Int) := by omega
          have cg := (HB0X.out.ex HEw.out).cell 0
          clear hxe hy hyl hcz hz hpz hr hql
          go_wp2_with fail
          have hC0 := And.intro cg (And.intro hcl hcy')
          refine Late.region (C := fun w' => w'.cell? ⟨w.heap.size, 0, none⟩ = some (.slice B0 t0.length d0) ∧ w'.cell? ⟨bl, ol + q, none⟩ = some (.int .i64 (x : Int)) ∧ w'.cell? ⟨by_, oy + x, none⟩ = some (.int .i64 (y : Int))) (fun j => decide (j < 15)) (by kernel_rfl) hC0 (fun hC => ?_)
          refine Late.take (i := 0) (oi := ⟨_, _, _, _, _, _⟩) (v := ?_) rfl (by kernel_rfl) (by kernel_rfl) (by kernel_rfl) (by kernel_rfl) (fun _ _ _ h => h) (Or.inl ⟨by rfl, ?_⟩) hC ?_
          rotate_left
          · (intro w hSw; (try dsimp only at hSw); go_simp; first | done | with_reducible rfl)
          simp only [Act.put]
          refine Late.take (i := 1) (oi := ⟨_, _, _, _, _, _⟩) (v := ?_) rfl (by kernel_rfl) (by kernel_rfl) (by kernel_rfl) (by kernel_rfl) (fun _ _ _ h => h) (Or.inl ⟨by rfl, ?_⟩) hC ?_
          rotate_left
          · (intro w hSw; (try dsimp only at hSw); go_simp; first | done | with_reducible rfl)
          simp only [Act.put]
          refine Late.take (i := 2) (oi := ⟨_, _, _, _, _, _⟩) (v := ?_) rfl (by kernel_rfl) (by kernel_rfl) (by kernel_rfl) (by kernel_rfl) (fun _ _ _ h => h) (Or.inl ⟨by rfl, ?_⟩) hC ?_
          rotate_left
          · (intro w hSw; (try dsimp only at hSw); go_simp; first | done | with_reducible rfl)
          simp only [Act.put]
          refine Late.take (i := 3) (oi := ⟨_, _, _, _, _, _⟩) (v := ?_) rfl (by kernel_rfl) (by kernel_rfl) (by kernel_rfl) (by kernel_rfl) (fun _ _ _ h => h) (Or.inl ⟨by rfl, ?_⟩) hC ?_
          rotate_left
          · (intro w hSw; (try dsimp only at hSw); go_simp; first | done | with_reducible rfl)
          simp only [Act.put]
          refine Late.take (i := 4) (oi := ⟨_, _, _, _, _, _⟩) (v := ?_) rfl (by kernel_rfl) (by kernel_rfl) (by kernel_rfl) (by kernel_rfl) (fun _ _ _ h => h) (Or.inl ⟨by rfl, ?_⟩) hC ?_
          rotate_left
          · (intro w hSw; (try dsimp only at hSw); go_simp; first | done | with_reducible rfl)
          simp only [Act.put]
          refine Late.take (i := 5) (oi := ⟨_, _, _, _, _, _⟩) (v := ?_) rfl (by kernel_rfl) (by kernel_rfl) (by kernel_rfl) (by kernel_rfl) (fun _ _ _ h => h) (Or.inl ⟨by rfl, ?_⟩) hC ?_
          rotate_left
          · (intro w hSw; (try dsimp only at hSw); go_simp; first | done | with_reducible rfl)
          simp only [Act.put]
          refine Late.take (i := 6) (oi := ⟨_, _, _, _, _, _⟩) (v := ?_) rfl (by kernel_rfl) (by kernel_rfl) (by kernel_rfl) (by kernel_rfl) (fun _ _ _ h => h) (Or.inl ⟨by rfl, ?_⟩) hC ?_
          rotate_left
          · (intro w hSw; (try dsimp only at hSw); go_simp; first | done | with_reducible rfl)
          simp only [Act.put]
          refine Late.take (i := 7) (oi := ⟨_, _, _, _, _, _⟩) (v := ?_) rfl (by kernel_rfl) (by kernel_rfl) (by kernel_rfl) (by kernel_rfl) (fun _ _ _ h => h) (Or.inl ⟨by rfl, ?_⟩) hC ?_
          rotate_left
          · (intro w hSw; (try dsimp only at hSw); go_simp; first | done | with_reducible rfl)
          simp only [Act.put]
          refine Late.take (i := 8) (oi := ⟨_, _, _, _, _, _⟩) (v := ?_) rfl (by kernel_rfl) (by kernel_rfl) (by kernel_rfl) (by kernel_rfl) (fun _ _ _ h => h) (Or.inl ⟨by rfl, ?_⟩) hC ?_
          rotate_left
          · (intro w hSw; (try dsimp only at hSw); go_simp; first | done | with_reducible rfl)
          simp only [Act.put]
          refine Late.take (i := 9) (oi := ⟨_, _, _, _, _, _⟩) (v := ?_) rfl (by kernel_rfl) (by kernel_rfl) (by kernel_rfl) (by kernel_rfl) (fun _ _ _ h => h) (Or.inl ⟨by rfl, ?_⟩) hC ?_
          rotate_left
          · (intro w hSw; (try dsimp only at hSw); go_simp; first | done | with_reducible rfl)
          simp only [Act.put]
          refine Late.take (i := 10) (oi := ⟨_, _, _, _, _, _⟩) (v := ?_) rfl (by kernel_rfl) (by kernel_rfl) (by kernel_rfl) (by kernel_rfl) (fun _ _ _ h => h) (Or.inl ⟨by rfl, ?_⟩) hC ?_
          rotate_left
          · (intro w hSw; (try dsimp only at hSw); go_simp; first | done | with_reducible rfl)
          simp only [Act.put]
          refine Late.take (i := 11) (oi := ⟨_, _, _, _, _, _⟩) (v := ?_) rfl (by kernel_rfl) (by kernel_rfl) (by kernel_rfl) (by kernel_rfl) (fun _ _ _ h => h) (Or.inl ⟨by rfl, ?_⟩) hC ?_
          rotate_left
          · (intro w hSw; (try dsimp only at hSw); go_simp; first | done | with_reducible rfl)
          simp only [Act.put]
          clear hC hC0
          refine Late.one (i := 12) (o := _) (by kernel_rfl) rfl (fun K' hK' => ?_)
          go_simp
          refine (HCJ.out wr.drew (HEX.out.trans HEw.out.drew)).mono ?_
          rintro e W6 ⟨rfl, he6⟩
          have hx6 : Ex wr W6 := (Ex.refl wr).drew.trans he6
          have hbw : bl < wr.heap.size := by have := HLq.out.le; omega
          have hcl6 : W6.cell? ⟨bl, ol + q, none⟩ = some (.int .i64 (x : Int)) := (hx6.below.cell (p := ⟨bl, ol + q, none⟩) hbw).trans hcl
          have hfl6 : W6.frozen? ⟨bl, ol + q, none⟩ = false := (hx6.below.frozen (p := ⟨bl, ol + q, none⟩) hbw).trans hfl
          have HE6 := Lib.hid (HEq.out.trans hx6)
          have HL6 := Lib.hid ((HLq.out.ex hx6).put (j := q) (by rw [upL_len, lsL_len]; exact hqd) (r : Int))
          have hC6 := And.intro (((HB0X.out.ex HEw.out).ex hx6).cell 0) (And.intro hcl6 ((HEw.out.trans hx6).below.cell (p := ⟨by_, oy + x, none⟩) hby |>.trans hcy))
          refine hK'.out _ _ (fun _ => hC6) (fun _ => ?_)
          clear hK' K' cg hcl hfl he6 hcy'
          try simp only [Act.put, List.setIfInBounds_toArray, List.set_cons_zero, List.set_cons_succ]
          refine Late.one (i := 13) (o := _) (by kernel_rfl) rfl (fun K' hK' => ?_)
          go_simp
          refine (HPZ.out W6 (HEX.out.trans (HEw.out.trans hx6))).mono ?_
          rintro e W7' ⟨rfl, rfl⟩
          refine hK'.out _ _ (fun _ => hC6) (fun _ => ?_)
          clear hK' K'
          try simp only [Act.put, List.setIfInBounds_toArray, List.set_cons_zero, List.set_cons_succ]
          refine Late.one (i := 14) (o := _) (by kernel_rfl) rfl (fun K' hK' => ?_)
          go_simp
          refine hK'.out _ _ (fun _ => hC6) (fun _ => ?_)
          clear hK' K'
          try simp only [Act.put, List.setIfInBounds_toArray, List.set_cons_zero, List.set_cons_succ]
          refine Late.one (i := 15) (o := _) (by kernel_rfl) rfl (fun K' hK' => ?_)
          go_simp
          refine hK'.out _ _ (fun h => by cases h) (fun _ => ?_)
          clear hK' K'
          refine Late.done (by kernel_rfl) ?_ _
          go_wp2_with fail
          refine ⟨?rel, ?measure⟩
          case rel =>
            refine ⟨q + 1, by omega, by go_num, Lib.hid (HE6.out.setCell (p := ⟨bl, ol + q, none⟩) hbl1 _), Lib.hid ?_⟩
            rw [← HST.out]
            exact HL6.out
          case measure => simp [intOf]; omega
        · obtain rfl : d = q := by omega
          have HLM : Hid (OwnL wr W2.heap.size W3.heap.size L' (pbL (fun x => (V x : Int)) t2.length d j)) := Lib.hid (by rw [← upL_pb]; exact HLq.out)
          have HOq := Lib.hid (HO2.out.ex HEq.out)
          have HGq := Lib.hid (HG2.out.ex HEq.out)
          have HA0 := Lib.hid (HSX'.out.ex HEw.out)
          have HA1 := Lib.hid (HB1X.out.ex HEw.out)
          have HA2 := Lib.hid (HB2X.out.ex HEw.out)
          have hmr : InR t2.length (pbL (fun x => (V x : Int)) t2.length d j) := pbL_in (fun x hx => by obtain ⟨_, _, _, _, _, _, _, h⟩ := HVX.out x hx; omega) (HDN.out j hlt)
          have HVA := Lib.hid (fun W (he : Ex wr.drew W) => l03At_any GG B3 L' d t2.length t3 (pbL (fun x => (V x : Int)) t2.length d j) gn d3 n3 W (HFL.out.ex (HEX.out.trans (HEw.out.drew.trans he))) (HLM.out.ints.ex ((Ex.refl wr).drew.trans he)) hp8 hp1 (by omega) (pbL_len _ _ _ _) HLN.out hmr)
          rw [pbL_len] at HVA
          have hv := valR_in (show 0 < M by omega) hmr (pbL_len _ _ _ _) HLN.out HFR.out
          obtain ⟨bu, ou, rfl, hbu, hcu⟩ := HUL.out.ints.at_ hal
          have HMV : Hid ((List.range (j + 1)).map (fun j => nth t1 k * valR t2.length t3 (pbL (fun x => (V x : Int)) t2.length d j) % (M : Int)) = (List.range j).map (fun j => nth t1 k * valR t2.length t3 (pbL (fun x => (V x : Int)) t2.length d j) % (M : Int)) ++ [nth t1 k * valR t2.length t3 (pbL (fun x => (V x : Int)) t2.length d j) % (M : Int)]) := Lib.hid (by rw [List.range_succ, List.map_append]; rfl)
          obtain ⟨v', hve⟩ : ∃ v', valR t2.length t3 (pbL (fun x => (V x : Int)) t2.length d j) = v' := ⟨_, rfl⟩
          have HZE : Hid (nth t1 k * valR t2.length t3 (pbL (fun x => (V x : Int)) t2.length d j) % (M : Int) = nth t1 k * v' % (M : Int)) := Lib.hid (by rw [hve])
          rw [hve] at HVA hv
          obtain ⟨u, hue⟩ : ∃ u, nth t1 k = u := ⟨_, rfl⟩
          have HUE := Lib.hid hue
          have hu := hun1
          rw [hue] at hu hcu
          have huv0 : 0 ≤ u * v' := Int.mul_nonneg hu.1 hv.1
          have huv : u * v' ≤ 144 := by
            have h1 : u * v' ≤ 12 * v' := Int.mul_le_mul_of_nonneg_right (by omega) hv.1
            omega
          have HMD := Lib.hid (fun W => l01Mod_w (u * v') M W (by omega) hM12 (by omega) (by omega))
          have hwm : IntKind.i64.wrap (u * v') = u * v' := IntWalk.i64_in _ (by omega)
          obtain ⟨z, hze⟩ : ∃ z, u * v' % (M : Int) = z := ⟨_, rfl⟩
          have HZZ : Hid (nth t1 k * valR t2.length t3 (pbL (fun x => (V x : Int)) t2.length d j) % (M : Int) = z) := Lib.hid (by rw [HZE.out, hue, hze])
          rw [hze] at HMD
          have ha0 : (0 : Int) ≤ (k : Int) := by omega
          have haN : (k : Int) < (t1.length : Int) := by omega
          have HCU := Lib.hid hcu
          have hun : wr.cell? ⟨bu, ou + k, none⟩ = some (.int .i64 u) := ((HEX.out.trans HEw.out).below.cell (p := ⟨bu, ou + k, none⟩) hbu).trans hcu
          have hC0 := And.intro (HOq.out.cell 1) (And.intro (HA1.out.cell 1) (And.intro hun (And.intro (HA0.out.cell 0) (And.intro (HA2.out.cell 0) (And.intro (HA2.out.cell 1) (HA1.out.cell 0))))))
          clear hmr hv hu hcu hve hue huv huv0 hze HZE
          go_wp2_with fail
          refine Late.region (C := fun w' => w'.cell? ⟨D, 1, none⟩ = some v ∧ w'.cell? ⟨w.heap.size + 1, 1, none⟩ = some (.slice (some ⟨bu, ou, none⟩) t1.length d1) ∧ w'.cell? ⟨bu, ou + k, none⟩ = some (.int .i64 u) ∧ w'.cell? ⟨s, 0, none⟩ = some (.slice GG t2.length gn) ∧ w'.cell? ⟨w.heap.size + 1 + 1, 0, none⟩ = some (.int .i64 (d : Int)) ∧ w'.cell? ⟨w.heap.size + 1 + 1, 1, none⟩ = some (.slice B3 t3.length d3) ∧ w'.cell? ⟨w.heap.size + 1, 0, none⟩ = some (.int .i64 (M : Int))) (fun j => decide (j < 17)) (by kernel_rfl) hC0 (fun hC => ?_)
          refine Late.take (i := 0) (oi := ⟨_, _, _, _, _, _⟩) (v := ?_) rfl (by kernel_rfl) (by kernel_rfl) (by kernel_rfl) (by kernel_rfl) (fun _ _ _ h => h) (Or.inl ⟨by rfl, ?_⟩) hC ?_
          rotate_left
          · (intro w hSw; (try dsimp only at hSw); go_simp; first | done | with_reducible rfl)
          simp only [Act.put]
          refine Late.take (i := 1) (oi := ⟨_, _, _, _, _, _⟩) (v := ?_) rfl (by kernel_rfl) (by kernel_rfl) (by kernel_rfl) (by kernel_rfl) (fun _ _ _ h => h) (Or.inl ⟨by rfl, ?_⟩) hC ?_
          rotate_left
          · (intro w hSw; (try dsimp only at hSw); go_simp; first | done | with_reducible rfl)
          simp only [Act.put]
          refine Late.take (i := 2) (oi := ⟨_, _, _, _, _, _⟩) (v := ?_) rfl (by kernel_rfl) (by kernel_rfl) (by kernel_rfl) (by kernel_rfl) (fun _ _ _ h => h) (Or.inl ⟨by rfl, ?_⟩) hC ?_
          rotate_left
          · (intro w hSw; (try dsimp only at hSw); go_simp; first | done | with_reducible rfl)
          simp only [Act.put]
          refine Late.take (i := 3) (oi := ⟨_, _, _, _, _, _⟩) (v := ?_) rfl (by kernel_rfl) (by kernel_rfl) (by kernel_rfl) (by kernel_rfl) (fun _ _ _ h => h) (Or.inl ⟨by rfl, ?_⟩) hC ?_
          rotate_left
          · (intro w hSw; (try dsimp only at hSw); go_simp; first | done | with_reducible rfl)
          simp only [Act.put]
          refine Late.take (i := 4) (oi := ⟨_, _, _, _, _, _⟩) (v := ?_) rfl (by kernel_rfl) (by kernel_rfl) (by kernel_rfl) (by kernel_rfl) (fun _ _ _ h => h) (Or.inl ⟨by rfl, ?_⟩) hC ?_
          rotate_left
          · (intro w hSw; (try dsimp only at hSw); go_simp; first | done | with_reducible rfl)
          simp only [Act.put]
          refine Late.take (i := 5) (oi := ⟨_, _, _, _, _, _⟩) (v := ?_) rfl (by kernel_rfl) (by kernel_rfl) (by kernel_rfl) (by kernel_rfl) (fun _ _ _ h => h) (Or.inl ⟨by rfl, ?_⟩) hC ?_
          rotate_left
          · (intro w hSw; (try dsimp only at hSw); go_simp; first | done | with_reducible rfl)
          simp only [Act.put]
          refine Late.take (i := 6) (oi := ⟨_, _, _, _, _, _⟩) (v := ?_) rfl (by kernel_rfl) (by kernel_rfl) (by kernel_rfl) (by kernel_rfl) (fun _ _ _ h => h) (Or.inl ⟨by rfl, ?_⟩) hC ?_
          rotate_left
          · (intro w hSw; (try dsimp only at hSw); go_simp; first | done | with_reducible rfl)
          simp only [Act.put]
          refine Late.take (i := 7) (oi := ⟨_, _, _, _, _, _⟩) (v := ?_) rfl (by kernel_rfl) (by kernel_rfl) (by kernel_rfl) (by kernel_rfl) (fun _ _ _ h => h) (Or.inl ⟨by rfl, ?_⟩) hC ?_
          rotate_left
          · (intro w hSw; (try dsimp only at hSw); go_simp; first | done | with_reducible rfl)
          simp only [Act.put]
          refine Late.take (i := 8) (oi := ⟨_, _, _, _, _, _⟩) (v := ?_) rfl (by kernel_rfl) (by kernel_rfl) (by kernel_rfl) (by kernel_rfl) (fun _ _ _ h => h) (Or.inl ⟨by rfl, ?_⟩) hC ?_
          rotate_left
          · (intro w hSw; (try dsimp only at hSw); go_simp; first | done | with_reducible rfl)
          simp only [Act.put]
          refine Late.take (i := 9) (oi := ⟨_, _, _, _, _, _⟩) (v := ?_) rfl (by kernel_rfl) (by kernel_rfl) (by kernel_rfl) (by kernel_rfl) (fun _ _ _ h => h) (Or.inl ⟨by rfl, ?_⟩) hC ?_
          rotate_left
          · (intro w hSw; (try dsimp only at hSw); go_simp; first | done | with_reducible rfl)
          simp only [Act.put]
          refine Late.take (i := 12) (oi := ⟨_, _, _, _, _, _⟩) (v := ?_) rfl (by kernel_rfl) (by kernel_rfl) (by kernel_rfl) (by kernel_rfl) (fun _ _ _ h => h) (Or.inl ⟨by rfl, ?_⟩) hC ?_
          rotate_left
          · (intro w hSw; (try dsimp only at hSw); go_simp; first | done | with_reducible rfl)
          simp only [Act.put]
          refine Late.take (i := 13) (oi := ⟨_, _, _, _, _, _⟩) (v := ?_) rfl (by kernel_rfl) (by kernel_rfl) (by kernel_rfl) (by kernel_rfl) (fun _ _ _ h => h) (Or.inl ⟨by rfl, ?_⟩) hC ?_
          rotate_left
          · (intro w hSw; (try dsimp only at hSw); go_simp; first | done | with_reducible rfl)
          simp only [Act.put]
          refine Late.one (i := 10) (o := _) (by kernel_rfl) rfl (fun K' hK' => ?_)
          go_simp
          refine (HVA.out wr.drew (Ex.refl _)).mono ?_
          rintro e W6 ⟨rfl, he6⟩
          have hx6 : Ex wr W6 := (Ex.refl wr).drew.trans he6
          have HE := Lib.hid (HEw.out.trans hx6)
          have HA06 := Lib.hid (HA0.out.ex hx6)
          have HA16 := Lib.hid (HA1.out.ex hx6)
          have HA26 := Lib.hid (HA2.out.ex hx6)
          have HO6 := Lib.hid (HOq.out.ex hx6)
          have HG := Lib.hid (HGq.out.ex hx6)
          have hun6 : W6.cell? ⟨bu, ou + k, none⟩ = some (.int .i64 u) := ((HEX.out.trans HE.out).below.cell (p := ⟨bu, ou + k, none⟩) hbu).trans HCU.out
          have hC6 := And.intro (HO6.out.cell 1) (And.intro (HA16.out.cell 1) (And.intro hun6 (And.intro (HA06.out.cell 0) (And.intro (HA26.out.cell 0) (And.intro (HA26.out.cell 1) (HA16.out.cell 0))))))
          refine hK'.out _ _ (fun _ => hC6) (fun _ => ?_)
          clear hK' K' hC hC0 he6 hx6 hun
          try simp only [Act.put, List.setIfInBounds_toArray, List.set_cons_zero, List.set_cons_succ]
          refine Late.take (i := 11) (oi := ⟨_, _, _, _, _, _⟩) (v := ?_) rfl (by kernel_rfl) (by kernel_rfl) (by kernel_rfl) (by kernel_rfl) (fun _ _ _ h => h) (Or.inl ⟨by rfl, ?_⟩) hC6 ?_
          rotate_left
          · (intro w hSw; (try dsimp only at hSw); go_simp; first | done | with_reducible rfl)
          simp only [Act.put]
          refine Late.one (i := 14) (o := _) (by kernel_rfl) rfl (fun K' hK' => ?_)
          go_simp
          refine (HMD.out _).mono ?_
          rintro e w' ⟨rfl, rfl⟩
          refine hK'.out _ _ (fun _ => hC6) (fun _ => ?_)
          clear hK' K'
          try simp only [Act.put, List.setIfInBounds_toArray, List.set_cons_zero, List.set_cons_succ]
          refine Late.one (i := 15) (o := _) (by kernel_rfl) rfl (fun K' hK' => ?_)
          go_simp
          have e1 := HE.out.alloc (.cells #[.int .i64 z] 2)
          have HA061 := HA06.out.alloc (.cells #[.int .i64 z] 2)
          have HA161 := HA16.out.alloc (.cells #[.int .i64 z] 2)
          have HA261 := HA26.out.alloc (.cells #[.int .i64 z] 2)
          have HO61 := HO6.out.alloc (.cells #[.int .i64 z] 2)
          have g1 := HG.out.ex (Ex.new W6 (.cells #[.int .i64 z] 2))
          have hn1 := cell_one_new W6 (.int .i64 z) 2
          have hz1 : W6.heap.size + 1 = (W6.alloc (.cells #[.int .i64 z] 2)).heap.size := by simp
          have hx1 := Ex.new W6 (.cells #[.int .i64 z] 2)
          refine hK'.out _ _ (fun _ => ⟨HO61.cell 1, HA161.cell 1, (hx1.below.cell (p := ⟨bu, ou + k, none⟩) (by have := (HEX.out.trans HE.out).size; show bu < _; omega)).trans hun6, HA061.cell 0, HA261.cell 0, HA261.cell 1, HA161.cell 0⟩) (fun _ => ?_)
          clear hK' K'
          generalize W6.alloc (.cells #[.int .i64 z] 2) = w1 at *
          try simp only [Act.put, List.setIfInBounds_toArray, List.set_cons_zero, List.set_cons_succ]
          refine Late.one (i := 16) (o := _) (by kernel_rfl) rfl (fun K' hK' => ?_)
          rw [if_pos (by rfl)]
          refine wp_append_own _ _ _ 25 rfl X.heap.size 2 i0 (.int .i64 0) 1 8 Tryz.underlying25 hi hi0 hi1 hi2 rfl (by decide) _ _ _ rfl g1.1 ⟨W6.heap.size, 0, none⟩ 1 1 [.int .i64 z] rfl rfl hn1 (by simp [Value.oneCell']) (by unfold maxLen; omega) (by omega) (by have := e1.size; omega) ?_
          intro v' w3 hown3 hgrow3 _
          obtain ⟨g3, cap3, rfl⟩ := ownsRow_succ hown3
          have HE3 := Lib.hid (Ex.grew e1 g1 (Nat.le_refl _) hgrow3)
          have HA063 := Lib.hid (Has.grew HA061 (by decide) g1 hgrow3)
          have HA163 := Lib.hid (Has.grew HA161 (by decide) g1 hgrow3)
          have HA263 := Lib.hid (Has.grew HA261 (by decide) g1 hgrow3)
          have HO63 := Lib.hid (Has.grew HO61 (by decide) g1 hgrow3)
          have HG3 := Lib.hid (g1.snoc hown3)
          have c33 := HO63.out.cell 1
          have f33 := HO63.out.free 1
          refine hK'.out _ _ (fun _ => ⟨HO63.out.cell 1, HA163.out.cell 1, ((HEX.out.trans HE3.out).below.cell (p := ⟨bu, ou + k, none⟩) hbu).trans HCU.out, HA063.out.cell 0, HA263.out.cell 0, HA263.out.cell 1, HA163.out.cell 0⟩) (fun _ => ?_)
          clear hK' K' hown3 hgrow3 g1 e1 hn1 hx1 HA061 HA161 HA261 HO61
          try simp only [Act.put, List.setIfInBounds_toArray]
          refine Late.one (i := 17) (o := _) (by kernel_rfl) rfl (fun K' hK' => ?_)
          go_simp
          refine hK'.out _ _ (fun h => by cases h) (fun _ => ?_)
          clear hK' K'
          try simp only [Act.put, List.setIfInBounds_toArray, List.set_cons_zero, List.set_cons_succ]
          refine Late.one (i := 18) (o := _) (by kernel_rfl) rfl (fun K' hK' => ?_)
          go_simp
          refine hK'.out _ _ (fun h => by cases h) (fun _ => ?_)
          clear hK' K'
          try simp only [Act.put, List.setIfInBounds_toArray, List.set_cons_zero, List.set_cons_succ]
          refine Late.done (by kernel_rfl) ?_ _
          go_wp2_with fail
          refine ⟨?rel, ?measure⟩
          case rel =>
            refine ⟨j + 1, _, by omega, by go_num, Lib.hid (HE3.out.setCell (p := ⟨D, 1, none⟩) hD _), Lib.hid (by simpa using HO63.out.put 1 _), Lib.hid ?_⟩
            rw [HMV.out, HZZ.out]
            exact HG3.out.set HO63.out (by decide) _ _
          case measure => simp [intOf]; omega
    · obtain rfl : j = t3.length := by omega
      obtain ⟨A', n', ev, hO⟩ := HG2.out.own
      rw [HZS.out] at ev hO
      rw [HLZ.out] at ev
      subst ev
      have hjb : decide ((t3.length : Int) < (t3.length : Int)) = false := by simp
      have cO := HO2.out.cell 0
      have cO' := HO2.out.cell 1
      have HR3 := Lib.hid (HB3X.out.ex HE2.out)
      have c3 := HR3.out.cell 0
      have c3' := HR3.out.cell 1
      have f3 := HR3.out.free 0
      have f3' := HR3.out.free 1
      have HOO := Lib.hid hO
      have HEN := Lib.hid (HEX.out.trans HE2.out)
      have hz0 := HEX.out.size
      have hlt3 := HB3X.out.lt
      clear hO
      go_wp2_with fail
      have H4 := HR3.out.put2 (u := .int .i64 (d : Int)) (v := .slice A' t3.length n')
      have c4 := H4.cell 0
      have c4' := H4.cell 1
      refine bodyPost_ret (v := .tuple #[.agg #[.int .i64 (d : Int), .slice A' t3.length n'], .int .i64 0]) (by simp [results, Tryz.results28, go_sem, c4, c4']) rfl (SqS.of (C0 := A') (e0 := n') HQ.out (by rw [HLZ.out]) ((HEN.out.setCell (by show w.heap.size ≤ w.heap.size + 1 + 1 + 1; omega) _).setCell (by show w.heap.size ≤ w.heap.size + 1 + 1 + 1; omega) _) (((HOO.out.above (Only.set _ _ _ _) hlt3).above (Only.set _ _ _ _) hlt3).mono hz0 (by simp) (Nat.le_refl _)))

theorem specConjugateCochain_ex (t0 : List (List Int)) (m1 : Int) (t1 t2 : List Int) (m3 : Int) (t3 : List Int) (m4 : Int) : ∀ (B0 : Option Addr) (d0 : Nat) (B1 : Option Addr) (d1 : Nat) (B2 : Option Addr) (d2 : Nat) (B3 : Option Addr) (d3 : Nat) (W : World), RwsW W B0 t0 → IntsW W B1 t1 → IntsW W B2 t2 → IntsW W B3 t3 → SmallT t0 → t1.length ≤ 1048576 → t2.length ≤ 1048576 → t3.length ≤ 1048576 →
    Calls Tryz.prog 28 #[.agg #[.slice B0 t0.length d0], .agg #[.int .i64 m1, .slice B1 t1.length d1], .slice B2 t2.length d2, .agg #[.int .i64 m3, .slice B3 t3.length d3], .int .i64 m4] W (SqS (qConjugateCochain0 t0 m1 t1 t2 m3 t3 m4) (yConjugateCochain0 t0 m1 t1 t2 m3 t3 m4) (qConjugateCochain1 t0 m1 t1 t2 m3 t3 m4) W) := by
  intro B0 d0 B1 d1 B2 d2 B3 d3 w hR hU hX hF hs hu hx hf
  cases hg : grpB t0 with
  | false => exact specCJ_e1 t0 m1 t1 t2 m3 t3 m4 B0 d0 B1 d1 B2 d2 B3 d3 w hR hU hX hF hs hu hx hf hg
  | true =>
    cases hm : modB t0 m1 t1 with
    | false => exact specCJ_e2 t0 m1 t1 t2 m3 t3 m4 B0 d0 B1 d1 B2 d2 B3 d3 w hR hU hX hF hs hu hx hf hg hm
    | true =>
      cases hb : setB t0.length t2 with
      | false => exact specCJ_e3 t0 m1 t1 t2 m3 t3 m4 B0 d0 B1 d1 B2 d2 B3 d3 w hR hU hX hF hs hu hx hf hg hm hb
      | true =>
        cases hv : movB t0.length m4 with
        | false => exact specCJ_e4 t0 m1 t1 t2 m3 t3 m4 B0 d0 B1 d1 B2 d2 B3 d3 w hR hU hX hF hs hu hx hf hg hm hb hv
        | true =>
          cases hsub : subB t0 (bitsK t2 t2.length) with
          | false => exact specCJ_e5 t0 m1 t1 t2 m3 t3 m4 B0 d0 B1 d1 B2 d2 B3 d3 w hR hU hX hF hs hu hx hf hg hm hb hv hsub
          | true =>
            obtain ⟨M, rfl, hMF⟩ := gmB_f (show gmB t0 m1 t1 = true by simp [gmB, hg, hm])
            cases hcb : cocB t2.length (M : Int) m3 t3 with
            | false => exact specCJ_e6 t0 M t1 t2 m3 t3 m4 B0 d0 B1 d1 B2 d2 B3 d3 w hR hU hX hF hs hu hx hf hg hm hb hv hsub hMF hcb
            | true =>
              obtain ⟨k, rfl, hk⟩ := below_one ((below1 _ _).trans hv)
              obtain ⟨h0, h3, hlen, hfr⟩ := cocB_yes hcb
              obtain ⟨d, rfl⟩ : ∃ d : Nat, m3 = (d : Int) := ⟨m3.toNat, by omega⟩
              rw [Int.toNat_natCast] at hlen
              exact specCJ_yes t0 M t1 t2 d t3 k B0 d0 B1 d1 B2 d2 B3 d3 w hR hU hX hF hs hu hx hf hg hm hb hv hsub hMF hcb hk (by omega) hlen (belowB_inR hfr)

end Go.Proofs.YtfnjpbjlikajbaaGreatDoor
