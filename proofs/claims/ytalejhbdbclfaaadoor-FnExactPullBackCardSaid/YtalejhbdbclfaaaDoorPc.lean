/- PullBack: the program's contract. -/
import Derived.Test.YtalejhbdbclfaaaDoorPb
namespace Go.Proofs.YtalejhbdbclfaaaDoor
open Go.RowKit

/-- What is asked of PullBack's end. -/
def PbPost (t u : List (List Int)) (m : Int) (us xs : List Int) (n : Int) (fs : List Int) (W : World) (e : Ending) (W' : World) : Prop := ∃ (C0 : Option Addr) (e0 : Nat) (C1 : Option Addr) (e1 : Nat) (mid : Nat), e = .returned (.tuple #[.agg #[.int .i64 (qPullBack0 t u m us xs n fs), .slice C0 (yPullBack0 t u m us xs n fs).length e0], .agg #[.int .i64 (qPullBack1 t u m us xs n fs), .slice C1 (yPullBack1 t u m us xs n fs).length e1], .int .i64 (qPullBack2 t u m us xs n fs)]) ∧ Ex W W' ∧ W.heap.size ≤ mid ∧ mid ≤ W'.heap.size ∧ OwnL W' W.heap.size mid C0 (yPullBack0 t u m us xs n fs) ∧ OwnL W' mid W'.heap.size C1 (yPullBack1 t u m us xs n fs)
theorem PbPost.of {t u : List (List Int)} {m : Int} {us xs : List Int} {n : Int} {fs : List Int} {W W' : World} {e : Ending} {C0 : Option Addr} {e0 : Nat} {C1 : Option Addr} {e1 mid : Nat} {q0 q1 q2 : Int} {y0 y1 : List Int} (h0 : qPullBack0 t u m us xs n fs = q0) (h1 : yPullBack0 t u m us xs n fs = y0) (h2 : qPullBack1 t u m us xs n fs = q1) (h3 : yPullBack1 t u m us xs n fs = y1) (h4 : qPullBack2 t u m us xs n fs = q2)
    (he : e = .returned (.tuple #[.agg #[.int .i64 q0, .slice C0 y0.length e0], .agg #[.int .i64 q1, .slice C1 y1.length e1], .int .i64 q2])) (hx : Ex W W') (hm : W.heap.size ≤ mid) (hm' : mid ≤ W'.heap.size) (ho : OwnL W' W.heap.size mid C0 y0) (ho' : OwnL W' mid W'.heap.size C1 y1) : PbPost t u m us xs n fs W e W' := by
  subst h0 h1 h2 h3 h4
  exact ⟨C0, e0, C1, e1, mid, he, hx, hm, hm', ho, ho'⟩
theorem PbPost.err {t u : List (List Int)} {m : Int} {us xs : List Int} {n : Int} {fs : List Int} {W W' : World} {e : Ending} {c : Int} (h : qPullBack0 t u m us xs n fs = 0 ∧ yPullBack0 t u m us xs n fs = [] ∧ qPullBack1 t u m us xs n fs = 0 ∧ yPullBack1 t u m us xs n fs = [] ∧ qPullBack2 t u m us xs n fs = c)
    (he : e = .returned (.tuple #[.agg #[.int .i64 0, .slice none 0 0], .agg #[.int .i64 0, .slice none 0 0], .int .i64 c])) (hx : Ex W W') : PbPost t u m us xs n fs W e W' :=
  .of (C0 := none) (e0 := 0) (C1 := none) (e1 := 0) (mid := W.heap.size) h.1 h.2.1 h.2.2.1 h.2.2.2.1 h.2.2.2.2 he hx (Nat.le_refl _) hx.size (OwnL.nil _ _ _ hx.size) (OwnL.nil _ _ _ (Nat.le_refl _))

set_option maxRecDepth 100000 in
set_option maxHeartbeats 4000000 in
theorem implPullBack_no (t0 t1 : List (List Int)) (m2 : Int) (t2 t3 : List Int) (m4 : Int) (t4 : List Int) (B0 : Option Addr) (d0 : Nat) (B1 : Option Addr) (d1 : Nat) (B2 : Option Addr) (d2 : Nat) (B3 : Option Addr) (d3 : Nat) (B4 : Option Addr) (d4 : Nat) (w : World) (hR' : RwsW w B1 t1) (hX : IntsW w B2 t2) (hF : IntsW w B4 t4) (hs' : SmallT t1) (hu : t2.length ≤ 1048576) (hf : t4.length ≤ 1048576) (hg : gmcB t1 m2 t2 m4 t4 = false) :
    Calls Tryd.prog 49 #[.agg #[.slice B0 t0.length d0], .agg #[.slice B1 t1.length d1], .agg #[.int .i64 m2, .slice B2 t2.length d2], .slice B3 t3.length d3, .agg #[.int .i64 m4, .slice B4 t4.length d4]] w (PbPost t0 t1 m2 t2 t3 m4 t4 w) := by
  have e0 : Ex w (((((((w.alloc (.cells #[.slice B0 t0.length d0] 27)).alloc (.cells #[.slice B1 t1.length d1] 27)).alloc (.cells #[.int .i64 m2, .slice B2 t2.length d2] 40)).alloc (.cells #[.slice B3 t3.length d3] 25)).alloc (.cells #[.int .i64 m4, .slice B4 t4.length d4] 57)).alloc (.cells #[.int .i64 0, .slice none 0 0] 40)).alloc (.cells #[.int .i64 0, .slice none 0 0] 57)) := (((((((Ex.refl w).alloc _).alloc _).alloc _).alloc _).alloc _).alloc _).alloc _
  have b0 : Has (((((((w.alloc (.cells #[.slice B0 t0.length d0] 27)).alloc (.cells #[.slice B1 t1.length d1] 27)).alloc (.cells #[.int .i64 m2, .slice B2 t2.length d2] 40)).alloc (.cells #[.slice B3 t3.length d3] 25)).alloc (.cells #[.int .i64 m4, .slice B4 t4.length d4] 57)).alloc (.cells #[.int .i64 0, .slice none 0 0] 40)).alloc (.cells #[.int .i64 0, .slice none 0 0] 57)) (w.heap.size) 27 #[.slice B0 t0.length d0] := (((((((Has.newAt (w := w) (e := 27) (cs := #[.slice B0 t0.length d0]) (k := w.heap.size) (by simp)).alloc _).alloc _).alloc _).alloc _).alloc _).alloc _)
  have b1 : Has (((((((w.alloc (.cells #[.slice B0 t0.length d0] 27)).alloc (.cells #[.slice B1 t1.length d1] 27)).alloc (.cells #[.int .i64 m2, .slice B2 t2.length d2] 40)).alloc (.cells #[.slice B3 t3.length d3] 25)).alloc (.cells #[.int .i64 m4, .slice B4 t4.length d4] 57)).alloc (.cells #[.int .i64 0, .slice none 0 0] 40)).alloc (.cells #[.int .i64 0, .slice none 0 0] 57)) (w.heap.size + 1) 27 #[.slice B1 t1.length d1] := ((((((Has.newAt (w := (w.alloc (.cells #[.slice B0 t0.length d0] 27))) (e := 27) (cs := #[.slice B1 t1.length d1]) (k := w.heap.size + 1) (by simp)).alloc _).alloc _).alloc _).alloc _).alloc _)
  have b2 : Has (((((((w.alloc (.cells #[.slice B0 t0.length d0] 27)).alloc (.cells #[.slice B1 t1.length d1] 27)).alloc (.cells #[.int .i64 m2, .slice B2 t2.length d2] 40)).alloc (.cells #[.slice B3 t3.length d3] 25)).alloc (.cells #[.int .i64 m4, .slice B4 t4.length d4] 57)).alloc (.cells #[.int .i64 0, .slice none 0 0] 40)).alloc (.cells #[.int .i64 0, .slice none 0 0] 57)) (w.heap.size + 1 + 1) 40 #[.int .i64 m2, .slice B2 t2.length d2] := (((((Has.newAt (w := ((w.alloc (.cells #[.slice B0 t0.length d0] 27)).alloc (.cells #[.slice B1 t1.length d1] 27))) (e := 40) (cs := #[.int .i64 m2, .slice B2 t2.length d2]) (k := w.heap.size + 1 + 1) (by simp)).alloc _).alloc _).alloc _).alloc _)
  have b3 : Has (((((((w.alloc (.cells #[.slice B0 t0.length d0] 27)).alloc (.cells #[.slice B1 t1.length d1] 27)).alloc (.cells #[.int .i64 m2, .slice B2 t2.length d2] 40)).alloc (.cells #[.slice B3 t3.length d3] 25)).alloc (.cells #[.int .i64 m4, .slice B4 t4.length d4] 57)).alloc (.cells #[.int .i64 0, .slice none 0 0] 40)).alloc (.cells #[.int .i64 0, .slice none 0 0] 57)) (w.heap.size + 1 + 1 + 1) 25 #[.slice B3 t3.length d3] := ((((Has.newAt (w := (((w.alloc (.cells #[.slice B0 t0.length d0] 27)).alloc (.cells #[.slice B1 t1.length d1] 27)).alloc (.cells #[.int .i64 m2, .slice B2 t2.length d2] 40))) (e := 25) (cs := #[.slice B3 t3.length d3]) (k := w.heap.size + 1 + 1 + 1) (by simp)).alloc _).alloc _).alloc _)
  have b4 : Has (((((((w.alloc (.cells #[.slice B0 t0.length d0] 27)).alloc (.cells #[.slice B1 t1.length d1] 27)).alloc (.cells #[.int .i64 m2, .slice B2 t2.length d2] 40)).alloc (.cells #[.slice B3 t3.length d3] 25)).alloc (.cells #[.int .i64 m4, .slice B4 t4.length d4] 57)).alloc (.cells #[.int .i64 0, .slice none 0 0] 40)).alloc (.cells #[.int .i64 0, .slice none 0 0] 57)) (w.heap.size + 1 + 1 + 1 + 1) 57 #[.int .i64 m4, .slice B4 t4.length d4] := (((Has.newAt (w := ((((w.alloc (.cells #[.slice B0 t0.length d0] 27)).alloc (.cells #[.slice B1 t1.length d1] 27)).alloc (.cells #[.int .i64 m2, .slice B2 t2.length d2] 40)).alloc (.cells #[.slice B3 t3.length d3] 25))) (e := 57) (cs := #[.int .i64 m4, .slice B4 t4.length d4]) (k := w.heap.size + 1 + 1 + 1 + 1) (by simp)).alloc _).alloc _)
  have b5 : Has (((((((w.alloc (.cells #[.slice B0 t0.length d0] 27)).alloc (.cells #[.slice B1 t1.length d1] 27)).alloc (.cells #[.int .i64 m2, .slice B2 t2.length d2] 40)).alloc (.cells #[.slice B3 t3.length d3] 25)).alloc (.cells #[.int .i64 m4, .slice B4 t4.length d4] 57)).alloc (.cells #[.int .i64 0, .slice none 0 0] 40)).alloc (.cells #[.int .i64 0, .slice none 0 0] 57)) (w.heap.size + 1 + 1 + 1 + 1 + 1) 40 #[.int .i64 0, .slice none 0 0] := ((Has.newAt (w := (((((w.alloc (.cells #[.slice B0 t0.length d0] 27)).alloc (.cells #[.slice B1 t1.length d1] 27)).alloc (.cells #[.int .i64 m2, .slice B2 t2.length d2] 40)).alloc (.cells #[.slice B3 t3.length d3] 25)).alloc (.cells #[.int .i64 m4, .slice B4 t4.length d4] 57))) (e := 40) (cs := #[.int .i64 0, .slice none 0 0]) (k := w.heap.size + 1 + 1 + 1 + 1 + 1) (by simp)).alloc _)
  have b6 : Has (((((((w.alloc (.cells #[.slice B0 t0.length d0] 27)).alloc (.cells #[.slice B1 t1.length d1] 27)).alloc (.cells #[.int .i64 m2, .slice B2 t2.length d2] 40)).alloc (.cells #[.slice B3 t3.length d3] 25)).alloc (.cells #[.int .i64 m4, .slice B4 t4.length d4] 57)).alloc (.cells #[.int .i64 0, .slice none 0 0] 40)).alloc (.cells #[.int .i64 0, .slice none 0 0] 57)) (w.heap.size + 1 + 1 + 1 + 1 + 1 + 1) 57 #[.int .i64 0, .slice none 0 0] := (Has.newAt (w := ((((((w.alloc (.cells #[.slice B0 t0.length d0] 27)).alloc (.cells #[.slice B1 t1.length d1] 27)).alloc (.cells #[.int .i64 m2, .slice B2 t2.length d2] 40)).alloc (.cells #[.slice B3 t3.length d3] 25)).alloc (.cells #[.int .i64 m4, .slice B4 t4.length d4] 57)).alloc (.cells #[.int .i64 0, .slice none 0 0] 40))) (e := 57) (cs := #[.int .i64 0, .slice none 0 0]) (k := w.heap.size + 1 + 1 + 1 + 1 + 1 + 1) (by simp))
  have hmf : ∀ (fn : Fn) (first cap : Array Value) (w : World), (Instr.makeFunc fn first cap).run Tryd.prog w = .ok (.func fn first cap) w := fun _ _ _ _ => rfl
  have hC := isCochain_any B1 B2 B4 t1 m2 t2 m4 t4 d1 d2 d4 _ (hR'.ex e0) (hX.ex e0) (hF.ex e0) hs' hu hf
  rw [show (gmB t1 m2 t2 && cocB t1.length m2 m4 t4) = gmcB t1 m2 t2 m4 t4 from rfl, hg] at hC
  have HC := Lib.hid hC
  have HQ := Lib.hid (pb_err (t := t0) (xs := t3) (pbR_no hg) (by decide))
  clear hC hg hR' hX hF
  go_enter Tryd.func49, Tryd.ntmps49
  go_wp2_with fail
  generalize (((((((w.alloc (.cells #[.slice B0 t0.length d0] 27)).alloc (.cells #[.slice B1 t1.length d1] 27)).alloc (.cells #[.int .i64 m2, .slice B2 t2.length d2] 40)).alloc (.cells #[.slice B3 t3.length d3] 25)).alloc (.cells #[.int .i64 m4, .slice B4 t4.length d4] 57)).alloc (.cells #[.int .i64 0, .slice none 0 0] 40)).alloc (.cells #[.int .i64 0, .slice none 0 0] 57)) = W0 at *
  refine HC.out.mono ?_
  rintro e W1 ⟨rfl, he1⟩
  have HB5 := Lib.hid (b5.ex he1)
  have HB6 := Lib.hid (b6.ex he1)
  have HE1 := Lib.hid (e0.trans he1)
  have p5 := HB5.out.cell 0
  have p5' := HB5.out.cell 1
  have f5 := HB5.out.free 0
  have f5' := HB5.out.free 1
  have p6 := HB6.out.cell 0
  have p6' := HB6.out.cell 1
  have f6 := HB6.out.free 0
  have f6' := HB6.out.free 1
  clear b0 b1 b2 b3 b4 b5 b6 e0 he1
  go_wp2_with fail
  have H4 := (Has.far (p := ⟨w.heap.size + 1 + 1 + 1 + 1 + 1 + 1, 1, none⟩) (Has.far (p := ⟨w.heap.size + 1 + 1 + 1 + 1 + 1 + 1, 0, none⟩) (HB5.out.put2 (u := .int .i64 0) (v := .slice none 0 0)) (by show w.heap.size + 1 + 1 + 1 + 1 + 1 ≠ w.heap.size + 1 + 1 + 1 + 1 + 1 + 1; omega) (.int .i64 0)) (by show w.heap.size + 1 + 1 + 1 + 1 + 1 ≠ w.heap.size + 1 + 1 + 1 + 1 + 1 + 1; omega) (.slice none 0 0))
  have H5 := Has.put2 (u := .int .i64 0) (v := .slice none 0 0) (Has.far (p := ⟨w.heap.size + 1 + 1 + 1 + 1 + 1, 1, none⟩) (Has.far (p := ⟨w.heap.size + 1 + 1 + 1 + 1 + 1, 0, none⟩) HB6.out (by show w.heap.size + 1 + 1 + 1 + 1 + 1 + 1 ≠ w.heap.size + 1 + 1 + 1 + 1 + 1; omega) (.int .i64 0)) (by show w.heap.size + 1 + 1 + 1 + 1 + 1 + 1 ≠ w.heap.size + 1 + 1 + 1 + 1 + 1; omega) (.slice none 0 0))
  have c4 := H4.cell 0
  have c4' := H4.cell 1
  have c5 := H5.cell 0
  have c5' := H5.cell 1
  refine bodyPost_ret (v := .tuple #[.agg #[.int .i64 0, .slice none 0 0], .agg #[.int .i64 0, .slice none 0 0], .int .i64 1]) (by simp [results, Tryd.results49, go_sem, c4, c4', c5, c5']) rfl (PbPost.err HQ.out rfl ((((HE1.out.setCell (by show w.heap.size ≤ w.heap.size + 1 + 1 + 1 + 1 + 1; omega) _).setCell (by show w.heap.size ≤ w.heap.size + 1 + 1 + 1 + 1 + 1; omega) _).setCell (by show w.heap.size ≤ w.heap.size + 1 + 1 + 1 + 1 + 1 + 1; omega) _).setCell (by show w.heap.size ≤ w.heap.size + 1 + 1 + 1 + 1 + 1 + 1; omega) _))

set_option maxRecDepth 100000 in
set_option maxHeartbeats 4000000 in
theorem implPullBack_out (t0 t1 : List (List Int)) (m2 : Int) (t2 t3 : List Int) (m4 : Int) (t4 : List Int) (B0 : Option Addr) (d0 : Nat) (B1 : Option Addr) (d1 : Nat) (B2 : Option Addr) (d2 : Nat) (B3 : Option Addr) (d3 : Nat) (B4 : Option Addr) (d4 : Nat) (w : World) (hR : RwsW w B0 t0) (hR' : RwsW w B1 t1) (hX : IntsW w B2 t2) (hI : IntsW w B3 t3) (hF : IntsW w B4 t4) (hs : SmallT t0) (hs' : SmallT t1) (hu : t2.length ≤ 1048576) (hi : t3.length ≤ 1048576) (hf : t4.length ≤ 1048576) (hg : gmcB t1 m2 t2 m4 t4 = true) (hz : resR t0 t1 t3 m2 t2 ≠ 0) :
    Calls Tryd.prog 49 #[.agg #[.slice B0 t0.length d0], .agg #[.slice B1 t1.length d1], .agg #[.int .i64 m2, .slice B2 t2.length d2], .slice B3 t3.length d3, .agg #[.int .i64 m4, .slice B4 t4.length d4]] w (PbPost t0 t1 m2 t2 t3 m4 t4 w) := by
  have e0 : Ex w (((((((w.alloc (.cells #[.slice B0 t0.length d0] 27)).alloc (.cells #[.slice B1 t1.length d1] 27)).alloc (.cells #[.int .i64 m2, .slice B2 t2.length d2] 40)).alloc (.cells #[.slice B3 t3.length d3] 25)).alloc (.cells #[.int .i64 m4, .slice B4 t4.length d4] 57)).alloc (.cells #[.int .i64 0, .slice none 0 0] 40)).alloc (.cells #[.int .i64 0, .slice none 0 0] 57)) := (((((((Ex.refl w).alloc _).alloc _).alloc _).alloc _).alloc _).alloc _).alloc _
  have b0 : Has (((((((w.alloc (.cells #[.slice B0 t0.length d0] 27)).alloc (.cells #[.slice B1 t1.length d1] 27)).alloc (.cells #[.int .i64 m2, .slice B2 t2.length d2] 40)).alloc (.cells #[.slice B3 t3.length d3] 25)).alloc (.cells #[.int .i64 m4, .slice B4 t4.length d4] 57)).alloc (.cells #[.int .i64 0, .slice none 0 0] 40)).alloc (.cells #[.int .i64 0, .slice none 0 0] 57)) (w.heap.size) 27 #[.slice B0 t0.length d0] := (((((((Has.newAt (w := w) (e := 27) (cs := #[.slice B0 t0.length d0]) (k := w.heap.size) (by simp)).alloc _).alloc _).alloc _).alloc _).alloc _).alloc _)
  have b1 : Has (((((((w.alloc (.cells #[.slice B0 t0.length d0] 27)).alloc (.cells #[.slice B1 t1.length d1] 27)).alloc (.cells #[.int .i64 m2, .slice B2 t2.length d2] 40)).alloc (.cells #[.slice B3 t3.length d3] 25)).alloc (.cells #[.int .i64 m4, .slice B4 t4.length d4] 57)).alloc (.cells #[.int .i64 0, .slice none 0 0] 40)).alloc (.cells #[.int .i64 0, .slice none 0 0] 57)) (w.heap.size + 1) 27 #[.slice B1 t1.length d1] := ((((((Has.newAt (w := (w.alloc (.cells #[.slice B0 t0.length d0] 27))) (e := 27) (cs := #[.slice B1 t1.length d1]) (k := w.heap.size + 1) (by simp)).alloc _).alloc _).alloc _).alloc _).alloc _)
  have b2 : Has (((((((w.alloc (.cells #[.slice B0 t0.length d0] 27)).alloc (.cells #[.slice B1 t1.length d1] 27)).alloc (.cells #[.int .i64 m2, .slice B2 t2.length d2] 40)).alloc (.cells #[.slice B3 t3.length d3] 25)).alloc (.cells #[.int .i64 m4, .slice B4 t4.length d4] 57)).alloc (.cells #[.int .i64 0, .slice none 0 0] 40)).alloc (.cells #[.int .i64 0, .slice none 0 0] 57)) (w.heap.size + 1 + 1) 40 #[.int .i64 m2, .slice B2 t2.length d2] := (((((Has.newAt (w := ((w.alloc (.cells #[.slice B0 t0.length d0] 27)).alloc (.cells #[.slice B1 t1.length d1] 27))) (e := 40) (cs := #[.int .i64 m2, .slice B2 t2.length d2]) (k := w.heap.size + 1 + 1) (by simp)).alloc _).alloc _).alloc _).alloc _)
  have b3 : Has (((((((w.alloc (.cells #[.slice B0 t0.length d0] 27)).alloc (.cells #[.slice B1 t1.length d1] 27)).alloc (.cells #[.int .i64 m2, .slice B2 t2.length d2] 40)).alloc (.cells #[.slice B3 t3.length d3] 25)).alloc (.cells #[.int .i64 m4, .slice B4 t4.length d4] 57)).alloc (.cells #[.int .i64 0, .slice none 0 0] 40)).alloc (.cells #[.int .i64 0, .slice none 0 0] 57)) (w.heap.size + 1 + 1 + 1) 25 #[.slice B3 t3.length d3] := ((((Has.newAt (w := (((w.alloc (.cells #[.slice B0 t0.length d0] 27)).alloc (.cells #[.slice B1 t1.length d1] 27)).alloc (.cells #[.int .i64 m2, .slice B2 t2.length d2] 40))) (e := 25) (cs := #[.slice B3 t3.length d3]) (k := w.heap.size + 1 + 1 + 1) (by simp)).alloc _).alloc _).alloc _)
  have b4 : Has (((((((w.alloc (.cells #[.slice B0 t0.length d0] 27)).alloc (.cells #[.slice B1 t1.length d1] 27)).alloc (.cells #[.int .i64 m2, .slice B2 t2.length d2] 40)).alloc (.cells #[.slice B3 t3.length d3] 25)).alloc (.cells #[.int .i64 m4, .slice B4 t4.length d4] 57)).alloc (.cells #[.int .i64 0, .slice none 0 0] 40)).alloc (.cells #[.int .i64 0, .slice none 0 0] 57)) (w.heap.size + 1 + 1 + 1 + 1) 57 #[.int .i64 m4, .slice B4 t4.length d4] := (((Has.newAt (w := ((((w.alloc (.cells #[.slice B0 t0.length d0] 27)).alloc (.cells #[.slice B1 t1.length d1] 27)).alloc (.cells #[.int .i64 m2, .slice B2 t2.length d2] 40)).alloc (.cells #[.slice B3 t3.length d3] 25))) (e := 57) (cs := #[.int .i64 m4, .slice B4 t4.length d4]) (k := w.heap.size + 1 + 1 + 1 + 1) (by simp)).alloc _).alloc _)
  have b5 : Has (((((((w.alloc (.cells #[.slice B0 t0.length d0] 27)).alloc (.cells #[.slice B1 t1.length d1] 27)).alloc (.cells #[.int .i64 m2, .slice B2 t2.length d2] 40)).alloc (.cells #[.slice B3 t3.length d3] 25)).alloc (.cells #[.int .i64 m4, .slice B4 t4.length d4] 57)).alloc (.cells #[.int .i64 0, .slice none 0 0] 40)).alloc (.cells #[.int .i64 0, .slice none 0 0] 57)) (w.heap.size + 1 + 1 + 1 + 1 + 1) 40 #[.int .i64 0, .slice none 0 0] := ((Has.newAt (w := (((((w.alloc (.cells #[.slice B0 t0.length d0] 27)).alloc (.cells #[.slice B1 t1.length d1] 27)).alloc (.cells #[.int .i64 m2, .slice B2 t2.length d2] 40)).alloc (.cells #[.slice B3 t3.length d3] 25)).alloc (.cells #[.int .i64 m4, .slice B4 t4.length d4] 57))) (e := 40) (cs := #[.int .i64 0, .slice none 0 0]) (k := w.heap.size + 1 + 1 + 1 + 1 + 1) (by simp)).alloc _)
  have b6 : Has (((((((w.alloc (.cells #[.slice B0 t0.length d0] 27)).alloc (.cells #[.slice B1 t1.length d1] 27)).alloc (.cells #[.int .i64 m2, .slice B2 t2.length d2] 40)).alloc (.cells #[.slice B3 t3.length d3] 25)).alloc (.cells #[.int .i64 m4, .slice B4 t4.length d4] 57)).alloc (.cells #[.int .i64 0, .slice none 0 0] 40)).alloc (.cells #[.int .i64 0, .slice none 0 0] 57)) (w.heap.size + 1 + 1 + 1 + 1 + 1 + 1) 57 #[.int .i64 0, .slice none 0 0] := (Has.newAt (w := ((((((w.alloc (.cells #[.slice B0 t0.length d0] 27)).alloc (.cells #[.slice B1 t1.length d1] 27)).alloc (.cells #[.int .i64 m2, .slice B2 t2.length d2] 40)).alloc (.cells #[.slice B3 t3.length d3] 25)).alloc (.cells #[.int .i64 m4, .slice B4 t4.length d4] 57)).alloc (.cells #[.int .i64 0, .slice none 0 0] 40))) (e := 57) (cs := #[.int .i64 0, .slice none 0 0]) (k := w.heap.size + 1 + 1 + 1 + 1 + 1 + 1) (by simp))
  have hmf : ∀ (fn : Fn) (first cap : Array Value) (w : World), (Instr.makeFunc fn first cap).run Tryd.prog w = .ok (.func fn first cap) w := fun _ _ _ _ => rfl
  have hC := isCochain_any B1 B2 B4 t1 m2 t2 m4 t4 d1 d2 d4 _ (hR'.ex e0) (hX.ex e0) (hF.ex e0) hs' hu hf
  rw [show (gmB t1 m2 t2 && cocB t1.length m2 m4 t4) = gmcB t1 m2 t2 m4 t4 from rfl, hg] at hC
  have HC := Lib.hid hC
  have HQ := Lib.hid (pb_err (t := t0) (xs := t3) (pbR_yes hg) hz)
  have HRM := Lib.hid (fun W (he : Ex w W) => implRestrictModule_ex t0 t1 t3 m2 t2 B0 d0 B1 d1 B3 d3 B2 d2 W (hR.ex he) (hR'.ex he) (hI.ex he) (hX.ex he) hs hs' hi hu)
  obtain ⟨q2, y2, q3, hq⟩ : ∃ a b c, qRestrictModule0 t0 t1 t3 m2 t2 = a ∧ yRestrictModule0 t0 t1 t3 m2 t2 = b ∧ qRestrictModule1 t0 t1 t3 m2 t2 = c := ⟨_, _, _, rfl, rfl, rfl⟩
  have hq3 : resR t0 t1 t3 m2 t2 = q3 := hq.2.2
  rw [hq.1, hq.2.1, hq.2.2] at HRM
  rw [hq3] at hz HQ
  have hzb : (q3 != 0) = true := by simpa using hz
  clear hC hg hR hR' hX hI hF hq hq3 hz
  go_enter Tryd.func49, Tryd.ntmps49
  go_wp2_with fail
  generalize (((((((w.alloc (.cells #[.slice B0 t0.length d0] 27)).alloc (.cells #[.slice B1 t1.length d1] 27)).alloc (.cells #[.int .i64 m2, .slice B2 t2.length d2] 40)).alloc (.cells #[.slice B3 t3.length d3] 25)).alloc (.cells #[.int .i64 m4, .slice B4 t4.length d4] 57)).alloc (.cells #[.int .i64 0, .slice none 0 0] 40)).alloc (.cells #[.int .i64 0, .slice none 0 0] 57)) = W0 at *
  refine HC.out.mono ?_
  rintro e W1 ⟨rfl, he1⟩
  have HB5 := Lib.hid (b5.ex he1)
  have HB6 := Lib.hid (b6.ex he1)
  have HE1 := Lib.hid (e0.trans he1)
  have c0 := (b0.ex he1).cell 0
  have c1 := (b1.ex he1).cell 0
  have c2 := (b2.ex he1).cell 0
  have c2' := (b2.ex he1).cell 1
  have c3 := (b3.ex he1).cell 0
  clear b0 b1 b2 b3 b4 b5 b6 e0 he1
  go_wp2_with fail
  refine (HRM.out W1 HE1.out).mono ?_
  rintro e W2 ⟨C2, n2, rfl, he2, ho2⟩
  clear ho2 c0 c1 c2 c2' c3
  have HE2 := Lib.hid ((HE1.out.trans he2).alloc (.cells #[.int .i64 q2, .slice C2 y2.length n2] 40))
  have HB52 := Lib.hid ((HB5.out.ex he2).alloc (.cells #[.int .i64 q2, .slice C2 y2.length n2] 40))
  have HB62 := Lib.hid ((HB6.out.ex he2).alloc (.cells #[.int .i64 q2, .slice C2 y2.length n2] 40))
  have p5 := HB52.out.cell 0
  have p5' := HB52.out.cell 1
  have f5 := HB52.out.free 0
  have f5' := HB52.out.free 1
  have p6 := HB62.out.cell 0
  have p6' := HB62.out.cell 1
  have f6 := HB62.out.free 0
  have f6' := HB62.out.free 1
  clear he2 HB5 HB6
  go_wp2_with fail
  have H4 := (Has.far (p := ⟨w.heap.size + 1 + 1 + 1 + 1 + 1 + 1, 1, none⟩) (Has.far (p := ⟨w.heap.size + 1 + 1 + 1 + 1 + 1 + 1, 0, none⟩) (HB52.out.put2 (u := .int .i64 0) (v := .slice none 0 0)) (by show w.heap.size + 1 + 1 + 1 + 1 + 1 ≠ w.heap.size + 1 + 1 + 1 + 1 + 1 + 1; omega) (.int .i64 0)) (by show w.heap.size + 1 + 1 + 1 + 1 + 1 ≠ w.heap.size + 1 + 1 + 1 + 1 + 1 + 1; omega) (.slice none 0 0))
  have H5 := Has.put2 (u := .int .i64 0) (v := .slice none 0 0) (Has.far (p := ⟨w.heap.size + 1 + 1 + 1 + 1 + 1, 1, none⟩) (Has.far (p := ⟨w.heap.size + 1 + 1 + 1 + 1 + 1, 0, none⟩) HB62.out (by show w.heap.size + 1 + 1 + 1 + 1 + 1 + 1 ≠ w.heap.size + 1 + 1 + 1 + 1 + 1; omega) (.int .i64 0)) (by show w.heap.size + 1 + 1 + 1 + 1 + 1 + 1 ≠ w.heap.size + 1 + 1 + 1 + 1 + 1; omega) (.slice none 0 0))
  have c4 := H4.cell 0
  have c4' := H4.cell 1
  have c5 := H5.cell 0
  have c5' := H5.cell 1
  refine bodyPost_ret (v := .tuple #[.agg #[.int .i64 0, .slice none 0 0], .agg #[.int .i64 0, .slice none 0 0], .int .i64 q3]) (by simp [results, Tryd.results49, go_sem, c4, c4', c5, c5']) rfl (PbPost.err HQ.out rfl ((((HE2.out.setCell (by show w.heap.size ≤ w.heap.size + 1 + 1 + 1 + 1 + 1; omega) _).setCell (by show w.heap.size ≤ w.heap.size + 1 + 1 + 1 + 1 + 1; omega) _).setCell (by show w.heap.size ≤ w.heap.size + 1 + 1 + 1 + 1 + 1 + 1; omega) _).setCell (by show w.heap.size ≤ w.heap.size + 1 + 1 + 1 + 1 + 1 + 1; omega) _))

end Go.Proofs.YtalejhbdbclfaaaDoor
