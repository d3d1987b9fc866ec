/- PullBack: the specification's contract. -/
import Derived.Test.YtalejhbdbclfaaaDoorUl
import Derived.Test.YtalejhbdbclfaaaDoorUk
namespace Go.Proofs.YtalejhbdbclfaaaDoor
open Go.RowKit

/-- What is asked of the end of the specification's PullBack. -/
def PbS (t u : List (List Int)) (m : Int) (us xs : List Int) (n : Int) (fs : List Int) (W : World) (e : Ending) (W' : World) : Prop := ∃ (C0 : Option Addr) (e0 : Nat) (C1 : Option Addr) (e1 : Nat), e = .returned (.tuple #[.agg #[.int .i64 (qPullBack0 t u m us xs n fs), .slice C0 (yPullBack0 t u m us xs n fs).length e0], .agg #[.int .i64 (qPullBack1 t u m us xs n fs), .slice C1 (yPullBack1 t u m us xs n fs).length e1], .int .i64 (qPullBack2 t u m us xs n fs)]) ∧ Ex W W' ∧ OwnL W' W.heap.size W'.heap.size C0 (yPullBack0 t u m us xs n fs) ∧ OwnL W' W.heap.size W'.heap.size C1 (yPullBack1 t u m us xs n fs)
theorem PbS.err {t u : List (List Int)} {m : Int} {us xs : List Int} {n : Int} {fs : List Int} {W W' : World} {e : Ending} {c : Int} (h : qPullBack0 t u m us xs n fs = 0 ∧ yPullBack0 t u m us xs n fs = [] ∧ qPullBack1 t u m us xs n fs = 0 ∧ yPullBack1 t u m us xs n fs = [] ∧ qPullBack2 t u m us xs n fs = c)
    (he : e = .returned (.tuple #[.agg #[.int .i64 0, .slice none 0 0], .agg #[.int .i64 0, .slice none 0 0], .int .i64 c])) (hx : Ex W W') : PbS t u m us xs n fs W e W' :=
  ⟨none, 0, none, 0, by rw [he, h.1, h.2.1, h.2.2.1, h.2.2.2.1, h.2.2.2.2]; rfl, hx, by rw [h.2.1]; exact OwnL.nil _ _ _ (Nat.le_refl _), by rw [h.2.2.2.1]; exact OwnL.nil _ _ _ (Nat.le_refl _)⟩
theorem PbS.of {t u : List (List Int)} {m : Int} {us xs : List Int} {n : Int} {fs : List Int} {W W' : World} {e : Ending} {y0 y1 : List Int} {C0 C1 : Option Addr} {e0 e1 : Nat} (h : qPullBack0 t u m us xs n fs = m ∧ yPullBack0 t u m us xs n fs = y0 ∧ qPullBack1 t u m us xs n fs = n ∧ yPullBack1 t u m us xs n fs = y1 ∧ qPullBack2 t u m us xs n fs = 0)
    (he : e = .returned (.tuple #[.agg #[.int .i64 m, .slice C0 y0.length e0], .agg #[.int .i64 n, .slice C1 y1.length e1], .int .i64 0])) (hx : Ex W W') (h0 : OwnL W' W.heap.size W'.heap.size C0 y0) (h1 : OwnL W' W.heap.size W'.heap.size C1 y1) : PbS t u m us xs n fs W e W' :=
  ⟨C0, e0, C1, e1, by rw [he, h.1, h.2.1, h.2.2.1, h.2.2.2.1, h.2.2.2.2], hx, by rw [h.2.1]; exact h0, by rw [h.2.2.2.1]; exact h1⟩

theorem inRB_yes {n : Nat} {xs : List Int} (h : InR n xs) : inRB n xs = true := by simp [inRB, h]
theorem inRB_not {n : Nat} {xs : List Int} (h : ¬ InR n xs) : inRB n xs = false := by simp [inRB, h]

set_option maxRecDepth 100000 in
set_option maxHeartbeats 8000000 in
theorem specPullBack_ex (t0 t1 : List (List Int)) (m2 : Int) (t2 t3 : List Int) (m4 : Int) (t4 : List Int) : ∀ (B0 : Option Addr) (d0 : Nat) (B1 : Option Addr) (d1 : Nat) (B2 : Option Addr) (d2 : Nat) (B3 : Option Addr) (d3 : Nat) (B4 : Option Addr) (d4 : Nat) (W : World), RwsW W B0 t0 → RwsW W B1 t1 → IntsW W B2 t2 → IntsW W B3 t3 → IntsW W B4 t4 → SmallT t0 → SmallT t1 → t2.length ≤ 1048576 → t3.length ≤ 1048576 → t4.length ≤ 1048576 →
    Calls Tryd.prog 48 #[.agg #[.slice B0 t0.length d0], .agg #[.slice B1 t1.length d1], .agg #[.int .i64 m2, .slice B2 t2.length d2], .slice B3 t3.length d3, .agg #[.int .i64 m4, .slice B4 t4.length d4]] W (PbS t0 t1 m2 t2 t3 m4 t4 W) := by
  intro B0 d0 B1 d1 B2 d2 B3 d3 B4 d4 w hR hR' hX hI hF hs hs' hu hi hf
  have e0 : Ex w (((((((w.alloc (.cells #[.slice B0 t0.length d0] 27)).alloc (.cells #[.slice B1 t1.length d1] 27)).alloc (.cells #[.int .i64 m2, .slice B2 t2.length d2] 40)).alloc (.cells #[.int .i64 m4, .slice B4 t4.length d4] 57)).alloc (.cells #[.int .i64 0, .slice none 0 0] 40)).alloc (.cells #[.int .i64 0, .slice none 0 0] 57)).alloc (.cells #[.int .i64 m4, .slice B4 t4.length d4] 57)) := (((((((Ex.refl w).alloc _).alloc _).alloc _).alloc _).alloc _).alloc _).alloc _
  have b0 : Has (((((((w.alloc (.cells #[.slice B0 t0.length d0] 27)).alloc (.cells #[.slice B1 t1.length d1] 27)).alloc (.cells #[.int .i64 m2, .slice B2 t2.length d2] 40)).alloc (.cells #[.int .i64 m4, .slice B4 t4.length d4] 57)).alloc (.cells #[.int .i64 0, .slice none 0 0] 40)).alloc (.cells #[.int .i64 0, .slice none 0 0] 57)).alloc (.cells #[.int .i64 m4, .slice B4 t4.length d4] 57)) (w.heap.size) 27 #[.slice B0 t0.length d0] := (((((((Has.newAt (w := w) (e := 27) (cs := #[.slice B0 t0.length d0]) (k := w.heap.size) (by simp)).alloc _).alloc _).alloc _).alloc _).alloc _).alloc _)
  have b1 : Has (((((((w.alloc (.cells #[.slice B0 t0.length d0] 27)).alloc (.cells #[.slice B1 t1.length d1] 27)).alloc (.cells #[.int .i64 m2, .slice B2 t2.length d2] 40)).alloc (.cells #[.int .i64 m4, .slice B4 t4.length d4] 57)).alloc (.cells #[.int .i64 0, .slice none 0 0] 40)).alloc (.cells #[.int .i64 0, .slice none 0 0] 57)).alloc (.cells #[.int .i64 m4, .slice B4 t4.length d4] 57)) (w.heap.size + 1) 27 #[.slice B1 t1.length d1] := ((((((Has.newAt (w := (w.alloc (.cells #[.slice B0 t0.length d0] 27))) (e := 27) (cs := #[.slice B1 t1.length d1]) (k := w.heap.size + 1) (by simp)).alloc _).alloc _).alloc _).alloc _).alloc _)
  have b2 : Has (((((((w.alloc (.cells #[.slice B0 t0.length d0] 27)).alloc (.cells #[.slice B1 t1.length d1] 27)).alloc (.cells #[.int .i64 m2, .slice B2 t2.length d2] 40)).alloc (.cells #[.int .i64 m4, .slice B4 t4.length d4] 57)).alloc (.cells #[.int .i64 0, .slice none 0 0] 40)).alloc (.cells #[.int .i64 0, .slice none 0 0] 57)).alloc (.cells #[.int .i64 m4, .slice B4 t4.length d4] 57)) (w.heap.size + 1 + 1) 40 #[.int .i64 m2, .slice B2 t2.length d2] := (((((Has.newAt (w := ((w.alloc (.cells #[.slice B0 t0.length d0] 27)).alloc (.cells #[.slice B1 t1.length d1] 27))) (e := 40) (cs := #[.int .i64 m2, .slice B2 t2.length d2]) (k := w.heap.size + 1 + 1) (by simp)).alloc _).alloc _).alloc _).alloc _)
  have b3 : Has (((((((w.alloc (.cells #[.slice B0 t0.length d0] 27)).alloc (.cells #[.slice B1 t1.length d1] 27)).alloc (.cells #[.int .i64 m2, .slice B2 t2.length d2] 40)).alloc (.cells #[.int .i64 m4, .slice B4 t4.length d4] 57)).alloc (.cells #[.int .i64 0, .slice none 0 0] 40)).alloc (.cells #[.int .i64 0, .slice none 0 0] 57)).alloc (.cells #[.int .i64 m4, .slice B4 t4.length d4] 57)) (w.heap.size + 1 + 1 + 1) 57 #[.int .i64 m4, .slice B4 t4.length d4] := ((((Has.newAt (w := (((w.alloc (.cells #[.slice B0 t0.length d0] 27)).alloc (.cells #[.slice B1 t1.length d1] 27)).alloc (.cells #[.int .i64 m2, .slice B2 t2.length d2] 40))) (e := 57) (cs := #[.int .i64 m4, .slice B4 t4.length d4]) (k := w.heap.size + 1 + 1 + 1) (by simp)).alloc _).alloc _).alloc _)
  have b4 : Has (((((((w.alloc (.cells #[.slice B0 t0.length d0] 27)).alloc (.cells #[.slice B1 t1.length d1] 27)).alloc (.cells #[.int .i64 m2, .slice B2 t2.length d2] 40)).alloc (.cells #[.int .i64 m4, .slice B4 t4.length d4] 57)).alloc (.cells #[.int .i64 0, .slice none 0 0] 40)).alloc (.cells #[.int .i64 0, .slice none 0 0] 57)).alloc (.cells #[.int .i64 m4, .slice B4 t4.length d4] 57)) (w.heap.size + 1 + 1 + 1 + 1) 40 #[.int .i64 0, .slice none 0 0] := (((Has.newAt (w := ((((w.alloc (.cells #[.slice B0 t0.length d0] 27)).alloc (.cells #[.slice B1 t1.length d1] 27)).alloc (.cells #[.int .i64 m2, .slice B2 t2.length d2] 40)).alloc (.cells #[.int .i64 m4, .slice B4 t4.length d4] 57))) (e := 40) (cs := #[.int .i64 0, .slice none 0 0]) (k := w.heap.size + 1 + 1 + 1 + 1) (by simp)).alloc _).alloc _)
  have b5 : Has (((((((w.alloc (.cells #[.slice B0 t0.length d0] 27)).alloc (.cells #[.slice B1 t1.length d1] 27)).alloc (.cells #[.int .i64 m2, .slice B2 t2.length d2] 40)).alloc (.cells #[.int .i64 m4, .slice B4 t4.length d4] 57)).alloc (.cells #[.int .i64 0, .slice none 0 0] 40)).alloc (.cells #[.int .i64 0, .slice none 0 0] 57)).alloc (.cells #[.int .i64 m4, .slice B4 t4.length d4] 57)) (w.heap.size + 1 + 1 + 1 + 1 + 1) 57 #[.int .i64 0, .slice none 0 0] := ((Has.newAt (w := (((((w.alloc (.cells #[.slice B0 t0.length d0] 27)).alloc (.cells #[.slice B1 t1.length d1] 27)).alloc (.cells #[.int .i64 m2, .slice B2 t2.length d2] 40)).alloc (.cells #[.int .i64 m4, .slice B4 t4.length d4] 57)).alloc (.cells #[.int .i64 0, .slice none 0 0] 40))) (e := 57) (cs := #[.int .i64 0, .slice none 0 0]) (k := w.heap.size + 1 + 1 + 1 + 1 + 1) (by simp)).alloc _)
  have b6 : Has (((((((w.alloc (.cells #[.slice B0 t0.length d0] 27)).alloc (.cells #[.slice B1 t1.length d1] 27)).alloc (.cells #[.int .i64 m2, .slice B2 t2.length d2] 40)).alloc (.cells #[.int .i64 m4, .slice B4 t4.length d4] 57)).alloc (.cells #[.int .i64 0, .slice none 0 0] 40)).alloc (.cells #[.int .i64 0, .slice none 0 0] 57)).alloc (.cells #[.int .i64 m4, .slice B4 t4.length d4] 57)) (w.heap.size + 1 + 1 + 1 + 1 + 1 + 1) 57 #[.int .i64 m4, .slice B4 t4.length d4] := (Has.newAt (w := ((((((w.alloc (.cells #[.slice B0 t0.length d0] 27)).alloc (.cells #[.slice B1 t1.length d1] 27)).alloc (.cells #[.int .i64 m2, .slice B2 t2.length d2] 40)).alloc (.cells #[.int .i64 m4, .slice B4 t4.length d4] 57)).alloc (.cells #[.int .i64 0, .slice none 0 0] 40)).alloc (.cells #[.int .i64 0, .slice none 0 0] 57))) (e := 57) (cs := #[.int .i64 m4, .slice B4 t4.length d4]) (k := w.heap.size + 1 + 1 + 1 + 1 + 1 + 1) (by simp))
  have HC := Lib.hid (l03Code1_ex B1 B2 B4 t1 m2 t2 m4 t4 d1 d2 d4 (w.heap.size + 1 + 1 + 1 + 1 + 1 + 1) _ (hR'.ex e0) (hX.ex e0) (hF.ex e0) hs' hu hf b6)
  have HIS := Lib.hid (fun W (he : Ex w W) => l01Is_ex B0 t0 d0 W (hR.ex he) hs)
  cases hg : gmcB t1 m2 t2 m4 t4 with
  | false =>
    rw [hg] at HC
    have HQ := Lib.hid (pb_err (t := t0) (xs := t3) (pbR_no hg) (by decide))
    obtain ⟨q, hq⟩ : ∃ q, grpB t0 = q := ⟨_, rfl⟩
    rw [hq] at HIS
    clear hq hg hR hR' hX hI hF
    cases q <;>
    · go_enter Tryd.func48, Tryd.ntmps48
      go_wp2_with fail
      generalize (((((((w.alloc (.cells #[.slice B0 t0.length d0] 27)).alloc (.cells #[.slice B1 t1.length d1] 27)).alloc (.cells #[.int .i64 m2, .slice B2 t2.length d2] 40)).alloc (.cells #[.int .i64 m4, .slice B4 t4.length d4] 57)).alloc (.cells #[.int .i64 0, .slice none 0 0] 40)).alloc (.cells #[.int .i64 0, .slice none 0 0] 57)).alloc (.cells #[.int .i64 m4, .slice B4 t4.length d4] 57)) = W0 at *
      refine HC.out.mono ?_
      rintro e W1 ⟨rfl, he1⟩
      have HE1 := Lib.hid (e0.trans he1)
      have HB0 := Lib.hid (b0.ex he1)
      have HB1 := Lib.hid (b1.ex he1)
      have HB2 := Lib.hid (b2.ex he1)
      have HB3 := Lib.hid (b3.ex he1)
      have HB4 := Lib.hid (b4.ex he1)
      have HB5 := Lib.hid (b5.ex he1)
      have c0 := HB0.out.cell 0
      clear b0 b1 b2 b3 b4 b5 b6 e0 he1
      go_wp2_with fail
      refine (HIS.out W1 HE1.out).mono ?_
      rintro e W2 ⟨rfl, he2⟩
      have HE2 := Lib.hid (HE1.out.trans he2)
      have HB42 := Lib.hid (HB4.out.ex he2)
      have HB52 := Lib.hid (HB5.out.ex he2)
      clear he2 c0
      have p4 := HB42.out.cell 0
      have p4' := HB42.out.cell 1
      have f4 := HB42.out.free 0
      have f4' := HB42.out.free 1
      have p5 := HB52.out.cell 0
      have p5' := HB52.out.cell 1
      have f5 := HB52.out.free 0
      have f5' := HB52.out.free 1
      go_wp2_with fail
      have H4 := (Has.far (p := ⟨w.heap.size + 1 + 1 + 1 + 1 + 1, 1, none⟩) (Has.far (p := ⟨w.heap.size + 1 + 1 + 1 + 1 + 1, 0, none⟩) (HB42.out.put2 (u := .int .i64 0) (v := .slice none 0 0)) (by show w.heap.size + 1 + 1 + 1 + 1 ≠ w.heap.size + 1 + 1 + 1 + 1 + 1; omega) (.int .i64 0)) (by show w.heap.size + 1 + 1 + 1 + 1 ≠ w.heap.size + 1 + 1 + 1 + 1 + 1; omega) (.slice none 0 0))
      have H5 := Has.put2 (u := .int .i64 0) (v := .slice none 0 0) (Has.far (p := ⟨w.heap.size + 1 + 1 + 1 + 1, 1, none⟩) (Has.far (p := ⟨w.heap.size + 1 + 1 + 1 + 1, 0, none⟩) HB52.out (by show w.heap.size + 1 + 1 + 1 + 1 + 1 ≠ w.heap.size + 1 + 1 + 1 + 1; omega) (.int .i64 0)) (by show w.heap.size + 1 + 1 + 1 + 1 + 1 ≠ w.heap.size + 1 + 1 + 1 + 1; omega) (.slice none 0 0))
      have c4 := H4.cell 0
      have c4' := H4.cell 1
      have c5 := H5.cell 0
      have c5' := H5.cell 1
      refine bodyPost_ret (v := .tuple #[.agg #[.int .i64 0, .slice none 0 0], .agg #[.int .i64 0, .slice none 0 0], .int .i64 1]) (by simp [results, Tryd.results48, go_sem, c4, c4', c5, c5']) rfl (PbS.err HQ.out rfl ((((HE2.out.setCell (by show w.heap.size ≤ w.heap.size + 1 + 1 + 1 + 1; omega) _).setCell (by show w.heap.size ≤ w.heap.size + 1 + 1 + 1 + 1; omega) _).setCell (by show w.heap.size ≤ w.heap.size + 1 + 1 + 1 + 1 + 1; omega) _).setCell (by show w.heap.size ≤ w.heap.size + 1 + 1 + 1 + 1 + 1; omega) _))
  | true =>
    rw [hg] at HC
    cases hgt : grpB t0 with
    | false =>
      have HQ := Lib.hid (pb_err (t := t0) (xs := t3) ((pbR_yes hg).trans (by simp [resR, hgt])) (by decide : (1 : Int) ≠ 0))
      rw [hgt] at HIS
      clear hgt hg hR hR' hX hI hF
      go_enter Tryd.func48, Tryd.ntmps48
      go_wp2_with fail
      generalize (((((((w.alloc (.cells #[.slice B0 t0.length d0] 27)).alloc (.cells #[.slice B1 t1.length d1] 27)).alloc (.cells #[.int .i64 m2, .slice B2 t2.length d2] 40)).alloc (.cells #[.int .i64 m4, .slice B4 t4.length d4] 57)).alloc (.cells #[.int .i64 0, .slice none 0 0] 40)).alloc (.cells #[.int .i64 0, .slice none 0 0] 57)).alloc (.cells #[.int .i64 m4, .slice B4 t4.length d4] 57)) = W0 at *
      refine HC.out.mono ?_
      rintro e W1 ⟨rfl, he1⟩
      have HE1 := Lib.hid (e0.trans he1)
      have HB0 := Lib.hid (b0.ex he1)
      have HB1 := Lib.hid (b1.ex he1)
      have HB2 := Lib.hid (b2.ex he1)
      have HB3 := Lib.hid (b3.ex he1)
      have HB4 := Lib.hid (b4.ex he1)
      have HB5 := Lib.hid (b5.ex he1)
      have c0 := HB0.out.cell 0
      clear b0 b1 b2 b3 b4 b5 b6 e0 he1
      go_wp2_with fail
      refine (HIS.out W1 HE1.out).mono ?_
      rintro e W2 ⟨rfl, he2⟩
      have HE2 := Lib.hid (HE1.out.trans he2)
      have HB42 := Lib.hid (HB4.out.ex he2)
      have HB52 := Lib.hid (HB5.out.ex he2)
      clear he2 c0
      have p4 := HB42.out.cell 0
      have p4' := HB42.out.cell 1
      have f4 := HB42.out.free 0
      have f4' := HB42.out.free 1
      have p5 := HB52.out.cell 0
      have p5' := HB52.out.cell 1
      have f5 := HB52.out.free 0
      have f5' := HB52.out.free 1
      go_wp2_with fail
      have H4 := (Has.far (p := ⟨w.heap.size + 1 + 1 + 1 + 1 + 1, 1, none⟩) (Has.far (p := ⟨w.heap.size + 1 + 1 + 1 + 1 + 1, 0, none⟩) (HB42.out.put2 (u := .int .i64 0) (v := .slice none 0 0)) (by show w.heap.size + 1 + 1 + 1 + 1 ≠ w.heap.size + 1 + 1 + 1 + 1 + 1; omega) (.int .i64 0)) (by show w.heap.size + 1 + 1 + 1 + 1 ≠ w.heap.size + 1 + 1 + 1 + 1 + 1; omega) (.slice none 0 0))
      have H5 := Has.put2 (u := .int .i64 0) (v := .slice none 0 0) (Has.far (p := ⟨w.heap.size + 1 + 1 + 1 + 1, 1, none⟩) (Has.far (p := ⟨w.heap.size + 1 + 1 + 1 + 1, 0, none⟩) HB52.out (by show w.heap.size + 1 + 1 + 1 + 1 + 1 ≠ w.heap.size + 1 + 1 + 1 + 1; omega) (.int .i64 0)) (by show w.heap.size + 1 + 1 + 1 + 1 + 1 ≠ w.heap.size + 1 + 1 + 1 + 1; omega) (.slice none 0 0))
      have c4 := H4.cell 0
      have c4' := H4.cell 1
      have c5 := H5.cell 0
      have c5' := H5.cell 1
      refine bodyPost_ret (v := .tuple #[.agg #[.int .i64 0, .slice none 0 0], .agg #[.int .i64 0, .slice none 0 0], .int .i64 1]) (by simp [results, Tryd.results48, go_sem, c4, c4', c5, c5']) rfl (PbS.err HQ.out rfl ((((HE2.out.setCell (by show w.heap.size ≤ w.heap.size + 1 + 1 + 1 + 1; omega) _).setCell (by show w.heap.size ≤ w.heap.size + 1 + 1 + 1 + 1; omega) _).setCell (by show w.heap.size ≤ w.heap.size + 1 + 1 + 1 + 1 + 1; omega) _).setCell (by show w.heap.size ≤ w.heap.size + 1 + 1 + 1 + 1 + 1; omega) _))
    | true =>
      rw [hgt] at HIS
      obtain ⟨M, k, rfl, rfl, hMF, hk3, hlen, h343, hfr⟩ := gmc_facts hg
      have hgr := grpB_iff.1 hgt
      have hn8 := hgr.n8
      have hgm : gmB t1 (M : Int) t2 = true := by simp only [gmcB, Bool.and_eq_true] at hg; exact hg.1
      by_cases hl : t3.length = t0.length
      · have hlb : ((t3.length : Int) != (t0.length : Int)) = false := by simp [hl]
        have HEL := Lib.hid (fun W (he : Ex w W) => l01Elements_any B1 B3 t1 t3 d1 d3 _ _ W (hR'.ex he).rws (hI.ex he).ints (Nat.le_refl _) (Nat.le_refl _) hs'.1 hs'.2 hi)
        by_cases hin : InR t1.length t3
        · have her : elemR t1 t3 = 0 := by rw [elemR, if_pos hMF.g, if_pos hin]
          rw [her] at HEL
          have HHO := Lib.hid (fun W (he : Ex w W) => l01Hom_ex B0 B1 B3 t0 t1 t3 d0 d1 d3 W (hR.ex he) (hR'.ex he) (hI.ex he) hgr hMF.g hin hl)
          cases hho : homB t0 t1 t3 with
          | false =>
            rw [hho] at HHO
            have HQ := Lib.hid (pb_err (t := t0) (xs := t3) ((pbR_yes hg).trans (by simp [resR, hgt, hgm, hl, inRB_yes hin, hho])) (by decide : (5 : Int) ≠ 0))
            clear hgt hg hgm hR hR' hX hI hF her hin hho hMF hlen hfr hgr hl
            go_enter Tryd.func48, Tryd.ntmps48
            go_wp2_with fail
            generalize (((((((w.alloc (.cells #[.slice B0 t0.length d0] 27)).alloc (.cells #[.slice B1 t1.length d1] 27)).alloc (.cells #[.int .i64 (M : Int), .slice B2 t2.length d2] 40)).alloc (.cells #[.int .i64 (k : Int), .slice B4 t4.length d4] 57)).alloc (.cells #[.int .i64 0, .slice none 0 0] 40)).alloc (.cells #[.int .i64 0, .slice none 0 0] 57)).alloc (.cells #[.int .i64 (k : Int), .slice B4 t4.length d4] 57)) = W0 at *
            refine HC.out.mono ?_
            rintro e W1 ⟨rfl, he1⟩
            have HE1 := Lib.hid (e0.trans he1)
            have HB0 := Lib.hid (b0.ex he1)
            have HB1 := Lib.hid (b1.ex he1)
            have HB2 := Lib.hid (b2.ex he1)
            have HB3 := Lib.hid (b3.ex he1)
            have HB4 := Lib.hid (b4.ex he1)
            have HB5 := Lib.hid (b5.ex he1)
            have c0 := HB0.out.cell 0
            clear b0 b1 b2 b3 b4 b5 b6 e0 he1
            go_wp2_with fail
            refine (HIS.out W1 HE1.out).mono ?_
            rintro e W2 ⟨rfl, he2⟩
            have HE2 := Lib.hid (HE1.out.trans he2)
            have c0' := (HB0.out.ex he2).cell 0
            have HB12 := Lib.hid (HB1.out.ex he2)
            have c1' := HB12.out.cell 0
            have HB02 := Lib.hid (HB0.out.ex he2)
            have HB42 := Lib.hid (HB4.out.ex he2)
            have HB52 := Lib.hid (HB5.out.ex he2)
            clear he2 c0
            go_wp2_with fail
            refine (HEL.out W2 HE2.out).mono ?_
            rintro e W3 ⟨rfl, he3⟩
            have HE3 := Lib.hid (HE2.out.trans he3)
            have e0' := (HB02.out.ex he3).cell 0
            have e1' := (HB12.out.ex he3).cell 0
            have HB43 := Lib.hid (HB42.out.ex he3)
            have HB53 := Lib.hid (HB52.out.ex he3)
            clear he3 c0' c1'
            go_wp2_with fail
            refine (HHO.out W3 HE3.out).mono ?_
            rintro e W4 ⟨rfl, he4⟩
            have HE4 := Lib.hid (HE3.out.trans he4)
            have HB44 := Lib.hid (HB43.out.ex he4)
            have HB54 := Lib.hid (HB53.out.ex he4)
            clear he4 e0' e1'
            have p4 := HB44.out.cell 0
            have p4' := HB44.out.cell 1
            have f4 := HB44.out.free 0
            have f4' := HB44.out.free 1
            have p5 := HB54.out.cell 0
            have p5' := HB54.out.cell 1
            have f5 := HB54.out.free 0
            have f5' := HB54.out.free 1
            go_wp2_with fail
            have H4 := (Has.far (p := ⟨w.heap.size + 1 + 1 + 1 + 1 + 1, 1, none⟩) (Has.far (p := ⟨w.heap.size + 1 + 1 + 1 + 1 + 1, 0, none⟩) (HB44.out.put2 (u := .int .i64 0) (v := .slice none 0 0)) (by show w.heap.size + 1 + 1 + 1 + 1 ≠ w.heap.size + 1 + 1 + 1 + 1 + 1; omega) (.int .i64 0)) (by show w.heap.size + 1 + 1 + 1 + 1 ≠ w.heap.size + 1 + 1 + 1 + 1 + 1; omega) (.slice none 0 0))
            have H5 := Has.put2 (u := .int .i64 0) (v := .slice none 0 0) (Has.far (p := ⟨w.heap.size + 1 + 1 + 1 + 1, 1, none⟩) (Has.far (p := ⟨w.heap.size + 1 + 1 + 1 + 1, 0, none⟩) HB54.out (by show w.heap.size + 1 + 1 + 1 + 1 + 1 ≠ w.heap.size + 1 + 1 + 1 + 1; omega) (.int .i64 0)) (by show w.heap.size + 1 + 1 + 1 + 1 + 1 ≠ w.heap.size + 1 + 1 + 1 + 1; omega) (.slice none 0 0))
            have c4 := H4.cell 0
            have c4' := H4.cell 1
            have c5 := H5.cell 0
            have c5' := H5.cell 1
            refine bodyPost_ret (v := .tuple #[.agg #[.int .i64 0, .slice none 0 0], .agg #[.int .i64 0, .slice none 0 0], .int .i64 5]) (by simp [results, Tryd.results48, go_sem, c4, c4', c5, c5']) rfl (PbS.err HQ.out rfl ((((HE4.out.setCell (by show w.heap.size ≤ w.heap.size + 1 + 1 + 1 + 1; omega) _).setCell (by show w.heap.size ≤ w.heap.size + 1 + 1 + 1 + 1; omega) _).setCell (by show w.heap.size ≤ w.heap.size + 1 + 1 + 1 + 1 + 1; omega) _).setCell (by show w.heap.size ≤ w.heap.size + 1 + 1 + 1 + 1 + 1; omega) _))
          | true =>
            rw [hho] at HHO
            have hz : resR t0 t1 t3 (M : Int) t2 = 0 := by simp [resR, hgt, hgm, hl, inRB_yes hin, hho]
            have HQ := Lib.hid (pb_yes (t := t0) (xs := t3) ((pbR_yes hg).trans hz))
            have HPL := Lib.hid (fun W (he : Ex w W) => l03Pull_any B0 B2 B3 B1 B4 t0.length t1.length k (M : Int) t2 t3 t4 d0 d2 d3 d1 d4 W (hX.ex he) (hI.ex he) (hF.ex he) hn8 hgr.n1 hMF.g.n8 hMF.g.n1 hMF.len hl hin hk3 hlen)
            rw [show (List.range t3.length) = List.range t0.length by rw [hl]] at HQ
            rw [show pbY (fun x => nth t3 x) t4 t0.length t1.length k = (List.range (cellsN t0.length k)).map (fun j => pulV t3 t4 t0.length t1.length k j) from rfl] at HPL
            have HV : Hid (((List.range (cellsN t0.length k)).map fun j => pulV t3 t4 t0.length t1.length k j).length = cellsN t0.length k) := Lib.hid (by simp)
            have HV2 : Hid (((List.range t0.length).map fun i => nth t2 (im t3 i)).length = t0.length) := Lib.hid (by simp)
            obtain ⟨y1, hy1⟩ : ∃ ys, ((List.range (cellsN t0.length k)).map fun j => pulV t3 t4 t0.length t1.length k j) = ys := ⟨_, rfl⟩
            rw [hy1] at HQ HPL HV
            obtain ⟨y2, hy2⟩ : ∃ y2, ((List.range t0.length).map fun i => nth t2 (im t3 i)) = y2 := ⟨_, rfl⟩
            rw [hy2] at HQ HPL HV2
            obtain ⟨cn, hcn⟩ : ∃ cn, cellsN t0.length k = cn := ⟨_, rfl⟩
            rw [hcn] at HPL HV
            clear hgt hg hgm hR hR' hX hI hF her hin hho hMF hlen hfr hgr hl hz hy1 hy2 hcn
            go_enter Tryd.func48, Tryd.ntmps48
            go_wp2_with fail
            generalize (((((((w.alloc (.cells #[.slice B0 t0.length d0] 27)).alloc (.cells #[.slice B1 t1.length d1] 27)).alloc (.cells #[.int .i64 (M : Int), .slice B2 t2.length d2] 40)).alloc (.cells #[.int .i64 (k : Int), .slice B4 t4.length d4] 57)).alloc (.cells #[.int .i64 0, .slice none 0 0] 40)).alloc (.cells #[.int .i64 0, .slice none 0 0] 57)).alloc (.cells #[.int .i64 (k : Int), .slice B4 t4.length d4] 57)) = W0 at *
            refine HC.out.mono ?_
            rintro e W1 ⟨rfl, he1⟩
            have HE1 := Lib.hid (e0.trans he1)
            have HB0 := Lib.hid (b0.ex he1)
            have HB1 := Lib.hid (b1.ex he1)
            have HB2 := Lib.hid (b2.ex he1)
            have HB3 := Lib.hid (b3.ex he1)
            have HB4 := Lib.hid (b4.ex he1)
            have HB5 := Lib.hid (b5.ex he1)
            have c0 := HB0.out.cell 0
            clear b0 b1 b2 b3 b4 b5 b6 e0 he1
            go_wp2_with fail
            refine (HIS.out W1 HE1.out).mono ?_
            rintro e W2 ⟨rfl, he2⟩
            have HE2 := Lib.hid (HE1.out.trans he2)
            have c0' := (HB0.out.ex he2).cell 0
            have HB12 := Lib.hid (HB1.out.ex he2)
            have c1' := HB12.out.cell 0
            have HB02 := Lib.hid (HB0.out.ex he2)
            have HB22 := Lib.hid (HB2.out.ex he2)
            have HB32 := Lib.hid (HB3.out.ex he2)
            have HB42 := Lib.hid (HB4.out.ex he2)
            have HB52 := Lib.hid (HB5.out.ex he2)
            clear he2 c0
            go_wp2_with fail
            refine (HEL.out W2 HE2.out).mono ?_
            rintro e W3 ⟨rfl, he3⟩
            have HE3 := Lib.hid (HE2.out.trans he3)
            have HB03 := Lib.hid (HB02.out.ex he3)
            have HB13 := Lib.hid (HB12.out.ex he3)
            have HB23 := Lib.hid (HB22.out.ex he3)
            have HB33 := Lib.hid (HB32.out.ex he3)
            have e0' := HB03.out.cell 0
            have e1' := HB13.out.cell 0
            have HB43 := Lib.hid (HB42.out.ex he3)
            have HB53 := Lib.hid (HB52.out.ex he3)
            clear he3 c0' c1'
            go_wp2_with fail
            refine (HHO.out W3 HE3.out).mono ?_
            rintro e W4 ⟨rfl, he4⟩
            have HE4 := Lib.hid (HE3.out.trans he4)
            have g0' := (HB03.out.ex he4).cell 0
            have g1' := (HB13.out.ex he4).cell 0
            have g2' := (HB23.out.ex he4).cell 0
            have g2'' := (HB23.out.ex he4).cell 1
            have g3' := (HB33.out.ex he4).cell 0
            have g3'' := (HB33.out.ex he4).cell 1
            have HB44 := Lib.hid (HB43.out.ex he4)
            have HB54 := Lib.hid (HB53.out.ex he4)
            clear he4 e0' e1'
            go_wp2_with fail
            refine (HPL.out W4 HE4.out).mono ?_
            rintro e W5 ⟨A0, n0, A1, n1, rfl, he5, hO0, hO1⟩
            obtain ⟨z, hz⟩ : ∃ z, W5.heap.size = z := ⟨_, rfl⟩
            have ea := (Ex.new W5 (.cells #[.int .i64 (M : Int), .slice A0 t0.length n0] 40)).alloc (.cells #[.int .i64 (k : Int), .slice A1 cn n1] 57)
            have HE5 := Lib.hid (HE4.out.trans (he5.trans ea))
            have HB45 := Lib.hid (HB44.out.ex (he5.trans ea))
            have HB55 := Lib.hid (HB54.out.ex (he5.trans ea))
            have HM5 : Hid (Has ((W5.alloc (.cells #[.int .i64 (M : Int), .slice A0 t0.length n0] 40)).alloc (.cells #[.int .i64 (k : Int), .slice A1 cn n1] 57)) z 40 #[.int .i64 (M : Int), .slice A0 t0.length n0]) := Lib.hid ((Has.newAt hz).alloc _)
            have HK5 : Hid (Has ((W5.alloc (.cells #[.int .i64 (M : Int), .slice A0 t0.length n0] 40)).alloc (.cells #[.int .i64 (k : Int), .slice A1 cn n1] 57)) (z + 1) 57 #[.int .i64 (k : Int), .slice A1 cn n1]) := Lib.hid (Has.newAt (by simp [hz]))
            have HO0 := Lib.hid (hO0.ex ea)
            have HO1 := Lib.hid (hO1.ex ea)
            have hl4 := HB44.out.lt
            have hl5 := HB54.out.lt
            have hl0 := HE4.out.size
            have hlz : W4.heap.size ≤ z := by rw [← hz]; exact he5.size
            clear he5 hO0 hO1 ea g0' g1' g2' g2'' g3' g3''
            go_wp2_with fail
            simp only [hz] at *
            generalize ((W5.alloc (.cells #[.int .i64 (M : Int), .slice A0 t0.length n0] 40)).alloc (.cells #[.int .i64 (k : Int), .slice A1 cn n1] 57)) = W6 at *
            have p4 := HB45.out.cell 0
            have p4' := HB45.out.cell 1
            have f4 := HB45.out.free 0
            have f4' := HB45.out.free 1
            have p5 := HB55.out.cell 0
            have p5' := HB55.out.cell 1
            have f5 := HB55.out.free 0
            have f5' := HB55.out.free 1
            have hC0 := And.intro (HM5.out.cell 0) (And.intro (HM5.out.cell 1) (And.intro (HK5.out.cell 0) (HK5.out.cell 1)))
            refine Late.region (C := fun w' => w'.cell? ⟨z, 0, none⟩ = some (.int .i64 (M : Int)) ∧ w'.cell? ⟨z, 1, none⟩ = some (.slice A0 t0.length n0) ∧ w'.cell? ⟨z + 1, 0, none⟩ = some (.int .i64 (k : Int)) ∧ w'.cell? ⟨z + 1, 1, none⟩ = some (.slice A1 cn n1)) (fun j => decide (j < 3)) (by kernel_rfl) hC0 (fun hC => ?_)
            refine Late.take (i := 0) (oi := _) (v := ?_) rfl (by kernel_rfl) (by kernel_rfl) (by kernel_rfl) (by kernel_rfl) (fun _ _ _ h => h) (Or.inl ⟨by rfl, ?_⟩) hC ?_
            rotate_left
            · (intro w hSw; (try dsimp only at hSw); go_simp; first | done | with_reducible rfl)
            simp only [Act.put]
            refine Late.take (i := 1) (oi := _) (v := ?_) rfl (by kernel_rfl) (by kernel_rfl) (by kernel_rfl) (by kernel_rfl) (fun _ _ _ h => h) (Or.inl ⟨by rfl, ?_⟩) hC ?_
            rotate_left
            · (intro w hSw; (try dsimp only at hSw); go_simp; first | done | with_reducible rfl)
            simp only [Act.put]
            have F8 := (HM5.out.far (p := ⟨w.heap.size + 1 + 1 + 1 + 1, 0, none⟩) (by show z ≠ w.heap.size + 1 + 1 + 1 + 1; omega) (.int .i64 (M : Int))).far (p := ⟨w.heap.size + 1 + 1 + 1 + 1, 1, none⟩) (by show z ≠ w.heap.size + 1 + 1 + 1 + 1; omega) (.slice A0 t0.length n0)
            have F9 := (HK5.out.far (p := ⟨w.heap.size + 1 + 1 + 1 + 1, 0, none⟩) (by show z + 1 ≠ w.heap.size + 1 + 1 + 1 + 1; omega) (.int .i64 (M : Int))).far (p := ⟨w.heap.size + 1 + 1 + 1 + 1, 1, none⟩) (by show z + 1 ≠ w.heap.size + 1 + 1 + 1 + 1; omega) (.slice A0 t0.length n0)
            have hC6 := And.intro (F8.cell 0) (And.intro (F8.cell 1) (And.intro (F9.cell 0) (F9.cell 1)))
            clear F8 F9
            refine Late.one (i := 2) (o := _) (by kernel_rfl) rfl (fun K' hK' => ?_)
            go_simp
            refine hK'.out _ _ (fun _ => hC6) (fun _ => ?_)
            clear hK' K' hC6 hC hC0
            try simp only [Act.put, List.setIfInBounds_toArray, List.set_cons_zero, List.set_cons_succ]
            refine Late.one (i := 3) (o := _) (by kernel_rfl) rfl (fun K' hK' => ?_)
            go_simp
            refine hK'.out _ _ (fun h => by cases h) (fun _ => ?_)
            clear hK' K'
            try simp only [Act.put, List.setIfInBounds_toArray, List.set_cons_zero, List.set_cons_succ]
            refine Late.one (i := 4) (o := _) (by kernel_rfl) rfl (fun K' hK' => ?_)
            go_simp
            refine hK'.out _ _ (fun h => by cases h) (fun _ => ?_)
            clear hK' K'
            try simp only [Act.put, List.setIfInBounds_toArray, List.set_cons_zero, List.set_cons_succ]
            refine Late.done (by kernel_rfl) ?_ _
            go_wp2_with fail
            have H4 := (Has.far (p := ⟨w.heap.size + 1 + 1 + 1 + 1 + 1, 1, none⟩) (Has.far (p := ⟨w.heap.size + 1 + 1 + 1 + 1 + 1, 0, none⟩) (HB45.out.put2 (u := .int .i64 (M : Int)) (v := .slice A0 t0.length n0)) (by show w.heap.size + 1 + 1 + 1 + 1 ≠ w.heap.size + 1 + 1 + 1 + 1 + 1; omega) (.int .i64 (k : Int))) (by show w.heap.size + 1 + 1 + 1 + 1 ≠ w.heap.size + 1 + 1 + 1 + 1 + 1; omega) (.slice A1 cn n1))
            have H5 := Has.put2 (u := .int .i64 (k : Int)) (v := .slice A1 cn n1) (Has.far (p := ⟨w.heap.size + 1 + 1 + 1 + 1, 1, none⟩) (Has.far (p := ⟨w.heap.size + 1 + 1 + 1 + 1, 0, none⟩) HB55.out (by show w.heap.size + 1 + 1 + 1 + 1 + 1 ≠ w.heap.size + 1 + 1 + 1 + 1; omega) (.int .i64 (M : Int))) (by show w.heap.size + 1 + 1 + 1 + 1 + 1 ≠ w.heap.size + 1 + 1 + 1 + 1; omega) (.slice A0 t0.length n0))
            have c4 := H4.cell 0
            have c4' := H4.cell 1
            have c5 := H5.cell 0
            have c5' := H5.cell 1
            refine bodyPost_ret (v := .tuple #[.agg #[.int .i64 (M : Int), .slice A0 t0.length n0], .agg #[.int .i64 (k : Int), .slice A1 cn n1], .int .i64 0]) (by simp [results, Tryd.results48, go_sem, c4, c4', c5, c5']) rfl (PbS.of HQ.out (by rw [HV.out, HV2.out]) ((((HE5.out.drew.setCell (by show w.heap.size ≤ w.heap.size + 1 + 1 + 1 + 1; omega) _).setCell (by show w.heap.size ≤ w.heap.size + 1 + 1 + 1 + 1; omega) _).setCell (by show w.heap.size ≤ w.heap.size + 1 + 1 + 1 + 1 + 1; omega) _).setCell (by show w.heap.size ≤ w.heap.size + 1 + 1 + 1 + 1 + 1; omega) _) ?_ ?_)
            · exact (((((HO0.out.ex (Ex.refl W6).drew).above (Only.set _ _ _ _) hl4).above (Only.set _ _ _ _) hl4).above (Only.set _ _ _ _) hl5).above (Only.set _ _ _ _) hl5).mono hl0 (by have := HM5.out.lt; simp only [World.size_setCell, World.size_drew]; omega) (Nat.le_refl _)
            · exact (((((HO1.out.ex (Ex.refl W6).drew).above (Only.set _ _ _ _) hl4).above (Only.set _ _ _ _) hl4).above (Only.set _ _ _ _) hl5).above (Only.set _ _ _ _) hl5).mono hl0 (by have := HM5.out.lt; simp only [World.size_setCell, World.size_drew]; omega) (Nat.le_refl _)
        · have her : elemR t1 t3 = 2 := by rw [elemR, if_pos hMF.g, if_neg hin]
          rw [her] at HEL
          have HQ := Lib.hid (pb_err (t := t0) (xs := t3) ((pbR_yes hg).trans (by simp [resR, hgt, hgm, hl, inRB_not hin])) (by decide : (2 : Int) ≠ 0))
          clear hgt hg hgm hR hR' hX hI hF her hin hMF hlen hfr hgr hl
          go_enter Tryd.func48, Tryd.ntmps48
          go_wp2_with fail
          generalize (((((((w.alloc (.cells #[.slice B0 t0.length d0] 27)).alloc (.cells #[.slice B1 t1.length d1] 27)).alloc (.cells #[.int .i64 (M : Int), .slice B2 t2.length d2] 40)).alloc (.cells #[.int .i64 (k : Int), .slice B4 t4.length d4] 57)).alloc (.cells #[.int .i64 0, .slice none 0 0] 40)).alloc (.cells #[.int .i64 0, .slice none 0 0] 57)).alloc (.cells #[.int .i64 (k : Int), .slice B4 t4.length d4] 57)) = W0 at *
          refine HC.out.mono ?_
          rintro e W1 ⟨rfl, he1⟩
          have HE1 := Lib.hid (e0.trans he1)
          have HB0 := Lib.hid (b0.ex he1)
          have HB1 := Lib.hid (b1.ex he1)
          have HB2 := Lib.hid (b2.ex he1)
          have HB3 := Lib.hid (b3.ex he1)
          have HB4 := Lib.hid (b4.ex he1)
          have HB5 := Lib.hid (b5.ex he1)
          have c0 := HB0.out.cell 0
          clear b0 b1 b2 b3 b4 b5 b6 e0 he1
          go_wp2_with fail
          refine (HIS.out W1 HE1.out).mono ?_
          rintro e W2 ⟨rfl, he2⟩
          have HE2 := Lib.hid (HE1.out.trans he2)
          have c0' := (HB0.out.ex he2).cell 0
          have c1' := (HB1.out.ex he2).cell 0
          have HB42 := Lib.hid (HB4.out.ex he2)
          have HB52 := Lib.hid (HB5.out.ex he2)
          clear he2 c0
          go_wp2_with fail
          refine (HEL.out W2 HE2.out).mono ?_
          rintro e W3 ⟨rfl, he3⟩
          have HE3 := Lib.hid (HE2.out.trans he3)
          have HB43 := Lib.hid (HB42.out.ex he3)
          have HB53 := Lib.hid (HB52.out.ex he3)
          clear he3 c0' c1'
          have p4 := HB43.out.cell 0
          have p4' := HB43.out.cell 1
          have f4 := HB43.out.free 0
          have f4' := HB43.out.free 1
          have p5 := HB53.out.cell 0
          have p5' := HB53.out.cell 1
          have f5 := HB53.out.free 0
          have f5' := HB53.out.free 1
          go_wp2_with fail
          have H4 := (Has.far (p := ⟨w.heap.size + 1 + 1 + 1 + 1 + 1, 1, none⟩) (Has.far (p := ⟨w.heap.size + 1 + 1 + 1 + 1 + 1, 0, none⟩) (HB43.out.put2 (u := .int .i64 0) (v := .slice none 0 0)) (by show w.heap.size + 1 + 1 + 1 + 1 ≠ w.heap.size + 1 + 1 + 1 + 1 + 1; omega) (.int .i64 0)) (by show w.heap.size + 1 + 1 + 1 + 1 ≠ w.heap.size + 1 + 1 + 1 + 1 + 1; omega) (.slice none 0 0))
          have H5 := Has.put2 (u := .int .i64 0) (v := .slice none 0 0) (Has.far (p := ⟨w.heap.size + 1 + 1 + 1 + 1, 1, none⟩) (Has.far (p := ⟨w.heap.size + 1 + 1 + 1 + 1, 0, none⟩) HB53.out (by show w.heap.size + 1 + 1 + 1 + 1 + 1 ≠ w.heap.size + 1 + 1 + 1 + 1; omega) (.int .i64 0)) (by show w.heap.size + 1 + 1 + 1 + 1 + 1 ≠ w.heap.size + 1 + 1 + 1 + 1; omega) (.slice none 0 0))
          have c4 := H4.cell 0
          have c4' := H4.cell 1
          have c5 := H5.cell 0
          have c5' := H5.cell 1
          refine bodyPost_ret (v := .tuple #[.agg #[.int .i64 0, .slice none 0 0], .agg #[.int .i64 0, .slice none 0 0], .int .i64 2]) (by simp [results, Tryd.results48, go_sem, c4, c4', c5, c5']) rfl (PbS.err HQ.out rfl ((((HE3.out.setCell (by show w.heap.size ≤ w.heap.size + 1 + 1 + 1 + 1; omega) _).setCell (by show w.heap.size ≤ w.heap.size + 1 + 1 + 1 + 1; omega) _).setCell (by show w.heap.size ≤ w.heap.size + 1 + 1 + 1 + 1 + 1; omega) _).setCell (by show w.heap.size ≤ w.heap.size + 1 + 1 + 1 + 1 + 1; omega) _))
      · have hlb : ((t3.length : Int) != (t0.length : Int)) = true := by simp; omega
        have HQ := Lib.hid (pb_err (t := t0) (xs := t3) ((pbR_yes hg).trans (by simp [resR, hgt, hgm, hl])) (by decide : (2 : Int) ≠ 0))
        clear hgt hg hgm hR hR' hX hI hF hMF hlen hfr hgr hl
        go_enter Tryd.func48, Tryd.ntmps48
        go_wp2_with fail
        generalize (((((((w.alloc (.cells #[.slice B0 t0.length d0] 27)).alloc (.cells #[.slice B1 t1.length d1] 27)).alloc (.cells #[.int .i64 (M : Int), .slice B2 t2.length d2] 40)).alloc (.cells #[.int .i64 (k : Int), .slice B4 t4.length d4] 57)).alloc (.cells #[.int .i64 0, .slice none 0 0] 40)).alloc (.cells #[.int .i64 0, .slice none 0 0] 57)).alloc (.cells #[.int .i64 (k : Int), .slice B4 t4.length d4] 57)) = W0 at *
        refine HC.out.mono ?_
        rintro e W1 ⟨rfl, he1⟩
        have HE1 := Lib.hid (e0.trans he1)
        have HB0 := Lib.hid (b0.ex he1)
        have HB1 := Lib.hid (b1.ex he1)
        have HB2 := Lib.hid (b2.ex he1)
        have HB3 := Lib.hid (b3.ex he1)
        have HB4 := Lib.hid (b4.ex he1)
        have HB5 := Lib.hid (b5.ex he1)
        have c0 := HB0.out.cell 0
        clear b0 b1 b2 b3 b4 b5 b6 e0 he1
        go_wp2_with fail
        refine (HIS.out W1 HE1.out).mono ?_
        rintro e W2 ⟨rfl, he2⟩
        have HE2 := Lib.hid (HE1.out.trans he2)
        have c0' := (HB0.out.ex he2).cell 0
        have HB42 := Lib.hid (HB4.out.ex he2)
        have HB52 := Lib.hid (HB5.out.ex he2)
        clear he2 c0
        have p4 := HB42.out.cell 0
        have p4' := HB42.out.cell 1
        have f4 := HB42.out.free 0
        have f4' := HB42.out.free 1
        have p5 := HB52.out.cell 0
        have p5' := HB52.out.cell 1
        have f5 := HB52.out.free 0
        have f5' := HB52.out.free 1
        go_wp2_with fail
        have H4 := (Has.far (p := ⟨w.heap.size + 1 + 1 + 1 + 1 + 1, 1, none⟩) (Has.far (p := ⟨w.heap.size + 1 + 1 + 1 + 1 + 1, 0, none⟩) (HB42.out.put2 (u := .int .i64 0) (v := .slice none 0 0)) (by show w.heap.size + 1 + 1 + 1 + 1 ≠ w.heap.size + 1 + 1 + 1 + 1 + 1; omega) (.int .i64 0)) (by show w.heap.size + 1 + 1 + 1 + 1 ≠ w.heap.size + 1 + 1 + 1 + 1 + 1; omega) (.slice none 0 0))
        have H5 := Has.put2 (u := .int .i64 0) (v := .slice none 0 0) (Has.far (p := ⟨w.heap.size + 1 + 1 + 1 + 1, 1, none⟩) (Has.far (p := ⟨w.heap.size + 1 + 1 + 1 + 1, 0, none⟩) HB52.out (by show w.heap.size + 1 + 1 + 1 + 1 + 1 ≠ w.heap.size + 1 + 1 + 1 + 1; omega) (.int .i64 0)) (by show w.heap.size + 1 + 1 + 1 + 1 + 1 ≠ w.heap.size + 1 + 1 + 1 + 1; omega) (.slice none 0 0))
        have c4 := H4.cell 0
        have c4' := H4.cell 1
        have c5 := H5.cell 0
        have c5' := H5.cell 1
        refine bodyPost_ret (v := .tuple #[.agg #[.int .i64 0, .slice none 0 0], .agg #[.int .i64 0, .slice none 0 0], .int .i64 2]) (by simp [results, Tryd.results48, go_sem, c4, c4', c5, c5']) rfl (PbS.err HQ.out rfl ((((HE2.out.setCell (by show w.heap.size ≤ w.heap.size + 1 + 1 + 1 + 1; omega) _).setCell (by show w.heap.size ≤ w.heap.size + 1 + 1 + 1 + 1; omega) _).setCell (by show w.heap.size ≤ w.heap.size + 1 + 1 + 1 + 1 + 1; omega) _).setCell (by show w.heap.size ≤ w.heap.size + 1 + 1 + 1 + 1 + 1; omega) _))

end Go.Proofs.YtalejhbdbclfaaaDoor
