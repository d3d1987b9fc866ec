/- Chapter 8: InnerModule and OuterModule, the program's contracts. -/
import Derived.Deep.Cut
import Derived.Test.YtllkaoacfchibaaDoorWc
import Derived.Test.YtllkaoacfchibaaDoorWb
namespace Go.Proofs.YtllkaoacfchibaaDoor
open Go.RowKit

set_option maxRecDepth 100000 in
set_option maxHeartbeats 4000000 in
theorem implInnerModule_ex (t0 : List (List Int)) (m1 : Int) (t1 : List Int) (m2 : Int) : ∀ (B0 : Option Addr) (d0 : Nat) (B1 : Option Addr) (d1 : Nat) (W : World), RwsW W B0 t0 → IntsW W B1 t1 → SmallT t0 → t1.length ≤ 1048576 → ErrD W →
    Calls Tryd.prog 19 #[.agg #[.slice B0 t0.length d0], .agg #[.int .i64 m1, .slice B1 t1.length d1], .int .i64 m2] W (SqS (qInnerModule0 t0 m1 t1 m2) (yInnerModule0 t0 m1 t1 m2) (qInnerModule1 t0 m1 t1 m2) W) := by
  intro B0 d0 B1 d1 w hR hX hs hx hE
  have e0 : Ex w (((w.alloc (.cells #[.slice B0 t0.length d0] 33)).alloc (.cells #[.int .i64 m1, .slice B1 t1.length d1] 30)).alloc (.cells #[.int .i64 0, .slice none 0 0] 30)) := (((Ex.refl w).alloc _).alloc _).alloc _
  have b0 : Has (((w.alloc (.cells #[.slice B0 t0.length d0] 33)).alloc (.cells #[.int .i64 m1, .slice B1 t1.length d1] 30)).alloc (.cells #[.int .i64 0, .slice none 0 0] 30)) (w.heap.size) 33 #[.slice B0 t0.length d0] := (((Has.newAt (w := w) (e := 33) (cs := #[.slice B0 t0.length d0]) (k := w.heap.size) (by simp)).alloc _).alloc _)
  have b1 : Has (((w.alloc (.cells #[.slice B0 t0.length d0] 33)).alloc (.cells #[.int .i64 m1, .slice B1 t1.length d1] 30)).alloc (.cells #[.int .i64 0, .slice none 0 0] 30)) (w.heap.size + 1) 30 #[.int .i64 m1, .slice B1 t1.length d1] := ((Has.newAt (w := (w.alloc (.cells #[.slice B0 t0.length d0] 33))) (e := 30) (cs := #[.int .i64 m1, .slice B1 t1.length d1]) (k := w.heap.size + 1) (by simp)).alloc _)
  have b2 : Has (((w.alloc (.cells #[.slice B0 t0.length d0] 33)).alloc (.cells #[.int .i64 m1, .slice B1 t1.length d1] 30)).alloc (.cells #[.int .i64 0, .slice none 0 0] 30)) (w.heap.size + 1 + 1) 30 #[.int .i64 0, .slice none 0 0] := (Has.newAt (w := ((w.alloc (.cells #[.slice B0 t0.length d0] 33)).alloc (.cells #[.int .i64 m1, .slice B1 t1.length d1] 30))) (e := 30) (cs := #[.int .i64 0, .slice none 0 0]) (k := w.heap.size + 1 + 1) (by simp))
  have HC := Lib.hid (sequenceOf_any B0 B1 t0 m1 t1 m2 d0 d1 _ (hR.ex e0) (hX.ex e0) hs hx (hE.ex e0))
  have HE0 := Lib.hid e0
  have HB2 := Lib.hid b2
  have k0 := b0.cell 0
  have k1 := b1.cell 0
  have k1' := b1.cell 1
  have hlw := e0.size
  have hlb := b2.lt
  clear hR hX hs hx hE b0 b1 b2 e0
  go_enter Tryd.func19, Tryd.ntmps19
  go_wp2_with fail
  generalize (((w.alloc (.cells #[.slice B0 t0.length d0] 33)).alloc (.cells #[.int .i64 m1, .slice B1 t1.length d1] 30)).alloc (.cells #[.int .i64 0, .slice none 0 0] 30)) = W0 at *
  refine HC.out.mono ?_
  rintro e W2 h
  clear HC
  rcases h with ⟨M, K, Q, rfl, rfl, hF, hS, hg, hz, v, rfl, A1, n1, A2, n2, mid, rfl, he2, hm1, hm2, ho1, ho2⟩ | ⟨hz, rfl, he2⟩
  · have HQ := Lib.hid (inn_yes hz)
    have HL : Hid ((rdL t1 K).length = t0.length) := Lib.hid (rdL_len.trans hF.len)
    have b9 := Has.new W2 74 #[.slice B0 t0.length d0, .int .i64 (K : Int), .slice A1 t0.length n1, .int .i64 (M : Int), .slice B1 t1.length d1, .int .i64 (Q : Int), .slice A2 t0.length n2]
    have e1 := b9.cell 1
    have e2 := b9.cell 2
    have hb5 := (HB2.out.ex he2).alloc (.cells #[.slice B0 t0.length d0, .int .i64 (K : Int), .slice A1 t0.length n1, .int .i64 (M : Int), .slice B1 t1.length d1, .int .i64 (Q : Int), .slice A2 t0.length n2] 74)
    have HB5 := Lib.hid hb5
    have c4 := hb5.cell 0
    have c4' := hb5.cell 1
    have f4 := hb5.free 0
    have f4' := hb5.free 1
    have hb2 : w.heap.size + 1 + 1 < W2.heap.size := Nat.lt_of_lt_of_le hlb he2.size
    have HE9 := Lib.hid ((HE0.out.trans he2).alloc (.cells #[.slice B0 t0.length d0, .int .i64 (K : Int), .slice A1 t0.length n1, .int .i64 (M : Int), .slice B1 t1.length d1, .int .i64 (Q : Int), .slice A2 t0.length n2] 74))
    have HO := Lib.hid (ho1.ex (Ex.new W2 (.cells #[.slice B0 t0.length d0, .int .i64 (K : Int), .slice A1 t0.length n1, .int .i64 (M : Int), .slice B1 t1.length d1, .int .i64 (Q : Int), .slice A2 t0.length n2] 74)))
    clear hF hS hg hz he2 ho1 ho2 b9 hb5
    go_upto_region 2 with fail
    generalize W2.alloc (.cells #[.slice B0 t0.length d0, .int .i64 (K : Int), .slice A1 t0.length n1, .int .i64 (M : Int), .slice B1 t1.length d1, .int .i64 (Q : Int), .slice A2 t0.length n2] 74) = W9 at *
    have hs9 : mid ≤ W9.heap.size := HO.out.le
    go_wp2_with fail
    go_wp2_with fail
    have H4 := HB5.out.put2 (u := .int .i64 (K : Int)) (v := .slice A1 t0.length n1)
    have c4 := H4.cell 0
    have c4' := H4.cell 1
    refine bodyPost_ret (v := .tuple #[.agg #[.int .i64 (K : Int), .slice A1 t0.length n1], .int .i64 0]) (by simp [results, Tryd.results19, go_sem, c4, c4']) rfl (SqS.of HQ.out (by rw [HL.out]) ((HE9.out.setCell (by show w.heap.size ≤ w.heap.size + 1 + 1; omega) _).setCell (by show w.heap.size ≤ w.heap.size + 1 + 1; omega) _) (((HO.out.above (Only.set _ _ _ _) (by omega)).above (Only.set _ _ _ _) (by omega)).mono (by omega) (by simpa using hs9) (Nat.le_refl _)))
  · obtain ⟨z, hzz⟩ : ∃ z, sqC t0 m1 t1 m2 = z := ⟨_, rfl⟩
    have HQ := Lib.hid (inn_no hzz (hzz ▸ hz))
    rw [hzz]
    have b9 := Has.new W2 74 #[.slice none 0 0, .int .i64 0, .slice none 0 0, .int .i64 0, .slice none 0 0, .int .i64 0, .slice none 0 0]
    have e1 := b9.cell 1
    have e2 := b9.cell 2
    have hb5 := (HB2.out.ex he2).alloc (.cells #[.slice none 0 0, .int .i64 0, .slice none 0 0, .int .i64 0, .slice none 0 0, .int .i64 0, .slice none 0 0] 74)
    have HB5 := Lib.hid hb5
    have c4 := hb5.cell 0
    have c4' := hb5.cell 1
    have f4 := hb5.free 0
    have f4' := hb5.free 1
    have hb2 : w.heap.size + 1 + 1 < W2.heap.size := Nat.lt_of_lt_of_le hlb he2.size
    have HE9 := Lib.hid ((HE0.out.trans he2).alloc (.cells #[.slice none 0 0, .int .i64 0, .slice none 0 0, .int .i64 0, .slice none 0 0, .int .i64 0, .slice none 0 0] 74))
    clear hzz hz he2 b9 hb5
    go_upto_region 2 with fail
    generalize W2.alloc (.cells #[.slice none 0 0, .int .i64 0, .slice none 0 0, .int .i64 0, .slice none 0 0, .int .i64 0, .slice none 0 0] 74) = W9 at *
    go_wp2_with fail
    go_wp2_with fail
    have H4 := HB5.out.put2 (u := .int .i64 0) (v := .slice none 0 0)
    have c4 := H4.cell 0
    have c4' := H4.cell 1
    refine bodyPost_ret (v := .tuple #[.agg #[.int .i64 0, .slice none 0 0], .int .i64 z]) (by simp [results, Tryd.results19, go_sem, c4, c4']) rfl (SqS.err HQ.out rfl ((HE9.out.setCell (by show w.heap.size ≤ w.heap.size + 1 + 1; omega) _).setCell (by show w.heap.size ≤ w.heap.size + 1 + 1; omega) _))

set_option maxRecDepth 100000 in
set_option maxHeartbeats 4000000 in
theorem implOuterModule_ex (t0 : List (List Int)) (m1 : Int) (t1 : List Int) (m2 : Int) : ∀ (B0 : Option Addr) (d0 : Nat) (B1 : Option Addr) (d1 : Nat) (W : World), RwsW W B0 t0 → IntsW W B1 t1 → SmallT t0 → t1.length ≤ 1048576 → ErrD W →
    Calls Tryd.prog 26 #[.agg #[.slice B0 t0.length d0], .agg #[.int .i64 m1, .slice B1 t1.length d1], .int .i64 m2] W (SqS (qOuterModule0 t0 m1 t1 m2) (yOuterModule0 t0 m1 t1 m2) (qOuterModule1 t0 m1 t1 m2) W) := by
  intro B0 d0 B1 d1 w hR hX hs hx hE
  have e0 : Ex w (((w.alloc (.cells #[.slice B0 t0.length d0] 33)).alloc (.cells #[.int .i64 m1, .slice B1 t1.length d1] 30)).alloc (.cells #[.int .i64 0, .slice none 0 0] 30)) := (((Ex.refl w).alloc _).alloc _).alloc _
  have b0 : Has (((w.alloc (.cells #[.slice B0 t0.length d0] 33)).alloc (.cells #[.int .i64 m1, .slice B1 t1.length d1] 30)).alloc (.cells #[.int .i64 0, .slice none 0 0] 30)) (w.heap.size) 33 #[.slice B0 t0.length d0] := (((Has.newAt (w := w) (e := 33) (cs := #[.slice B0 t0.length d0]) (k := w.heap.size) (by simp)).alloc _).alloc _)
  have b1 : Has (((w.alloc (.cells #[.slice B0 t0.length d0] 33)).alloc (.cells #[.int .i64 m1, .slice B1 t1.length d1] 30)).alloc (.cells #[.int .i64 0, .slice none 0 0] 30)) (w.heap.size + 1) 30 #[.int .i64 m1, .slice B1 t1.length d1] := ((Has.newAt (w := (w.alloc (.cells #[.slice B0 t0.length d0] 33))) (e := 30) (cs := #[.int .i64 m1, .slice B1 t1.length d1]) (k := w.heap.size + 1) (by simp)).alloc _)
  have b2 : Has (((w.alloc (.cells #[.slice B0 t0.length d0] 33)).alloc (.cells #[.int .i64 m1, .slice B1 t1.length d1] 30)).alloc (.cells #[.int .i64 0, .slice none 0 0] 30)) (w.heap.size + 1 + 1) 30 #[.int .i64 0, .slice none 0 0] := (Has.newAt (w := ((w.alloc (.cells #[.slice B0 t0.length d0] 33)).alloc (.cells #[.int .i64 m1, .slice B1 t1.length d1] 30))) (e := 30) (cs := #[.int .i64 0, .slice none 0 0]) (k := w.heap.size + 1 + 1) (by simp))
  have HC := Lib.hid (sequenceOf_any B0 B1 t0 m1 t1 m2 d0 d1 _ (hR.ex e0) (hX.ex e0) hs hx (hE.ex e0))
  have HE0 := Lib.hid e0
  have HB2 := Lib.hid b2
  have k0 := b0.cell 0
  have k1 := b1.cell 0
  have k1' := b1.cell 1
  have hlw := e0.size
  have hlb := b2.lt
  clear hR hX hs hx hE b0 b1 b2 e0
  go_enter Tryd.func26, Tryd.ntmps26
  go_wp2_with fail
  generalize (((w.alloc (.cells #[.slice B0 t0.length d0] 33)).alloc (.cells #[.int .i64 m1, .slice B1 t1.length d1] 30)).alloc (.cells #[.int .i64 0, .slice none 0 0] 30)) = W0 at *
  refine HC.out.mono ?_
  rintro e W2 h
  clear HC
  rcases h with ⟨M, K, Q, rfl, rfl, hF, hS, hg, hz, v, rfl, A1, n1, A2, n2, mid, rfl, he2, hm1, hm2, ho1, ho2⟩ | ⟨hz, rfl, he2⟩
  · have HQ := Lib.hid (out_yes hz hS.div)
    have HL : Hid ((rdL t1 Q).length = t0.length) := Lib.hid (rdL_len.trans hF.len)
    have b9 := Has.new W2 74 #[.slice B0 t0.length d0, .int .i64 (K : Int), .slice A1 t0.length n1, .int .i64 (M : Int), .slice B1 t1.length d1, .int .i64 (Q : Int), .slice A2 t0.length n2]
    have e1 := b9.cell 5
    have e2 := b9.cell 6
    have hb5 := (HB2.out.ex he2).alloc (.cells #[.slice B0 t0.length d0, .int .i64 (K : Int), .slice A1 t0.length n1, .int .i64 (M : Int), .slice B1 t1.length d1, .int .i64 (Q : Int), .slice A2 t0.length n2] 74)
    have HB5 := Lib.hid hb5
    have c4 := hb5.cell 0
    have c4' := hb5.cell 1
    have f4 := hb5.free 0
    have f4' := hb5.free 1
    have hb2 : w.heap.size + 1 + 1 < W2.heap.size := Nat.lt_of_lt_of_le hlb he2.size
    have HE9 := Lib.hid ((HE0.out.trans he2).alloc (.cells #[.slice B0 t0.length d0, .int .i64 (K : Int), .slice A1 t0.length n1, .int .i64 (M : Int), .slice B1 t1.length d1, .int .i64 (Q : Int), .slice A2 t0.length n2] 74))
    have HO := Lib.hid (ho2.ex (Ex.new W2 (.cells #[.slice B0 t0.length d0, .int .i64 (K : Int), .slice A1 t0.length n1, .int .i64 (M : Int), .slice B1 t1.length d1, .int .i64 (Q : Int), .slice A2 t0.length n2] 74)))
    clear hF hS hg hz he2 ho1 ho2 b9 hb5
    go_upto_region 2 with fail
    generalize W2.alloc (.cells #[.slice B0 t0.length d0, .int .i64 (K : Int), .slice A1 t0.length n1, .int .i64 (M : Int), .slice B1 t1.length d1, .int .i64 (Q : Int), .slice A2 t0.length n2] 74) = W9 at *
    have hs9 : W2.heap.size ≤ W9.heap.size := HO.out.le
    go_wp2_with fail
    go_wp2_with fail
    have H4 := HB5.out.put2 (u := .int .i64 (Q : Int)) (v := .slice A2 t0.length n2)
    have c4 := H4.cell 0
    have c4' := H4.cell 1
    refine bodyPost_ret (v := .tuple #[.agg #[.int .i64 (Q : Int), .slice A2 t0.length n2], .int .i64 0]) (by simp [results, Tryd.results26, go_sem, c4, c4']) rfl (SqS.of HQ.out (by rw [HL.out]) ((HE9.out.setCell (by show w.heap.size ≤ w.heap.size + 1 + 1; omega) _).setCell (by show w.heap.size ≤ w.heap.size + 1 + 1; omega) _) (((HO.out.above (Only.set _ _ _ _) (by omega)).above (Only.set _ _ _ _) (by omega)).mono (by omega) (by simpa using hs9) (Nat.le_refl _)))
  · obtain ⟨z, hzz⟩ : ∃ z, sqC t0 m1 t1 m2 = z := ⟨_, rfl⟩
    have HQ := Lib.hid (out_no hzz (hzz ▸ hz))
    rw [hzz]
    have b9 := Has.new W2 74 #[.slice none 0 0, .int .i64 0, .slice none 0 0, .int .i64 0, .slice none 0 0, .int .i64 0, .slice none 0 0]
    have e1 := b9.cell 5
    have e2 := b9.cell 6
    have hb5 := (HB2.out.ex he2).alloc (.cells #[.slice none 0 0, .int .i64 0, .slice none 0 0, .int .i64 0, .slice none 0 0, .int .i64 0, .slice none 0 0] 74)
    have HB5 := Lib.hid hb5
    have c4 := hb5.cell 0
    have c4' := hb5.cell 1
    have f4 := hb5.free 0
    have f4' := hb5.free 1
    have hb2 : w.heap.size + 1 + 1 < W2.heap.size := Nat.lt_of_lt_of_le hlb he2.size
    have HE9 := Lib.hid ((HE0.out.trans he2).alloc (.cells #[.slice none 0 0, .int .i64 0, .slice none 0 0, .int .i64 0, .slice none 0 0, .int .i64 0, .slice none 0 0] 74))
    clear hzz hz he2 b9 hb5
    go_upto_region 2 with fail
    generalize W2.alloc (.cells #[.slice none 0 0, .int .i64 0, .slice none 0 0, .int .i64 0, .slice none 0 0, .int .i64 0, .slice none 0 0] 74) = W9 at *
    go_wp2_with fail
    go_wp2_with fail
    have H4 := HB5.out.put2 (u := .int .i64 0) (v := .slice none 0 0)
    have c4 := H4.cell 0
    have c4' := H4.cell 1
    refine bodyPost_ret (v := .tuple #[.agg #[.int .i64 0, .slice none 0 0], .int .i64 z]) (by simp [results, Tryd.results26, go_sem, c4, c4']) rfl (SqS.err HQ.out rfl ((HE9.out.setCell (by show w.heap.size ≤ w.heap.size + 1 + 1; omega) _).setCell (by show w.heap.size ≤ w.heap.size + 1 + 1; omega) _))

end Go.Proofs.YtllkaoacfchibaaDoor
