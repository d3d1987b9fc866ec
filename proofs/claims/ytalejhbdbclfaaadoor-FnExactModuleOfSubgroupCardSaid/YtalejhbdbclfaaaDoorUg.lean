/- Chapter 7: inclusions of subgroups, by the program. -/
import Derived.Test.YtalejhbdbclfaaaDoorUe
import Derived.Test.YtalejhbdbclfaaaDoorGw
import Derived.Test.YtalejhbdbclfaaaDoorIsg
namespace Go.Proofs.YtalejhbdbclfaaaDoor
open Go.RowKit Go.Shelf

attribute [local go_sem] Oper.semAt_some

theorem Has.put3 {w : World} {g : Nat} {e : TypeId} {x y z u v t : Value} (h : Has w g e #[x, y, z]) : Has (((w.setCell ⟨g, 0, none⟩ u).setCell ⟨g, 1, none⟩ v).setCell ⟨g, 2, none⟩ t) g e #[u, v, t] := by simpa using ((h.put 0 u).put 1 v).put 2 t

set_option maxHeartbeats 1000000 in
theorem number_any (P A L : Option Addr) (p pc n c c' z : Nat) (t : List (List Int)) (xs : List Int) (w : World) (h : SubX t xs) (hX : IntsW w L xs) (hz : z ∈ elsL xs) :
    Calls Tryd.prog 123 #[.agg #[.slice P p pc, .slice A n c, .slice L xs.length c'], .int .i64 (z : Int)] w fun e w' => e = .returned (.int .i64 (plN xs z : Int)) ∧ Ex w w' := by
  have e0 : Ex w (w.alloc (.cells #[.slice P p pc, .slice A n c, .slice L xs.length c'] 83)) := (Ex.refl w).alloc _
  have b0 : Has (w.alloc (.cells #[.slice P p pc, .slice A n c, .slice L xs.length c'] 83)) (w.heap.size) 83 #[.slice P p pc, .slice A n c, .slice L xs.length c'] := (Has.newAt (w := w) (e := 83) (cs := #[.slice P p pc, .slice A n c, .slice L xs.length c']) (k := w.heap.size) (by simp))
  have HI := Lib.hid (fun W (he : Ex w W) => index_found L xs (z : Int) (plN xs z) c' _ W (hX.ex he).ints (by have := h.len8; omega) (h.pl hz).1 (h.pl hz).2 (fun j hj => h.before hz hj))
  have c0 := b0.cell 2
  have hpl : plN xs z < 8 := by have := (h.pl hz).1; have := h.len8; omega
  obtain ⟨q, hq⟩ : ∃ q, plN xs z = q := ⟨_, rfl⟩
  rw [hq] at HI hpl ⊢
  have HE0 := Lib.hid e0
  clear h hX hz b0 e0 hq
  go_enter Tryd.func123, Tryd.ntmps123
  go_wp2_with fail
  refine (HI.out _ HE0.out).mono ?_
  rintro e w' ⟨rfl, rfl⟩
  go_wp2_with fail
  go_ret
  exact ⟨rfl, HE0.out⟩

set_option maxRecDepth 100000 in
set_option maxHeartbeats 4000000 in
theorem inc1_ex (Bm Bg Bh p pc c c' i j : Nat) (P A L : Option Addr) (t : List (List Int)) (xs : List Int) (w : World) (hM : Has w Bm 83 #[.slice P p pc, .slice A t.length c, .slice L xs.length c']) (hG : Has w Bg 27 #[.slice A t.length c]) (hH : Has w Bh 25 #[.slice L xs.length c'])
    (hR : RwsW w A t) (hX : IntsW w L xs) (h : SubX t xs) (hi : i < xs.length) (hj : j < xs.length) :
    Calls Tryd.prog 122 #[.int .i64 (i : Int), .int .i64 (j : Int), .pointer (some ⟨Bm, 0, none⟩), .pointer (some ⟨Bg, 0, none⟩), .pointer (some ⟨Bh, 0, none⟩)] w fun e w' => e = .returned (.int .i64 (grV t xs i j : Int)) ∧ Ex w w' := by
  obtain ⟨b, o, bb, oo, C, rfl, hQ⟩ := hR.sq h.g
  rcases hX.ints with hX3 | ⟨bx, ox, rfl, hbx, hcx⟩
  · have := h.pos
    rw [hX3] at this
    cases this
  obtain ⟨hx1, hxN⟩ := h.nat hi
  obtain ⟨hy1, hyN⟩ := h.nat hj
  have hmN := h.g.mul_lt hxN hyN
  have hl8 := h.len8
  have hn8 := h.g.n8
  have HNU := Lib.hid (fun W (he : Ex w W) => number_any P (some ⟨b, o, none⟩) (some ⟨bx, ox, none⟩) p pc t.length c c' (mul t (xN xs i) (xN xs j)) t xs W h (hX.ex he) (h.gr_mem hi hj))
  have HF0 := Lib.hid (fun (W : World) (he : Ex w W) => (⟨(hM.ex he).cell 0, (hM.ex he).cell 1, (hM.ex he).cell 2, (hG.ex he).cell 0, (hH.ex he).cell 0, by rw [← hx1]; exact (he.below.cell (p := ⟨bx, ox + i, none⟩) hbx).trans (hcx i hi), by rw [← hy1]; exact (he.below.cell (p := ⟨bx, ox + j, none⟩) hbx).trans (hcx j hj), (hQ.below he.below (Nat.le_refl _)).row_ hxN, by rw [(hQ.below he.below (Nat.le_refl _)).ent_ hxN hyN, h.g.ent hxN hyN]⟩ :
    W.cell? ⟨Bm, 0, none⟩ = some (.slice P p pc) ∧ W.cell? ⟨Bm, 1, none⟩ = some (.slice (some ⟨b, o, none⟩) t.length c) ∧ W.cell? ⟨Bm, 2, none⟩ = some (.slice (some ⟨bx, ox, none⟩) xs.length c') ∧ W.cell? ⟨Bg, 0, none⟩ = some (.slice (some ⟨b, o, none⟩) t.length c) ∧ W.cell? ⟨Bh, 0, none⟩ = some (.slice (some ⟨bx, ox, none⟩) xs.length c') ∧ W.cell? ⟨bx, ox + i, none⟩ = some (.int .i64 (xN xs i : Int)) ∧ W.cell? ⟨bx, ox + j, none⟩ = some (.int .i64 (xN xs j : Int)) ∧ W.cell? ⟨b, o + xN xs i, none⟩ = some (.slice (some ⟨bb (xN xs i), oo (xN xs i), none⟩) t.length (C (xN xs i))) ∧ W.cell? ⟨bb (xN xs i), oo (xN xs i) + xN xs j, none⟩ = some (.int .i64 (mul t (xN xs i) (xN xs j) : Int))))
  have HV : Hid (grV t xs i j = plN xs (mul t (xN xs i) (xN xs j))) := Lib.hid rfl
  obtain ⟨x, hx⟩ : ∃ x, xN xs i = x := ⟨_, rfl⟩
  obtain ⟨y, hy⟩ : ∃ y, xN xs j = y := ⟨_, rfl⟩
  rw [hx, hy] at HV HNU hmN
  rw [hx] at hxN
  rw [hy] at hyN
  simp only [hx, hy] at HF0
  obtain ⟨m, hm⟩ : ∃ m, mul t x y = m := ⟨_, rfl⟩
  rw [hm] at HV HNU hmN
  simp only [hm] at HF0
  obtain ⟨q, hq⟩ : ∃ q, plN xs m = q := ⟨_, rfl⟩
  rw [hq] at HV HNU
  rw [HV.out]
  have hm8 : m < 8 := by omega
  have hx8 : x < 8 := by omega
  have hy8 : y < 8 := by omega
  clear hM hG hH hR hX h hQ hcx hx1 hy1 hx hy hm hq HV
  go_enter Tryd.func122, Tryd.ntmps122
  go_wp2_with fail
  refine wp_region_quiet (C := fun w' => Ex w w') (by kernel_rfl) (by kernel_rfl) (Ex.refl w).drew ?_
  refine BigFrame.wpQuiet_want (by rfl) fun K hK => ⟨?_, fun w' hC => ?_, hK _ ?_⟩
  rotate_left
  · (obtain ⟨q0, q1, q2, q3, q4, q5, q6, q7, q8⟩ := HF0.out _ hC; go_simp; first | done | with_reducible rfl | exact ⟨rfl, hC⟩)
  clear hK K
  simp only [Act.put, List.setIfInBounds_toArray, List.set_cons_zero, List.set_cons_succ]
  refine BigFrame.wpQuiet_want (by rfl) fun K hK => ⟨?_, fun w' hC => ?_, hK _ ?_⟩
  rotate_left
  · (obtain ⟨q0, q1, q2, q3, q4, q5, q6, q7, q8⟩ := HF0.out _ hC; go_simp; first | done | with_reducible rfl | exact ⟨rfl, hC⟩)
  clear hK K
  simp only [Act.put, List.setIfInBounds_toArray, List.set_cons_zero, List.set_cons_succ]
  refine BigFrame.wpQuiet_want (by rfl) fun K hK => ⟨?_, fun w' hC => ?_, hK _ ?_⟩
  rotate_left
  · (obtain ⟨q0, q1, q2, q3, q4, q5, q6, q7, q8⟩ := HF0.out _ hC; go_simp; first | done | with_reducible rfl | exact ⟨rfl, hC⟩)
  clear hK K
  simp only [Act.put, List.setIfInBounds_toArray, List.set_cons_zero, List.set_cons_succ]
  refine BigFrame.wpQuiet_want (by rfl) fun K hK => ⟨?_, fun w' hC => ?_, hK _ ?_⟩
  rotate_left
  · (obtain ⟨q0, q1, q2, q3, q4, q5, q6, q7, q8⟩ := HF0.out _ hC; go_simp; first | done | with_reducible rfl | exact ⟨rfl, hC⟩)
  clear hK K
  simp only [Act.put, List.setIfInBounds_toArray, List.set_cons_zero, List.set_cons_succ]
  refine BigFrame.wpQuiet_want (by rfl) fun K hK => ⟨?_, fun w' hC => ?_, hK _ ?_⟩
  rotate_left
  · (obtain ⟨q0, q1, q2, q3, q4, q5, q6, q7, q8⟩ := HF0.out _ hC; go_simp; first | done | with_reducible rfl | exact ⟨rfl, hC⟩)
  clear hK K
  simp only [Act.put, List.setIfInBounds_toArray, List.set_cons_zero, List.set_cons_succ]
  refine BigFrame.wpQuiet_want (by rfl) fun K hK => ⟨?_, fun w' hC => ?_, hK _ ?_⟩
  rotate_left
  · (obtain ⟨q0, q1, q2, q3, q4, q5, q6, q7, q8⟩ := HF0.out _ hC; go_simp; first | done | with_reducible rfl | exact ⟨rfl, hC⟩)
  clear hK K
  simp only [Act.put, List.setIfInBounds_toArray, List.set_cons_zero, List.set_cons_succ]
  refine BigFrame.wpQuiet_want (by rfl) fun K hK => ⟨?_, fun w' hC => ?_, hK _ ?_⟩
  rotate_left
  · (obtain ⟨q0, q1, q2, q3, q4, q5, q6, q7, q8⟩ := HF0.out _ hC; go_simp; first | done | with_reducible rfl | exact ⟨rfl, hC⟩)
  clear hK K
  simp only [Act.put, List.setIfInBounds_toArray, List.set_cons_zero, List.set_cons_succ]
  refine BigFrame.wpQuiet_want (by rfl) fun K hK => ⟨?_, fun w' hC => ?_, hK _ ?_⟩
  rotate_left
  · (obtain ⟨q0, q1, q2, q3, q4, q5, q6, q7, q8⟩ := HF0.out _ hC; go_simp; first | done | with_reducible rfl | exact ⟨rfl, hC⟩)
  clear hK K
  simp only [Act.put, List.setIfInBounds_toArray, List.set_cons_zero, List.set_cons_succ]
  refine BigFrame.wpQuiet_want (by rfl) fun K hK => ⟨?_, fun w' hC => ?_, hK _ ?_⟩
  rotate_left
  · (obtain ⟨q0, q1, q2, q3, q4, q5, q6, q7, q8⟩ := HF0.out _ hC; go_simp; first | done | with_reducible rfl | exact ⟨rfl, hC⟩)
  clear hK K
  simp only [Act.put, List.setIfInBounds_toArray, List.set_cons_zero, List.set_cons_succ]
  refine BigFrame.wpQuiet_want (by rfl) fun K hK => ⟨?_, fun w' hC => ?_, hK _ ?_⟩
  rotate_left
  · (obtain ⟨q0, q1, q2, q3, q4, q5, q6, q7, q8⟩ := HF0.out _ hC; go_simp; first | done | with_reducible rfl | exact ⟨rfl, hC⟩)
  clear hK K
  simp only [Act.put, List.setIfInBounds_toArray, List.set_cons_zero, List.set_cons_succ]
  refine BigFrame.wpQuiet_want (by rfl) fun K hK => ⟨?_, fun w' hC => ?_, hK _ ?_⟩
  rotate_left
  · (obtain ⟨q0, q1, q2, q3, q4, q5, q6, q7, q8⟩ := HF0.out _ hC; go_simp; first | done | with_reducible rfl | exact ⟨rfl, hC⟩)
  clear hK K
  simp only [Act.put, List.setIfInBounds_toArray, List.set_cons_zero, List.set_cons_succ]
  refine BigFrame.wpQuiet_want (by rfl) fun K hK => ⟨?_, fun w' hC => ?_, hK _ ?_⟩
  rotate_left
  · (obtain ⟨q0, q1, q2, q3, q4, q5, q6, q7, q8⟩ := HF0.out _ hC; go_simp; first | done | with_reducible rfl | exact ⟨rfl, hC⟩)
  clear hK K
  simp only [Act.put, List.setIfInBounds_toArray, List.set_cons_zero, List.set_cons_succ]
  refine BigFrame.wpQuiet_want (by rfl) fun K hK => ⟨?_, fun w' hC => ?_, hK _ ?_⟩
  rotate_left
  · (obtain ⟨q0, q1, q2, q3, q4, q5, q6, q7, q8⟩ := HF0.out _ hC; go_simp; first | done | with_reducible rfl | exact ⟨rfl, hC⟩)
  clear hK K
  simp only [Act.put, List.setIfInBounds_toArray, List.set_cons_zero, List.set_cons_succ]
  refine BigFrame.wpQuiet_want (by rfl) fun K hK => ⟨?_, fun w' hC => ?_, hK _ ?_⟩
  rotate_left
  · (obtain ⟨q0, q1, q2, q3, q4, q5, q6, q7, q8⟩ := HF0.out _ hC; go_simp; first | done | with_reducible rfl | exact ⟨rfl, hC⟩)
  clear hK K
  simp only [Act.put, List.setIfInBounds_toArray, List.set_cons_zero, List.set_cons_succ]
  refine BigFrame.wpQuiet_want (by rfl) fun K hK => ⟨?_, fun w' hC => ?_, hK _ ?_⟩
  rotate_left
  · (obtain ⟨q0, q1, q2, q3, q4, q5, q6, q7, q8⟩ := HF0.out _ hC; go_simp; first | done | with_reducible rfl | exact ⟨rfl, hC⟩)
  clear hK K
  simp only [Act.put, List.setIfInBounds_toArray, List.set_cons_zero, List.set_cons_succ]
  refine BigFrame.wpQuiet_want (by rfl) fun K hK => ⟨.int .i64 (q : Int), fun w' hC => (by go_simp; refine ((HNU.out w' hC)).mono ?_; rintro e w2 ⟨rfl, hb⟩; exact ⟨rfl, hC.trans hb⟩), hK _ ?_⟩
  clear hK K
  simp only [Act.put, List.setIfInBounds_toArray, List.set_cons_zero, List.set_cons_succ]
  refine BigFrame.wpQuiet_want (by rfl) fun K hK => ⟨?_, fun w' hC => ?_, hK _ ?_⟩
  rotate_left
  · (obtain ⟨q0, q1, q2, q3, q4, q5, q6, q7, q8⟩ := HF0.out _ hC; go_simp; first | done | with_reducible rfl | exact ⟨rfl, hC⟩)
  clear hK K
  simp only [Act.put, List.setIfInBounds_toArray, List.set_cons_zero, List.set_cons_succ]
  refine wpQuiet_nil ?_
  intro w2 hC2
  have HC2 := Lib.hid hC2
  clear hC2
  go_wp2_with fail
  go_ret
  exact ⟨rfl, HC2.out⟩

set_option maxRecDepth 100000 in
set_option maxHeartbeats 4000000 in
theorem inclusionOf_any (A L : Option Addr) (t : List (List Int)) (xs : List Int) (c c' : Nat) (w : World) (hR : RwsW w A t) (hX : IntsW w L xs) (h : SubX t xs) :
    Calls Tryd.prog 66 #[.agg #[.slice A t.length c], .slice L xs.length c'] w fun e w' => ∃ G R, e = .returned (.agg #[.slice (some ⟨R, 0, none⟩) xs.length xs.length, .slice A t.length c, .slice L xs.length c']) ∧ Ex w w' ∧ w.heap.size ≤ G ∧ w.heap.size ≤ R ∧ Has w' G 2 (tab (xs.length * xs.length) fun p => .int .i64 (grV t xs (p / xs.length) (p % xs.length) : Int)) ∧ Has w' R 25 (rowsV G xs.length) := by
  have e0 : Ex w ((((w.alloc (.cells #[.slice A t.length c] 27)).alloc (.cells #[.slice L xs.length c'] 25)).alloc (.cells #[.slice none 0 0, .slice none 0 0, .slice none 0 0] 83)).alloc (.cells #[.slice none 0 0, .slice A t.length c, .slice L xs.length c'] 83)) := ((((Ex.refl w).alloc _).alloc _).alloc _).alloc _
  have b0 : Has ((((w.alloc (.cells #[.slice A t.length c] 27)).alloc (.cells #[.slice L xs.length c'] 25)).alloc (.cells #[.slice none 0 0, .slice none 0 0, .slice none 0 0] 83)).alloc (.cells #[.slice none 0 0, .slice A t.length c, .slice L xs.length c'] 83)) (w.heap.size) 27 #[.slice A t.length c] := ((((Has.newAt (w := w) (e := 27) (cs := #[.slice A t.length c]) (k := w.heap.size) (by simp)).alloc _).alloc _).alloc _)
  have b1 : Has ((((w.alloc (.cells #[.slice A t.length c] 27)).alloc (.cells #[.slice L xs.length c'] 25)).alloc (.cells #[.slice none 0 0, .slice none 0 0, .slice none 0 0] 83)).alloc (.cells #[.slice none 0 0, .slice A t.length c, .slice L xs.length c'] 83)) (w.heap.size + 1) 25 #[.slice L xs.length c'] := (((Has.newAt (w := (w.alloc (.cells #[.slice A t.length c] 27))) (e := 25) (cs := #[.slice L xs.length c']) (k := w.heap.size + 1) (by simp)).alloc _).alloc _)
  have b2 : Has ((((w.alloc (.cells #[.slice A t.length c] 27)).alloc (.cells #[.slice L xs.length c'] 25)).alloc (.cells #[.slice none 0 0, .slice none 0 0, .slice none 0 0] 83)).alloc (.cells #[.slice none 0 0, .slice A t.length c, .slice L xs.length c'] 83)) (w.heap.size + 1 + 1) 83 #[.slice none 0 0, .slice none 0 0, .slice none 0 0] := ((Has.newAt (w := ((w.alloc (.cells #[.slice A t.length c] 27)).alloc (.cells #[.slice L xs.length c'] 25))) (e := 83) (cs := #[.slice none 0 0, .slice none 0 0, .slice none 0 0]) (k := w.heap.size + 1 + 1) (by simp)).alloc _)
  have b3 : Has ((((w.alloc (.cells #[.slice A t.length c] 27)).alloc (.cells #[.slice L xs.length c'] 25)).alloc (.cells #[.slice none 0 0, .slice none 0 0, .slice none 0 0] 83)).alloc (.cells #[.slice none 0 0, .slice A t.length c, .slice L xs.length c'] 83)) (w.heap.size + 1 + 1 + 1) 83 #[.slice none 0 0, .slice A t.length c, .slice L xs.length c'] := (Has.newAt (w := (((w.alloc (.cells #[.slice A t.length c] 27)).alloc (.cells #[.slice L xs.length c'] 25)).alloc (.cells #[.slice none 0 0, .slice none 0 0, .slice none 0 0] 83))) (e := 83) (cs := #[.slice none 0 0, .slice A t.length c, .slice L xs.length c']) (k := w.heap.size + 1 + 1 + 1) (by simp))
  have hmf : ∀ (fn : Fn) (first cap : Array Value) (w : World), (Instr.makeFunc fn first cap).run Tryd.prog w = .ok (.func fn first cap) w := fun _ _ _ _ => rfl
  have hl8 := h.len8
  have HGW := Lib.hid (groupWith_has xs.length 122 #[.pointer (some ⟨w.heap.size + 1 + 1 + 1, 0, none⟩), .pointer (some ⟨w.heap.size, 0, none⟩), .pointer (some ⟨w.heap.size + 1, 0, none⟩)] (fun i j => (grV t xs i j : Int)) ((((w.alloc (.cells #[.slice A t.length c] 27)).alloc (.cells #[.slice L xs.length c'] 25)).alloc (.cells #[.slice none 0 0, .slice none 0 0, .slice none 0 0] 83)).alloc (.cells #[.slice none 0 0, .slice A t.length c, .slice L xs.length c'] 83)) (by omega) (enters_of Tryd.func122 (by kernel_rfl) rfl)
    (fun W' he i j hi hj => inc1_ex (w.heap.size + 1 + 1 + 1) w.heap.size (w.heap.size + 1) 0 0 c c' i j none A L t xs W' (b3.ex he) (b0.ex he) (b1.ex he) (hR.ex (e0.trans he)) (hX.ex (e0.trans he)) h hi hj))
  have HE0 := Lib.hid e0
  have HB2 := Lib.hid b2
  have HB3 := Lib.hid b3
  have c1 := b1.cell 0
  have c0 := b0.cell 0
  clear hR hX h b0 b1 b2 b3 e0
  obtain ⟨K, hK⟩ : ∃ K, xs.length = K := ⟨_, rfl⟩
  rw [hK] at HGW HB3 HE0 HB2 c1 c0 hl8 ⊢
  go_enter Tryd.func66, Tryd.ntmps66
  go_wp2_with fail
  generalize ((((w.alloc (.cells #[.slice A t.length c] 27)).alloc (.cells #[.slice L K c'] 25)).alloc (.cells #[.slice none 0 0, .slice none 0 0, .slice none 0 0] 83)).alloc (.cells #[.slice none 0 0, .slice A t.length c, .slice L K c'] 83)) = W0 at *
  refine HGW.out.mono ?_
  rintro e W1 ⟨G, R, rfl, he1, hlG, hlR, hG, hR⟩
  have HE1 := Lib.hid (HE0.out.trans he1)
  have HB21 := Lib.hid (HB2.out.ex he1)
  have HB31 := Lib.hid (HB3.out.ex he1)
  have hlw := HE0.out.size
  have hb3 := HB3.out.lt
  have HG := Lib.hid hG
  have HR := Lib.hid hR
  have m0 := HB31.out.cell 0
  have m1 := HB31.out.cell 1
  have m2 := HB31.out.cell 2
  have f0 := HB31.out.free 0
  have r0 := HB21.out.cell 0
  have r1 := HB21.out.cell 1
  have r2 := HB21.out.cell 2
  have g0 := HB21.out.free 0
  have g1 := HB21.out.free 1
  have g2 := HB21.out.free 2
  clear he1 hG hR HGW c0 c1
  go_wp2_with fail
  have H4 := Has.put3 (u := .slice (some ⟨R, 0, none⟩) K K) (v := .slice A t.length c) (t := .slice L K c') (HB21.out.far (p := ⟨w.heap.size + 1 + 1 + 1, 0, none⟩) (by show w.heap.size + 1 + 1 ≠ w.heap.size + 1 + 1 + 1; omega) (.slice (some ⟨R, 0, none⟩) K K))
  have c4 := H4.cell 0
  have c4' := H4.cell 1
  have c4'' := H4.cell 2
  exact bodyPost_ret (v := .agg #[.slice (some ⟨R, 0, none⟩) K K, .slice A t.length c, .slice L K c']) (by simp [results, Tryd.results66, go_sem, c4, c4', c4'']) rfl ⟨G, R, rfl, (Ex.setCell (p := ⟨w.heap.size + 1 + 1, 2, none⟩) (Ex.setCell (p := ⟨w.heap.size + 1 + 1, 1, none⟩) (Ex.setCell (p := ⟨w.heap.size + 1 + 1, 0, none⟩) (Ex.setCell (p := ⟨w.heap.size + 1 + 1 + 1, 0, none⟩) HE1.out (by show w.heap.size ≤ w.heap.size + 1 + 1 + 1; omega) _) (by show w.heap.size ≤ w.heap.size + 1 + 1; omega) _) (by show w.heap.size ≤ w.heap.size + 1 + 1; omega) _) (by show w.heap.size ≤ w.heap.size + 1 + 1; omega) _), by omega, by omega, (Has.far (p := ⟨w.heap.size + 1 + 1, 2, none⟩) (Has.far (p := ⟨w.heap.size + 1 + 1, 1, none⟩) (Has.far (p := ⟨w.heap.size + 1 + 1, 0, none⟩) (Has.far (p := ⟨w.heap.size + 1 + 1 + 1, 0, none⟩) HG.out (by show G ≠ w.heap.size + 1 + 1 + 1; omega) _) (by show G ≠ w.heap.size + 1 + 1; omega) _) (by show G ≠ w.heap.size + 1 + 1; omega) _) (by show G ≠ w.heap.size + 1 + 1; omega) _), (Has.far (p := ⟨w.heap.size + 1 + 1, 2, none⟩) (Has.far (p := ⟨w.heap.size + 1 + 1, 1, none⟩) (Has.far (p := ⟨w.heap.size + 1 + 1, 0, none⟩) (Has.far (p := ⟨w.heap.size + 1 + 1 + 1, 0, none⟩) HR.out (by show R ≠ w.heap.size + 1 + 1 + 1; omega) _) (by show R ≠ w.heap.size + 1 + 1; omega) _) (by show R ≠ w.heap.size + 1 + 1; omega) _) (by show R ≠ w.heap.size + 1 + 1; omega) _)⟩

end Go.Proofs.YtalejhbdbclfaaaDoor
