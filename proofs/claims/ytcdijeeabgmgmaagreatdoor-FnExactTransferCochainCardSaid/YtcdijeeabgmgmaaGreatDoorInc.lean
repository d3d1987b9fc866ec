/- Ug Uh Um in one text. -/
import Derived.Test.YtcdijeeabgmgmaaGreatDoorSub
import Derived.Test.YtcdijeeabgmgmaaGreatDoorGw
import Derived.Test.YtcdijeeabgmgmaaGreatDoorIsg
/- Chapter 7: inclusions of subgroups, by the program. -/
namespace Go.Proofs.YtcdijeeabgmgmaaGreatDoor
open Go.RowKit Go.Shelf

attribute [local go_sem] Oper.semAt_some

theorem Has.put3 {w : World} {g : Nat} {e : TypeId} {x y z u v t : Value} (h : Has w g e #[x, y, z]) : Has (((w.setCell ⟨g, 0, none⟩ u).setCell ⟨g, 1, none⟩ v).setCell ⟨g, 2, none⟩ t) g e #[u, v, t] := by simpa using ((h.put 0 u).put 1 v).put 2 t

set_option maxHeartbeats 1000000 in
theorem number_any (P A L : Option Addr) (p pc n c c' z : Nat) (t : List (List Int)) (xs : List Int) (w : World) (h : SubX t xs) (hX : IntsW w L xs) (hz : z ∈ elsL xs) :
    Calls Tryz.prog 90 #[.agg #[.slice P p pc, .slice A n c, .slice L xs.length c'], .int .i64 (z : Int)] w fun e w' => e = .returned (.int .i64 (plN xs z : Int)) ∧ Ex w w' := by
  have e0 : Ex w (w.alloc (.cells #[.slice P p pc, .slice A n c, .slice L xs.length c'] 90)) := (Ex.refl w).alloc _
  have b0 : Has (w.alloc (.cells #[.slice P p pc, .slice A n c, .slice L xs.length c'] 90)) (w.heap.size) 90 #[.slice P p pc, .slice A n c, .slice L xs.length c'] := (Has.newAt (w := w) (e := 90) (cs := #[.slice P p pc, .slice A n c, .slice L xs.length c']) (k := w.heap.size) (by simp))
  have HI := Lib.hid (fun W (he : Ex w W) => index_found L xs (z : Int) (plN xs z) c' _ W (hX.ex he).ints (by have := h.len8; omega) (h.pl hz).1 (h.pl hz).2 (fun j hj => h.before hz hj))
  have c0 := b0.cell 2
  have hpl : plN xs z < 8 := by have := (h.pl hz).1; have := h.len8; omega
  obtain ⟨q, hq⟩ : ∃ q, plN xs z = q := ⟨_, rfl⟩
  rw [hq] at HI hpl ⊢
  have HE0 := Lib.hid e0
  clear h hX hz b0 e0 hq
  go_enter Tryz.func90, Tryz.ntmps90
  go_wp2_with fail
  refine (HI.out _ HE0.out).mono ?_
  rintro e w' ⟨rfl, rfl⟩
  go_wp2_with fail
  go_ret
  exact ⟨rfl, HE0.out⟩

set_option maxRecDepth 100000 in
set_option maxHeartbeats 4000000 in
theorem inc1_ex (Bm Bg Bh p pc c c' i j : Nat) (P A L : Option Addr) (t : List (List Int)) (xs : List Int) (w : World) (hM : Has w Bm 90 #[.slice P p pc, .slice A t.length c, .slice L xs.length c']) (hG : Has w Bg 32 #[.slice A t.length c]) (hH : Has w Bh 25 #[.slice L xs.length c'])
    (hR : RwsW w A t) (hX : IntsW w L xs) (h : SubX t xs) (hi : i < xs.length) (hj : j < xs.length) :
    Calls Tryz.prog 89 #[.int .i64 (i : Int), .int .i64 (j : Int), .pointer (some ⟨Bm, 0, none⟩), .pointer (some ⟨Bg, 0, none⟩), .pointer (some ⟨Bh, 0, none⟩)] w fun e w' => e = .returned (.int .i64 (grV t xs i j : Int)) ∧ Ex w w' := by
  obtain ⟨b, o, bb, oo, C, rfl, hQ⟩ := hR.sq h.g
  rcases hX.ints with hX3 | ⟨bx, ox, rfl, hbx, hcx⟩
  · have := h.pos
    rw [hX3] at this
    cases this
  obtain ⟨hx1, hxN⟩ := h.nat hi
  obtain ⟨hy1, hyN⟩ := h.nat hj
  have hmN := h.g.mul_lt hxN hyN
  have hl8 := h.len8
  have hn8 := h.g.n8
  have HNU := Lib.hid (fun W (he : Ex w W) => number_any P (some ⟨b, o, none⟩) (some ⟨bx, ox, none⟩) p pc t.length c c' (mul t (xN xs i) (xN xs j)) t xs W h (hX.ex he) (h.gr_mem hi hj))
  have HF0 := Lib.hid (fun (W : World) (he : Ex w W) => (⟨(hM.ex he).cell 0, (hM.ex he).cell 1, (hM.ex he).cell 2, (hG.ex he).cell 0, (hH.ex he).cell 0, by rw [← hx1]; exact (he.below.cell (p := ⟨bx, ox + i, none⟩) hbx).trans (hcx i hi), by rw [← hy1]; exact (he.below.cell (p := ⟨bx, ox + j, none⟩) hbx).trans (hcx j hj), (hQ.below he.below (Nat.le_refl _)).row_ hxN, by rw [(hQ.below he.below (Nat.le_refl _)).ent_ hxN hyN, h.g.ent hxN hyN]⟩ :
    W.cell? ⟨Bm, 0, none⟩ = some (.slice P p pc) ∧ W.cell? ⟨Bm, 1, none⟩ = some (.slice (some ⟨b, o, none⟩) t.length c) ∧ W.cell? ⟨Bm, 2, none⟩ = some (.slice (some ⟨bx, ox, none⟩) xs.length c') ∧ W.cell? ⟨Bg, 0, none⟩ = some (.slice (some ⟨b, o, none⟩) t.length c) ∧ W.cell? ⟨Bh, 0, none⟩ = some (.slice (some ⟨bx, ox, none⟩) xs.length c') ∧ W.cell? ⟨bx, ox + i, none⟩ = some (.int .i64 (xN xs i : Int)) ∧ W.cell? ⟨bx, ox + j, none⟩ = some (.int .i64 (xN xs j : Int)) ∧ W.cell? ⟨b, o + xN xs i, none⟩ = some (.slice (some ⟨bb (xN xs i), oo (xN xs i), none⟩) t.length (C (xN xs i))) ∧ W.cell? ⟨bb (xN xs i), oo (xN xs i) + xN xs j, none⟩ = some (.int .i64 (mul t (xN xs i) (xN xs j) : Int))))
  have HV : Hid (grV t xs i j = plN xs (mul t (xN xs i) (xN xs j))) := Lib.hid rfl
  obtain ⟨x, hx⟩ : ∃ x, xN xs i = x := ⟨_, rfl⟩
  obtain ⟨y, hy⟩ : ∃ y, xN xs j = y := ⟨_, rfl⟩
  rw [hx, hy] at HV HNU hmN
  rw [hx] at hxN
  rw [hy] at hyN
  simp only [hx, hy] at HF0
  obtain ⟨m, hm⟩ : ∃ m, mul t x y = m := ⟨_, rfl⟩
  rw [hm] at HV HNU hmN
  simp only [hm] at HF0
  obtain ⟨q, hq⟩ : ∃ q, plN xs m = q := ⟨_, rfl⟩
  rw [hq] at HV HNU
  rw [HV.out]
  have hm8 : m < 8 := by omega
  have hx8 : x < 8 := by omega
  have hy8 : y < 8 := by omega
  clear hM hG hH hR hX h hQ hcx hx1 hy1 hx hy hm hq HV
  go_enter Tryz.func89, Tryz.ntmps89
  go_wp2_with fail
  refine wp_region_quiet (C := fun w' => Ex w w') (by kernel_rfl) (by kernel_rfl) (Ex.refl w).drew ?_
  refine BigFrame.wpQuiet_want (by rfl) fun K hK => ⟨?_, fun w' hC => ?_, hK _ ?_⟩
  rotate_left
  · (obtain ⟨q0, q1, q2, q3, q4, q5, q6, q7, q8⟩ := HF0.out _ hC; go_simp; first | done | with_reducible rfl | exact ⟨rfl, hC⟩)
  clear hK K
  simp only [Act.put, List.setIfInBounds_toArray, List.set_cons_zero, List.set_cons_succ]
  refine BigFrame.wpQuiet_want (by rfl) fun K hK => ⟨?_, fun w' hC => ?_, hK _ ?_⟩
  rotate_left
  · (obtain ⟨q0, q1, q2, q3, q4, q5, q6, q7, q8⟩ := HF0.out _ hC; go_simp; first | done | with_reducible rfl | exact ⟨rfl, hC⟩)
  clear hK K
  simp only [Act.put, List.setIfInBounds_toArray, List.set_cons_zero, List.set_cons_succ]
  refine BigFrame.wpQuiet_want (by rfl) fun K hK => ⟨?_, fun w' hC => ?_, hK _ ?_⟩
  rotate_left
  · (obtain ⟨q0, q1, q2, q3, q4, q5, q6, q7, q8⟩ := HF0.out _ hC; go_simp; first | done | with_reducible rfl | exact ⟨rfl, hC⟩)
  clear hK K
  simp only [Act.put, List.setIfInBounds_toArray, List.set_cons_zero, List.set_cons_succ]
  refine BigFrame.wpQuiet_want (by rfl) fun K hK => ⟨?_, fun w' hC => ?_, hK _ ?_⟩
  rotate_left
  · (obtain ⟨q0, q1, q2, q3, q4, q5, q6, q7, q8⟩ := HF0.out _ hC; go_simp; first | done | with_reducible rfl | exact ⟨rfl, hC⟩)
  clear hK K
  simp only [Act.put, List.setIfInBounds_toArray, List.set_cons_zero, List.set_cons_succ]
  refine BigFrame.wpQuiet_want (by rfl) fun K hK => ⟨?_, fun w' hC => ?_, hK _ ?_⟩
  rotate_left
  · (obtain ⟨q0, q1, q2, q3, q4, q5, q6, q7, q8⟩ := HF0.out _ hC; go_simp; first | done | with_reducible rfl | exact ⟨rfl, hC⟩)
  clear hK K
  simp only [Act.put, List.setIfInBounds_toArray, List.set_cons_zero, List.set_cons_succ]
  refine BigFrame.wpQuiet_want (by rfl) fun K hK => ⟨?_, fun w' hC => ?_, hK _ ?_⟩
  rotate_left
  · (obtain ⟨q0, q1, q2, q3, q4, q5, q6, q7, q8⟩ := HF0.out _ hC; go_simp; first | done | with_reducible rfl | exact ⟨rfl, hC⟩)
  clear hK K
  simp only [Act.put, List.setIfInBounds_toArray, List.set_cons_zero, List.set_cons_succ]
  refine BigFrame.wpQuiet_want (by rfl) fun K hK => ⟨?_, fun w' hC => ?_, hK _ ?_⟩
  rotate_left
  · (obtain ⟨q0, q1, q2, q3, q4, q5, q6, q7, q8⟩ := HF0.out _ hC; go_simp; first | done | with_reducible rfl | exact ⟨rfl, hC⟩)
  clear hK K
  simp only [Act.put, List.setIfInBounds_toArray, List.set_cons_zero, List.set_cons_succ]
  refine BigFrame.wpQuiet_want (by rfl) fun K hK => ⟨?_, fun w' hC => ?_, hK _ ?_⟩
  rotate_left
  · (obtain ⟨q0, q1, q2, q3, q4, q5, q6, q7, q8⟩ := HF0.out _ hC; go_simp; first | done | with_reducible rfl | exact ⟨rfl, hC⟩)
  clear hK K
  simp only [Act.put, List.setIfInBounds_toArray, List.set_cons_zero, List.set_cons_succ]
  refine BigFrame.wpQuiet_want (by rfl) fun K hK => ⟨?_, fun w' hC => ?_, hK _ ?_⟩
  rotate_left
  · (obtain ⟨q0, q1, q2, q3, q4, q5, q6, q7, q8⟩ := HF0.out _ hC; go_simp; first | done | with_reducible rfl | exact ⟨rfl, hC⟩)
  clear hK K
  simp only [Act.put, List.setIfInBounds_toArray, List.set_cons_zero, List.set_cons_succ]
  refine BigFrame.wpQuiet_want (by rfl) fun K hK => ⟨?_, fun w' hC => ?_, hK _ ?_⟩
  rotate_left
  · (obtain ⟨q0, q1, q2, q3, q4, q5, q6, q7, q8⟩ := HF0.out _ hC; go_simp; first | done | with_reducible rfl | exact ⟨rfl, hC⟩)
  clear hK K
  simp only [Act.put, List.setIfInBounds_toArray, List.set_cons_zero, List.set_cons_succ]
  refine BigFrame.wpQuiet_want (by rfl) fun K hK => ⟨?_, fun w' hC => ?_, hK _ ?_⟩
  rotate_left
  · (obtain ⟨q0, q1, q2, q3, q4, q5, q6, q7, q8⟩ := HF0.out _ hC; go_simp; first | done | with_reducible rfl | exact ⟨rfl, hC⟩)
  clear hK K
  simp only [Act.put, List.setIfInBounds_toArray, List.set_cons_zero, List.set_cons_succ]
  refine BigFrame.wpQuiet_want (by rfl) fun K hK => ⟨?_, fun w' hC => ?_, hK _ ?_⟩
  rotate_left
  · (obtain ⟨q0, q1, q2, q3, q4, q5, q6, q7, q8⟩ := HF0.out _ hC; go_simp; first | done | with_reducible rfl | exact ⟨rfl, hC⟩)
  clear hK K
  simp only [Act.put, List.setIfInBounds_toArray, List.set_cons_zero, List.set_cons_succ]
  refine BigFrame.wpQuiet_want (by rfl) fun K hK => ⟨?_, fun w' hC => ?_, hK _ ?_⟩
  rotate_left
  · (obtain ⟨q0, q1, q2, q3, q4, q5, q6, q7, q8⟩ := HF0.out _ hC; go_simp; first | done | with_reducible rfl | exact ⟨rfl, hC⟩)
  clear hK K
  simp only [Act.put, List.setIfInBounds_toArray, List.set_cons_zero, List.set_cons_succ]
  refine BigFrame.wpQuiet_want (by rfl) fun K hK => ⟨?_, fun w' hC => ?_, hK _ ?_⟩
  rotate_left
  · (obtain ⟨q0, q1, q2, q3, q4, q5, q6, q7, q8⟩ := HF0.out _ hC; go_simp; first | done | with_reducible rfl | exact ⟨rfl, hC⟩)
  clear hK K
  simp only [Act.put, List.setIfInBounds_toArray, List.set_cons_zero, List.set_cons_succ]
  refine BigFrame.wpQuiet_want (by rfl) fun K hK => ⟨?_, fun w' hC => ?_, hK _ ?_⟩
  rotate_left
  · (obtain ⟨q0, q1, q2, q3, q4, q5, q6, q7, q8⟩ := HF0.out _ hC; go_simp; first | done | with_reducible rfl | exact ⟨rfl, hC⟩)
  clear hK K
  simp only [Act.put, List.setIfInBounds_toArray, List.set_cons_zero, List.set_cons_succ]
  refine BigFrame.wpQuiet_want (by rfl) fun K hK => ⟨.int .i64 (q : Int), fun w' hC => (by go_simp; refine ((HNU.out w' hC)).mono ?_; rintro e w2 ⟨rfl, hb⟩; exact ⟨rfl, hC.trans hb⟩), hK _ ?_⟩
  clear hK K
  simp only [Act.put, List.setIfInBounds_toArray, List.set_cons_zero, List.set_cons_succ]
  refine BigFrame.wpQuiet_want (by rfl) fun K hK => ⟨?_, fun w' hC => ?_, hK _ ?_⟩
  rotate_left
  · (obtain ⟨q0, q1, q2, q3, q4, q5, q6, q7, q8⟩ := HF0.out _ hC; go_simp; first | done | with_reducible rfl | exact ⟨rfl, hC⟩)
  clear hK K
  simp only [Act.put, List.setIfInBounds_toArray, List.set_cons_zero, List.set_cons_succ]
  refine wpQuiet_nil ?_
  intro w2 hC2
  have HC2 := Lib.hid hC2
  clear hC2
  go_wp2_with fail
  go_ret
  exact ⟨rfl, HC2.out⟩

set_option maxRecDepth 100000 in
set_option maxHeartbeats 4000000 in
theorem inclusionOf_any (A L : Option Addr) (t : List (List Int)) (xs : List Int) (c c' : Nat) (w : World) (hR : RwsW w A t) (hX : IntsW w L xs) (h : SubX t xs) :
    Calls Tryz.prog 58 #[.agg #[.slice A t.length c], .slice L xs.length c'] w fun e w' => ∃ G R, e = .returned (.agg #[.slice (some ⟨R, 0, none⟩) xs.length xs.length, .slice A t.length c, .slice L xs.length c']) ∧ Ex w w' ∧ w.heap.size ≤ G ∧ w.heap.size ≤ R ∧ Has w' G 2 (tab (xs.length * xs.length) fun p => .int .i64 (grV t xs (p / xs.length) (p % xs.length) : Int)) ∧ Has w' R 25 (rowsV G xs.length) := by
  have e0 : Ex w ((((w.alloc (.cells #[.slice A t.length c] 32)).alloc (.cells #[.slice L xs.length c'] 25)).alloc (.cells #[.slice none 0 0, .slice none 0 0, .slice none 0 0] 90)).alloc (.cells #[.slice none 0 0, .slice A t.length c, .slice L xs.length c'] 90)) := ((((Ex.refl w).alloc _).alloc _).alloc _).alloc _
  have b0 : Has ((((w.alloc (.cells #[.slice A t.length c] 32)).alloc (.cells #[.slice L xs.length c'] 25)).alloc (.cells #[.slice none 0 0, .slice none 0 0, .slice none 0 0] 90)).alloc (.cells #[.slice none 0 0, .slice A t.length c, .slice L xs.length c'] 90)) (w.heap.size) 32 #[.slice A t.length c] := ((((Has.newAt (w := w) (e := 32) (cs := #[.slice A t.length c]) (k := w.heap.size) (by simp)).alloc _).alloc _).alloc _)
  have b1 : Has ((((w.alloc (.cells #[.slice A t.length c] 32)).alloc (.cells #[.slice L xs.length c'] 25)).alloc (.cells #[.slice none 0 0, .slice none 0 0, .slice none 0 0] 90)).alloc (.cells #[.slice none 0 0, .slice A t.length c, .slice L xs.length c'] 90)) (w.heap.size + 1) 25 #[.slice L xs.length c'] := (((Has.newAt (w := (w.alloc (.cells #[.slice A t.length c] 32))) (e := 25) (cs := #[.slice L xs.length c']) (k := w.heap.size + 1) (by simp)).alloc _).alloc _)
  have b2 : Has ((((w.alloc (.cells #[.slice A t.length c] 32)).alloc (.cells #[.slice L xs.length c'] 25)).alloc (.cells #[.slice none 0 0, .slice none 0 0, .slice none 0 0] 90)).alloc (.cells #[.slice none 0 0, .slice A t.length c, .slice L xs.length c'] 90)) (w.heap.size + 1 + 1) 90 #[.slice none 0 0, .slice none 0 0, .slice none 0 0] := ((Has.newAt (w := ((w.alloc (.cells #[.slice A t.length c] 32)).alloc (.cells #[.slice L xs.length c'] 25))) (e := 90) (cs := #[.slice none 0 0, .slice none 0 0, .slice none 0 0]) (k := w.heap.size + 1 + 1) (by simp)).alloc _)
  have b3 : Has ((((w.alloc (.cells #[.slice A t.length c] 32)).alloc (.cells #[.slice L xs.length c'] 25)).alloc (.cells #[.slice none 0 0, .slice none 0 0, .slice none 0 0] 90)).alloc (.cells #[.slice none 0 0, .slice A t.length c, .slice L xs.length c'] 90)) (w.heap.size + 1 + 1 + 1) 90 #[.slice none 0 0, .slice A t.length c, .slice L xs.length c'] := (Has.newAt (w := (((w.alloc (.cells #[.slice A t.length c] 32)).alloc (.cells #[.slice L xs.length c'] 25)).alloc (.cells #[.slice none 0 0, .slice none 0 0, .slice none 0 0] 90))) (e := 90) (cs := #[.slice none 0 0, .slice A t.length c, .slice L xs.length c']) (k := w.heap.size + 1 + 1 + 1) (by simp))
  have hmf : ∀ (fn : Fn) (first cap : Array Value) (w : World), (Instr.makeFunc fn first cap).run Tryz.prog w = .ok (.func fn first cap) w := fun _ _ _ _ => rfl
  have hl8 := h.len8
  have HGW := Lib.hid (groupWith_has xs.length 89 #[.pointer (some ⟨w.heap.size + 1 + 1 + 1, 0, none⟩), .pointer (some ⟨w.heap.size, 0, none⟩), .pointer (some ⟨w.heap.size + 1, 0, none⟩)] (fun i j => (grV t xs i j : Int)) ((((w.alloc (.cells #[.slice A t.length c] 32)).alloc (.cells #[.slice L xs.length c'] 25)).alloc (.cells #[.slice none 0 0, .slice none 0 0, .slice none 0 0] 90)).alloc (.cells #[.slice none 0 0, .slice A t.length c, .slice L xs.length c'] 90)) (by omega) (enters_of Tryz.func89 (by kernel_rfl) rfl)
    (fun W' he i j hi hj => inc1_ex (w.heap.size + 1 + 1 + 1) w.heap.size (w.heap.size + 1) 0 0 c c' i j none A L t xs W' (b3.ex he) (b0.ex he) (b1.ex he) (hR.ex (e0.trans he)) (hX.ex (e0.trans he)) h hi hj))
  have HE0 := Lib.hid e0
  have HB2 := Lib.hid b2
  have HB3 := Lib.hid b3
  have c1 := b1.cell 0
  have c0 := b0.cell 0
  clear hR hX h b0 b1 b2 b3 e0
  obtain ⟨K, hK⟩ : ∃ K, xs.length = K := ⟨_, rfl⟩
  rw [hK] at HGW HB3 HE0 HB2 c1 c0 hl8 ⊢
  go_enter Tryz.func58, Tryz.ntmps58
  go_wp2_with fail
  generalize ((((w.alloc (.cells #[.slice A t.length c] 32)).alloc (.cells #[.slice L K c'] 25)).alloc (.cells #[.slice none 0 0, .slice none 0 0, .slice none 0 0] 90)).alloc (.cells #[.slice none 0 0, .slice A t.length c, .slice L K c'] 90)) = W0 at *
  refine HGW.out.mono ?_
  rintro e W1 ⟨G, R, rfl, he1, hlG, hlR, hG, hR⟩
  have HE1 := Lib.hid (HE0.out.trans he1)
  have HB21 := Lib.hid (HB2.out.ex he1)
  have HB31 := Lib.hid (HB3.out.ex he1)
  have hlw := HE0.out.size
  have hb3 := HB3.out.lt
  have HG := Lib.hid hG
  have HR := Lib.hid hR
  have m0 := HB31.out.cell 0
  have m1 := HB31.out.cell 1
  have m2 := HB31.out.cell 2
  have f0 := HB31.out.free 0
  have r0 := HB21.out.cell 0
  have r1 := HB21.out.cell 1
  have r2 := HB21.out.cell 2
  have g0 := HB21.out.free 0
  have g1 := HB21.out.free 1
  have g2 := HB21.out.free 2
  clear he1 hG hR HGW c0 c1
  go_wp2_with fail
  have H4 := Has.put3 (u := .slice (some ⟨R, 0, none⟩) K K) (v := .slice A t.length c) (t := .slice L K c') (HB21.out.far (p := ⟨w.heap.size + 1 + 1 + 1, 0, none⟩) (by show w.heap.size + 1 + 1 ≠ w.heap.size + 1 + 1 + 1; omega) (.slice (some ⟨R, 0, none⟩) K K))
  have c4 := H4.cell 0
  have c4' := H4.cell 1
  have c4'' := H4.cell 2
  exact bodyPost_ret (v := .agg #[.slice (some ⟨R, 0, none⟩) K K, .slice A t.length c, .slice L K c']) (by simp [results, Tryz.results58, go_sem, c4, c4', c4'']) rfl ⟨G, R, rfl, (Ex.setCell (p := ⟨w.heap.size + 1 + 1, 2, none⟩) (Ex.setCell (p := ⟨w.heap.size + 1 + 1, 1, none⟩) (Ex.setCell (p := ⟨w.heap.size + 1 + 1, 0, none⟩) (Ex.setCell (p := ⟨w.heap.size + 1 + 1 + 1, 0, none⟩) HE1.out (by show w.heap.size ≤ w.heap.size + 1 + 1 + 1; omega) _) (by show w.heap.size ≤ w.heap.size + 1 + 1; omega) _) (by show w.heap.size ≤ w.heap.size + 1 + 1; omega) _) (by show w.heap.size ≤ w.heap.size + 1 + 1; omega) _), by omega, by omega, (Has.far (p := ⟨w.heap.size + 1 + 1, 2, none⟩) (Has.far (p := ⟨w.heap.size + 1 + 1, 1, none⟩) (Has.far (p := ⟨w.heap.size + 1 + 1, 0, none⟩) (Has.far (p := ⟨w.heap.size + 1 + 1 + 1, 0, none⟩) HG.out (by show G ≠ w.heap.size + 1 + 1 + 1; omega) _) (by show G ≠ w.heap.size + 1 + 1; omega) _) (by show G ≠ w.heap.size + 1 + 1; omega) _) (by show G ≠ w.heap.size + 1 + 1; omega) _), (Has.far (p := ⟨w.heap.size + 1 + 1, 2, none⟩) (Has.far (p := ⟨w.heap.size + 1 + 1, 1, none⟩) (Has.far (p := ⟨w.heap.size + 1 + 1, 0, none⟩) (Has.far (p := ⟨w.heap.size + 1 + 1 + 1, 0, none⟩) HR.out (by show R ≠ w.heap.size + 1 + 1 + 1; omega) _) (by show R ≠ w.heap.size + 1 + 1; omega) _) (by show R ≠ w.heap.size + 1 + 1; omega) _) (by show R ≠ w.heap.size + 1 + 1; omega) _)⟩

end Go.Proofs.YtcdijeeabgmgmaaGreatDoor

/- Chapter 7: the group of a subgroup, by the specification. -/
namespace Go.Proofs.YtcdijeeabgmgmaaGreatDoor
open Go.RowKit Go.Shelf

attribute [local go_sem] Oper.semAt_some

set_option maxRecDepth 100000 in
set_option maxHeartbeats 1000000 in
theorem l07Place_any (L : Option Addr) (c' z : Nat) (t : List (List Int)) (xs : List Int) (w : World) (h : SubX t xs) (hX : IntsW w L xs) (hz : z ∈ elsL xs) :
    Calls Tryz.prog 55 #[.slice L xs.length c', .int .i64 (z : Int)] w fun e w' => e = .returned (.int .i64 (plN xs z : Int)) ∧ w = w' := by
  have HX := Lib.hid hX
  have HBF := Lib.hid (fun j (hj : j < plN xs z) => h.before hz hj)
  obtain ⟨hm, hv⟩ := h.pl hz
  have hl8 := h.len8
  have HV := Lib.hid hv
  obtain ⟨m, hme⟩ : ∃ m, plN xs z = m := ⟨_, rfl⟩
  rw [hme] at HBF HV hm ⊢
  clear h hX hz hv hme
  go_enter Tryz.func55, Tryz.ntmps55
  go_wp2_with fail
  go_loop [5] (fun i => ∃ k : Nat, k ≤ m ∧ i = .int .i64 (k : Int)) (fun i => xs.length - (intOf i).toNat)
  case atStart => exact ⟨0, Nat.zero_le _, rfl⟩
  case round =>
    obtain ⟨k, hk, rfl⟩ := hrel
    have hlt : k < xs.length := by omega
    obtain ⟨bx, ox, rfl, hbx, hcx⟩ := HX.out.ints.at_ hlt
    by_cases hkm : k < m
    · have hne : (nth xs k == (z : Int)) = false := by simpa using HBF.out k hkm
      generalize nth xs k = x at *
      go_wp2_with fail
      go_round
      case rel => exact ⟨k + 1, by omega, by go_num⟩
      case measure => simp [intOf]; omega
    · obtain rfl : k = m := by omega
      rw [HV.out] at hcx
      go_wp2_with fail
      go_ret
      exact ⟨rfl, rfl⟩

set_option maxRecDepth 100000 in
set_option maxHeartbeats 8000000 in
theorem l07Group_any (A L : Option Addr) (t : List (List Int)) (xs : List Int) (c c' : Nat) (w : World) (hR : RwsW w A t) (hX : IntsW w L xs) (h : SubX t xs) :
    Calls Tryz.prog 48 #[.agg #[.slice A t.length c], .slice L xs.length c'] w fun e w' => ∃ CC n, e = .returned (.agg #[.slice CC (grT t xs).length n]) ∧ Ex w w' ∧ OwnT w' w.heap.size w'.heap.size CC (grT t xs) := by
  obtain ⟨i0, hi, hi0, hi1, hi2⟩ := info_parts infoI
  obtain ⟨iS, gi, gi0, gi1, gi2⟩ := info_parts infoS
  have hn8 := h.g.n8
  have hn1 := h.g.n1
  have hl8 := h.len8
  have hpos := h.pos
  obtain ⟨b, o, bb, oo, C, rfl, hQ⟩ := hR.sq h.g
  rcases hX.ints with hX3 | ⟨bx, ox, rfl, hbx, hcx⟩
  · rw [hX3] at hpos
    cases hpos
  have HEN := Lib.hid (fun x y (hx : x < t.length) (hy : y < t.length) W (he : Ex w W) => (⟨(hQ.ex he).row_ hx, by rw [(hQ.ex he).ent_ hx hy, h.g.ent hx hy], h.g.mul_lt hx hy⟩ : W.cell? ⟨b, o + x, none⟩ = some (.slice (some ⟨bb x, oo x, none⟩) t.length (C x)) ∧ W.cell? ⟨bb x, oo x + y, none⟩ = some (.int .i64 (mul t x y : Int)) ∧ mul t x y < t.length))
  have HXN := Lib.hid (fun i (hi : i < xs.length) => (h.nat hi).2)
  have HXC := Lib.hid (fun i (hi : i < xs.length) W (he : Ex w W) => (by rw [← (h.nat hi).1]; exact (he.below.cell (p := ⟨bx, ox + i, none⟩) hbx).trans (hcx i hi) : W.cell? ⟨bx, ox + i, none⟩ = some (.int .i64 (xN xs i : Int))))
  have HPL := Lib.hid (fun i j (hi : i < xs.length) (hj : j < xs.length) W (he : Ex w W) => l07Place_any (some ⟨bx, ox, none⟩) c' (mul t (xN xs i) (xN xs j)) t xs W h (hX.ex he) (h.gr_mem hi hj))
  have HGL : Hid ((grT t xs).length = xs.length) := Lib.hid (grT_len t xs)
  have HGT : Hid (grT t xs = mkT xs.length xs.length fun i j => (grV t xs i j : Int)) := Lib.hid rfl
  rw [HGL.out]
  have e0 : Ex w ((w.alloc (.cells #[.slice (some ⟨b, o, none⟩) t.length c] 32)).alloc (.cells #[.slice none 0 0] 32)) := ((Ex.refl w).alloc _).alloc _
  have b0 : Has ((w.alloc (.cells #[.slice (some ⟨b, o, none⟩) t.length c] 32)).alloc (.cells #[.slice none 0 0] 32)) (w.heap.size) 32 #[.slice (some ⟨b, o, none⟩) t.length c] := ((Has.newAt (w := w) (e := 32) (cs := #[.slice (some ⟨b, o, none⟩) t.length c]) (k := w.heap.size) (by simp)).alloc _)
  have b1 : Has ((w.alloc (.cells #[.slice (some ⟨b, o, none⟩) t.length c] 32)).alloc (.cells #[.slice none 0 0] 32)) (w.heap.size + 1) 32 #[.slice none 0 0] := (Has.newAt (w := (w.alloc (.cells #[.slice (some ⟨b, o, none⟩) t.length c] 32))) (e := 32) (cs := #[.slice none 0 0]) (k := w.heap.size + 1) (by simp))
  have HB0 := Lib.hid b0
  obtain ⟨K, hK⟩ : ∃ K, xs.length = K := ⟨_, rfl⟩
  rw [hK] at HXN HXC HPL HGT hl8 hpos ⊢
  have hlb := b1.lt
  clear hR hX h hQ hcx hK
  go_enter Tryz.func48, Tryz.ntmps48
  go_wp2_with fail
  obtain ⟨z, hz⟩ : ∃ z, ((w.alloc (.cells #[.slice (some ⟨b, o, none⟩) t.length c] 32)).alloc (.cells #[.slice none 0 0] 32)).heap.size = z := ⟨_, rfl⟩
  have hzw : w.heap.size + 1 < z := by omega
  have ea := ((Ex.refl ((w.alloc (.cells #[.slice (some ⟨b, o, none⟩) t.length c] 32)).alloc (.cells #[.slice none 0 0] 32))).alloc (.cells #[] 25)).alloc (.cells #[.slice (some ⟨z, 0, none⟩) 0 0] 32)
  have HO : Hid (Has ((((w.alloc (.cells #[.slice (some ⟨b, o, none⟩) t.length c] 32)).alloc (.cells #[.slice none 0 0] 32)).alloc (.cells #[] 25)).alloc (.cells #[.slice (some ⟨z, 0, none⟩) 0 0] 32)) (z + 1) 32 #[.slice (some ⟨z, 0, none⟩) 0 0]) := Lib.hid (Has.newAt (by rw [World.size_alloc, hz]))
  have HG : Hid (GrowT ((((w.alloc (.cells #[.slice (some ⟨b, o, none⟩) t.length c] 32)).alloc (.cells #[.slice none 0 0] 32)).alloc (.cells #[] 25)).alloc (.cells #[.slice (some ⟨z, 0, none⟩) 0 0] 32)) z (.slice (some ⟨z, 0, none⟩) 0 0) 0 K fun i j => (grV t xs i j : Int)) := Lib.hid (by
    have := GrowT.empty (lo := z) ((w.alloc (.cells #[.slice (some ⟨b, o, none⟩) t.length c] 32)).alloc (.cells #[.slice none 0 0] 32)) K (fun i j => (grV t xs i j : Int)) (by omega)
    rw [hz] at this
    exact this.ex (Ex.new _ _))
  have HE0 := Lib.hid e0
  have HB1 := Lib.hid b1
  have HXs := Lib.hid ea
  have HZ := Lib.hid hz
  have hszz : w.heap.size + 1 + 1 = z := by simpa using hz
  rw [hszz]
  clear b0 b1 e0 ea hlb hz
  obtain ⟨W1, hW1⟩ : ∃ W1, ((w.alloc (.cells #[.slice (some ⟨b, o, none⟩) t.length c] 32)).alloc (.cells #[.slice none 0 0] 32)) = W1 := ⟨_, rfl⟩
  rw [hW1] at HO HG HE0 HB1 HXs HZ HB0 ⊢
  generalize ((W1.alloc (.cells #[] 25)).alloc (.cells #[.slice (some ⟨z, 0, none⟩) 0 0] 32)) = W2 at *
  clear hW1 hszz
  go_loopw [6] (fun i wr => ∃ (k : Nat) (v : Value), k ≤ K ∧ i = .int .i64 (k : Int) ∧ Hid (Ex W1 wr) ∧ Hid (Has wr (z + 1) 32 #[v]) ∧ Hid (GrowT wr z v k K fun i j => (grV t xs i j : Int))) (fun i _ => K - (intOf i).toNat)
  case atStart => exact ⟨0, _, Nat.zero_le _, rfl, HXs, HO, HG⟩
  case round =>
    clear HXs HO HG
    obtain ⟨k, v, hk, rfl, HX, HO, HG⟩ := hrel
    obtain ⟨wo, rfl⟩ : ∃ x : World, x = wr := ⟨_, rfl⟩
    obtain ⟨A, cA, rfl, -⟩ := HG.out.own
    by_cases hlt : k < K
    · obtain ⟨G, CC, hown, hrows⟩ := HG.out
      have HOW := Lib.hid hown
      have HRO := Lib.hid hrows
      have HGZ := Lib.hid (fun i (hi : i < k) => (hrows.lt hi : G i < wo.heap.size))
      have HEs := Lib.hid (Ex.new wo (.cells #[] 2))
      have HG0 : Hid (GrowI (wo.alloc (.cells #[] 2)) wo.heap.size (.slice (some ⟨wo.heap.size, 0, none⟩) 0 0) 0 (rowP (fun y => (grV t xs k y : Int)) 0)) := Lib.hid (GrowI.empty (lo := wo.heap.size) wo (Nat.le_refl _))
      clear hown hrows HG
      go_wp2_with fail
      generalize wo.alloc (.cells #[] 2) = W4 at *
      go_loopw [7, 8] (fun rv i wr => ∃ j : Nat, j ≤ K ∧ i = .int .i64 (j : Int) ∧ Hid (Ex wo wr) ∧ Hid (GrowI wr wo.heap.size rv j (rowP (fun y => (grV t xs k y : Int)) j))) (fun _ i _ => K - (intOf i).toNat)
      case atStart => exact ⟨0, Nat.zero_le _, rfl, HEs, HG0⟩
      case round =>
        clear HEs HG0
        obtain ⟨j, hj, rfl, HEr, HGr⟩ := hrel
        by_cases hjl : j < K
        · have hx := HXN.out k hlt
          have hy := HXN.out j hjl
          have HPLX := Lib.hid (fun W (he : Ex wo W) => HPL.out k j hlt hjl W (HE0.out.trans (HX.out.trans he)))
          have HCC0 := Lib.hid (fun W (he : Ex wo W) => And.intro ((HB0.out.ex (HX.out.trans he)).cell 0) (And.intro (HXC.out k hlt W (HE0.out.trans (HX.out.trans he))) (And.intro (HXC.out j hjl W (HE0.out.trans (HX.out.trans he))) (HEN.out _ _ hx hy W (HE0.out.trans (HX.out.trans he))))))
          have HS0 : Hid (grV t xs k j = plN xs (mul t (xN xs k) (xN xs j))) := Lib.hid rfl
          obtain ⟨x, hxe⟩ : ∃ x, xN xs k = x := ⟨_, rfl⟩
          obtain ⟨y, hye⟩ : ∃ y, xN xs j = y := ⟨_, rfl⟩
          rw [hxe, hye] at HCC0 HPLX HS0
          rw [hxe] at hx
          rw [hye] at hy
          obtain ⟨m, hm⟩ : ∃ m, mul t x y = m := ⟨_, rfl⟩
          rw [hm] at HCC0 HPLX HS0
          have hmN : m < t.length := (HCC0.out wo (Ex.refl _)).2.2.2.2.2
          obtain ⟨q, hq⟩ : ∃ q, plN xs m = q := ⟨_, rfl⟩
          rw [hq] at HPLX HS0
          have HS : Hid (rowP (fun y => (grV t xs k y : Int)) (j + 1) = rowP (fun y => (grV t xs k y : Int)) j ++ [(q : Int)]) := Lib.hid (by rw [rowP_snoc, HS0.out])
          have HCC := Lib.hid (fun W (he : Ex wo W) => (by obtain ⟨h1, h2, h3, h4, h5, _⟩ := HCC0.out W he; exact ⟨h1, h2, h3, h4, h5⟩ :
            W.cell? ⟨w.heap.size, 0, none⟩ = some (.slice (some ⟨b, o, none⟩) t.length c) ∧ W.cell? ⟨bx, ox + k, none⟩ = some (.int .i64 (x : Int)) ∧ W.cell? ⟨bx, ox + j, none⟩ = some (.int .i64 (y : Int)) ∧ W.cell? ⟨b, o + x, none⟩ = some (.slice (some ⟨bb x, oo x, none⟩) t.length (C x)) ∧ W.cell? ⟨bb x, oo x + y, none⟩ = some (.int .i64 (m : Int))))
          clear HCC0 HS0 hxe hye hm hq
          go_wp2_with fail
          have HE := Lib.hid HEr.out.drew
          have HG := Lib.hid (HGr.out.ex (Ex.refl wr).drew)
          have hC0 := HCC.out _ HE.out
          refine Late.region (C := fun W => W.cell? ⟨w.heap.size, 0, none⟩ = some (.slice (some ⟨b, o, none⟩) t.length c) ∧ W.cell? ⟨bx, ox + k, none⟩ = some (.int .i64 (x : Int)) ∧ W.cell? ⟨bx, ox + j, none⟩ = some (.int .i64 (y : Int)) ∧ W.cell? ⟨b, o + x, none⟩ = some (.slice (some ⟨bb x, oo x, none⟩) t.length (C x)) ∧ W.cell? ⟨bb x, oo x + y, none⟩ = some (.int .i64 (m : Int)))
            (fun j => decide (j < 19)) (by kernel_rfl) hC0 (fun hC => ?_)
          refine Late.take (i := 0) (oi := ⟨_, _, _, _, _, _⟩) (v := ?_) rfl (by kernel_rfl) (by kernel_rfl) (by kernel_rfl) (by kernel_rfl) (fun _ _ _ h => h) (Or.inl ⟨by rfl, ?_⟩) hC ?_
          rotate_left
          · (intro w hSw; (try dsimp only at hSw); go_simp; first | done | with_reducible rfl)
          simp only [Act.put, List.setIfInBounds_toArray, List.set_cons_zero, List.set_cons_succ]
          refine Late.take (i := 1) (oi := ⟨_, _, _, _, _, _⟩) (v := ?_) rfl (by kernel_rfl) (by kernel_rfl) (by kernel_rfl) (by kernel_rfl) (fun _ _ _ h => h) (Or.inl ⟨by rfl, ?_⟩) hC ?_
          rotate_left
          · (intro w hSw; (try dsimp only at hSw); go_simp; first | done | with_reducible rfl)
          simp only [Act.put, List.setIfInBounds_toArray, List.set_cons_zero, List.set_cons_succ]
          refine Late.take (i := 2) (oi := ⟨_, _, _, _, _, _⟩) (v := ?_) rfl (by kernel_rfl) (by kernel_rfl) (by kernel_rfl) (by kernel_rfl) (fun _ _ _ h => h) (Or.inl ⟨by rfl, ?_⟩) hC ?_
          rotate_left
          · (intro w hSw; (try dsimp only at hSw); go_simp; first | done | with_reducible rfl)
          simp only [Act.put, List.setIfInBounds_toArray, List.set_cons_zero, List.set_cons_succ]
          refine Late.take (i := 3) (oi := ⟨_, _, _, _, _, _⟩) (v := ?_) rfl (by kernel_rfl) (by kernel_rfl) (by kernel_rfl) (by kernel_rfl) (fun _ _ _ h => h) (Or.inl ⟨by rfl, ?_⟩) hC ?_
          rotate_left
          · (intro w hSw; (try dsimp only at hSw); go_simp; first | done | with_reducible rfl)
          simp only [Act.put, List.setIfInBounds_toArray, List.set_cons_zero, List.set_cons_succ]
          refine Late.take (i := 4) (oi := ⟨_, _, _, _, _, _⟩) (v := ?_) rfl (by kernel_rfl) (by kernel_rfl) (by kernel_rfl) (by kernel_rfl) (fun _ _ _ h => h) (Or.inl ⟨by rfl, ?_⟩) hC ?_
          rotate_left
          · (intro w hSw; (try dsimp only at hSw); go_simp; first | done | with_reducible rfl)
          simp only [Act.put, List.setIfInBounds_toArray, List.set_cons_zero, List.set_cons_succ]
          refine Late.take (i := 5) (oi := ⟨_, _, _, _, _, _⟩) (v := ?_) rfl (by kernel_rfl) (by kernel_rfl) (by kernel_rfl) (by kernel_rfl) (fun _ _ _ h => h) (Or.inl ⟨by rfl, ?_⟩) hC ?_
          rotate_left
          · (intro w hSw; (try dsimp only at hSw); go_simp; first | done | with_reducible rfl)
          simp only [Act.put, List.setIfInBounds_toArray, List.set_cons_zero, List.set_cons_succ]
          refine Late.take (i := 6) (oi := ⟨_, _, _, _, _, _⟩) (v := ?_) rfl (by kernel_rfl) (by kernel_rfl) (by kernel_rfl) (by kernel_rfl) (fun _ _ _ h => h) (Or.inl ⟨by rfl, ?_⟩) hC ?_
          rotate_left
          · (intro w hSw; (try dsimp only at hSw); go_simp; first | done | with_reducible rfl)
          simp only [Act.put, List.setIfInBounds_toArray, List.set_cons_zero, List.set_cons_succ]
          refine Late.take (i := 7) (oi := ⟨_, _, _, _, _, _⟩) (v := ?_) rfl (by kernel_rfl) (by kernel_rfl) (by kernel_rfl) (by kernel_rfl) (fun _ _ _ h => h) (Or.inl ⟨by rfl, ?_⟩) hC ?_
          rotate_left
          · (intro w hSw; (try dsimp only at hSw); go_simp; first | done | with_reducible rfl)
          simp only [Act.put, List.setIfInBounds_toArray, List.set_cons_zero, List.set_cons_succ]
          refine Late.take (i := 8) (oi := ⟨_, _, _, _, _, _⟩) (v := ?_) rfl (by kernel_rfl) (by kernel_rfl) (by kernel_rfl) (by kernel_rfl) (fun _ _ _ h => h) (Or.inl ⟨by rfl, ?_⟩) hC ?_
          rotate_left
          · (intro w hSw; (try dsimp only at hSw); go_simp; first | done | with_reducible rfl)
          simp only [Act.put, List.setIfInBounds_toArray, List.set_cons_zero, List.set_cons_succ]
          refine Late.take (i := 9) (oi := ⟨_, _, _, _, _, _⟩) (v := ?_) rfl (by kernel_rfl) (by kernel_rfl) (by kernel_rfl) (by kernel_rfl) (fun _ _ _ h => h) (Or.inl ⟨by rfl, ?_⟩) hC ?_
          rotate_left
          · (intro w hSw; (try dsimp only at hSw); go_simp; first | done | with_reducible rfl)
          simp only [Act.put, List.setIfInBounds_toArray, List.set_cons_zero, List.set_cons_succ]
          refine Late.take (i := 10) (oi := ⟨_, _, _, _, _, _⟩) (v := ?_) rfl (by kernel_rfl) (by kernel_rfl) (by kernel_rfl) (by kernel_rfl) (fun _ _ _ h => h) (Or.inl ⟨by rfl, ?_⟩) hC ?_
          rotate_left
          · (intro w hSw; (try dsimp only at hSw); go_simp; first | done | with_reducible rfl)
          simp only [Act.put, List.setIfInBounds_toArray, List.set_cons_zero, List.set_cons_succ]
          refine Late.take (i := 11) (oi := ⟨_, _, _, _, _, _⟩) (v := ?_) rfl (by kernel_rfl) (by kernel_rfl) (by kernel_rfl) (by kernel_rfl) (fun _ _ _ h => h) (Or.inl ⟨by rfl, ?_⟩) hC ?_
          rotate_left
          · (intro w hSw; (try dsimp only at hSw); go_simp; first | done | with_reducible rfl)
          simp only [Act.put, List.setIfInBounds_toArray, List.set_cons_zero, List.set_cons_succ]
          refine Late.take (i := 12) (oi := ⟨_, _, _, _, _, _⟩) (v := ?_) rfl (by kernel_rfl) (by kernel_rfl) (by kernel_rfl) (by kernel_rfl) (fun _ _ _ h => h) (Or.inl ⟨by rfl, ?_⟩) hC ?_
          rotate_left
          · (intro w hSw; (try dsimp only at hSw); go_simp; first | done | with_reducible rfl)
          simp only [Act.put, List.setIfInBounds_toArray, List.set_cons_zero, List.set_cons_succ]
          refine Late.take (i := 13) (oi := ⟨_, _, _, _, _, _⟩) (v := ?_) rfl (by kernel_rfl) (by kernel_rfl) (by kernel_rfl) (by kernel_rfl) (fun _ _ _ h => h) (Or.inl ⟨by rfl, ?_⟩) hC ?_
          rotate_left
          · (intro w hSw; (try dsimp only at hSw); go_simp; first | done | with_reducible rfl)
          simp only [Act.put, List.setIfInBounds_toArray, List.set_cons_zero, List.set_cons_succ]
          refine Late.take (i := 14) (oi := ⟨_, _, _, _, _, _⟩) (v := ?_) rfl (by kernel_rfl) (by kernel_rfl) (by kernel_rfl) (by kernel_rfl) (fun _ _ _ h => h) (Or.inl ⟨by rfl, ?_⟩) hC ?_
          rotate_left
          · (intro w hSw; (try dsimp only at hSw); go_simp; first | done | with_reducible rfl)
          simp only [Act.put, List.setIfInBounds_toArray, List.set_cons_zero, List.set_cons_succ]
          refine Late.take (i := 15) (oi := ⟨_, _, _, _, _, _⟩) (v := ?_) rfl (by kernel_rfl) (by kernel_rfl) (by kernel_rfl) (by kernel_rfl) (fun _ _ _ h => h) (Or.inl ⟨by rfl, ?_⟩) hC ?_
          rotate_left
          · (intro w hSw; (try dsimp only at hSw); go_simp; first | done | with_reducible rfl)
          simp only [Act.put, List.setIfInBounds_toArray, List.set_cons_zero, List.set_cons_succ]
          refine Late.one (i := 16) (o := _) (by kernel_rfl) rfl (fun K' hK' => ?_)
          go_simp
          refine (HPLX.out wr.drew HE.out).mono ?_
          rintro e w' ⟨rfl, rfl⟩
          refine hK'.out _ _ (fun _ => hC) (fun _ => ?_)
          clear hK' K' hC hC0
          try simp only [Act.put, List.setIfInBounds_toArray, List.set_cons_zero, List.set_cons_succ]
          generalize wr.drew = X at *
          refine Late.one (i := 17) (o := _) (by kernel_rfl) rfl (fun K' hK' => ?_)
          go_simp
          have e1 := HE.out.alloc (.cells #[.int .i64 (q : Int)] 2)
          have g1 := HG.out.ex (Ex.new X (.cells #[.int .i64 (q : Int)] 2))
          have hn1 := cell_one_new X (.int .i64 (q : Int)) 2
          have hz1 : X.heap.size + 1 = (X.alloc (.cells #[.int .i64 (q : Int)] 2)).heap.size := by simp
          have hx1 := Ex.new X (.cells #[.int .i64 (q : Int)] 2)
          refine hK'.out _ _ (fun _ => HCC.out _ e1) (fun _ => ?_)
          clear hK' K'
          generalize X.alloc (.cells #[.int .i64 (q : Int)] 2) = w1 at *
          try simp only [Act.put, List.setIfInBounds_toArray, List.set_cons_zero, List.set_cons_succ]
          refine Late.one (i := 18) (o := _) (by kernel_rfl) rfl (fun K' hK' => ?_)
          rw [if_pos (by rfl)]
          refine wp_append_own _ _ _ 25 rfl wo.heap.size 2 i0 (.int .i64 0) 1 8 Tryz.underlying25 hi hi0 hi1 hi2 rfl (by decide) _ _ _ rfl g1.1 ⟨X.heap.size, 0, none⟩ 1 1 [.int .i64 (q : Int)] rfl rfl hn1 (by simp [Value.oneCell']) (by unfold maxLen; omega) (by omega) (by have := e1.size; omega) ?_
          intro v' w3 hown3 hgrow3 _
          have HE3 := Lib.hid (Ex.grew e1 g1 (Nat.le_refl _) hgrow3)
          have HG3 := Lib.hid (g1.snoc hown3)
          refine hK'.out _ _ (fun _ => HCC.out _ HE3.out) (fun _ => ?_)
          clear hK' K' hown3 hgrow3 g1 e1 hn1 hx1 
          try simp only [Act.put]
          refine Late.one (i := 19) (o := _) (by kernel_rfl) rfl (fun K' hK' => ?_)
          go_simp
          refine hK'.out _ _ (fun h => by cases h) (fun _ => ?_)
          clear hK' K'
          try simp only [Act.put, List.setIfInBounds_toArray, List.set_cons_zero, List.set_cons_succ]
          refine Late.done (by kernel_rfl) ?_ _
          go_wp2_with fail
          go_roundw
          case rel => exact ⟨j + 1, by omega, by go_num, HE3, by rw [HS.out]; exact HG3⟩
          case measure => simp [intOf]; omega
        · obtain rfl : j = K := by omega
          obtain ⟨g, cg, cs, rfl, hzg, hjc, hhas, hget⟩ := row_block HGr.out.1 hpos
          have HHAS := Lib.hid hhas
          have HGET := Lib.hid hget
          have HOM := Lib.hid (own_below HOW.out HEr.out)
          have HRM := Lib.hid (HRO.out.ex HEr.out)
          have HBM := Lib.hid (HO.out.ex HEr.out)
          have cO := HBM.out.cell 0
          clear hhas hget
          go_wp2_with (at_builtin; refine wpList_append_own _ rfl _ _ 22 rfl z 25 iS (.slice none 0 0) 1 24 Tryz.underlying22 gi gi0 gi1 gi2 rfl (by decide) _ _ _ rfl (HOM.out.alloc _) ⟨wr.heap.size, 0, none⟩ 1 1 [.slice (some ⟨g, 0, none⟩) j cg] rfl rfl (cell_one_new _ _ _) (by simp [Value.oneCell']) (by unfold maxLen; omega) (by omega) (by have := (HX.out.trans HEr.out).size; have := HZ.out; simp; omega) ?_; intro v' w3 hown3 hgrow3 _; have HX3 := Lib.hid (Ex.grewR ((HX.out.trans HEr.out).alloc _) (HOM.out.alloc _) (by have := HZ.out; omega) hgrow3); have HBM3 := Lib.hid (Has.grewR (HBM.out.alloc _) (by decide) (HOM.out.alloc _) hgrow3); have HGT3 := Lib.hid (GrowT.push (V := fun i j => (grV t xs i j : Int)) (HOM.out.alloc _) (HRM.out.ex (Ex.new wr _)) (by have := HX.out.size; have := HZ.out; omega) (HHAS.out.alloc _) (fun i hi => (HGET.out i hi).trans (rowP_get hi)) (fun i hi => by have := HGZ.out i hi; omega) hgrow3 hown3); obtain ⟨A3, cA3, rfl, -⟩ := HGT3.out.own; have cO3 := HBM3.out.cell 0; have fO3 := HBM3.out.free 0; clear hown3 hgrow3)
          go_roundw
          case rel => exact ⟨k + 1, _, by omega, by go_num, Lib.hid (HX3.out.setCell (p := ⟨z + 1, 0, none⟩) (by have := HZ.out; show W1.heap.size ≤ z + 1; omega) _), Lib.hid HBM3.out.put1, Lib.hid (HGT3.out.set HBM3.out (by decide) (by decide) 0 _)⟩
          case measure => simp [intOf]; omega
    · obtain rfl : k = K := by omega
      have HBR := Lib.hid (HB1.out.ex HX.out)
      have HG9 := Lib.hid HG.out
      have cO := HO.out.cell 0
      have cr := HBR.out.cell 0
      have fr := HBR.out.free 0
      go_wp2_with fail
      have H4 := HBR.out.put1 (v := .slice A k cA)
      have c4 := H4.cell 0
      obtain ⟨A', c', e', hO⟩ := (HG9.out.set HBR.out (by decide) (by decide) 0 (.slice A k cA)).own
      simp only [Value.slice.injEq] at e'
      obtain ⟨rfl, _, rfl⟩ := e'
      refine bodyPost_ret (v := .agg #[.slice A k cA]) (by simp [results, Tryz.results48, go_sem, c4]) rfl ⟨A, cA, rfl, (HE0.out.trans HX.out).setCell (p := ⟨w.heap.size + 1, 0, none⟩) (by show w.heap.size ≤ w.heap.size + 1; omega) _, by rw [HGT.out]; exact hO.mono (by have := HE0.out.size; have := HZ.out; omega) (Nat.le_refl _) (Nat.le_refl _)⟩

end Go.Proofs.YtcdijeeabgmgmaaGreatDoor

/- GroupOfSubgroup: both contracts. -/
namespace Go.Proofs.YtcdijeeabgmgmaaGreatDoor
open Go.RowKit Go.Shelf

attribute [local go_sem] Oper.semAt_some

noncomputable def yGroupOfSubgroup0 (t : List (List Int)) (xs : List Int) : List (List Int) := if sgC t xs [] = 0 then grT t xs else []
noncomputable def qGroupOfSubgroup1 (t : List (List Int)) (xs : List Int) : Int := sgC t xs []
section
variable {t : List (List Int)} {xs : List Int}
theorem gso_no {z : Int} (h : sgC t xs [] = z) (hz : z ≠ 0) : yGroupOfSubgroup0 t xs = [] ∧ qGroupOfSubgroup1 t xs = z := by simp [yGroupOfSubgroup0, qGroupOfSubgroup1, h, hz]
theorem gso_yes (h : sgC t xs [] = 0) : yGroupOfSubgroup0 t xs = grT t xs ∧ qGroupOfSubgroup1 t xs = 0 := by simp [yGroupOfSubgroup0, qGroupOfSubgroup1, h]
theorem groupOfSubgroup_small0 (t : List (List Int)) (xs : List Int) : SmallT (yGroupOfSubgroup0 t xs) := by
  unfold yGroupOfSubgroup0
  split
  · rename_i h
    have := (subX_code h).len8
    exact mkT_small (by omega) (by omega)
  · exact ⟨by simp, fun i hi => by simp at hi⟩
end

theorem field_part (x y z : Value) (w : World) : (Instr.field 90 (.agg #[x, y, z]) 0).run Tryz.prog w = .ok (.agg #[x]) w := by kernel_rfl

end Go.Proofs.YtcdijeeabgmgmaaGreatDoor
