/- DirectProduct: both contracts. -/
import Derived.Deep.RegionHeld3
import Derived.Deep.RegionWith
import Derived.Deep.DeepCutAuto
import Derived.Test.YtenenlpfpkdplaaDp
namespace Go.Proofs.Ytenenlpfpkdplaa
open Go.RowKit

set_option maxRecDepth 100000 in
set_option maxHeartbeats 4000000 in
theorem dpc_ex (K A H b o b' o' d0 d1 x y : Nat) (bb oo C bb' oo' C' : Nat → Nat) (t u : List (List Int)) (w : World) (hK : Has w K 2 #[.int .i64 (u.length : Int)]) (hA : Has w A 29 #[.slice (some ⟨b, o, none⟩) t.length d0]) (hH : Has w H 29 #[.slice (some ⟨b', o', none⟩) u.length d1])
    (Z : Nat) (hZ : Z ≤ w.heap.size) (hQ : SqT w Z b o bb oo C t) (hQ1 : SqT w Z b' o' bb' oo' C' u) (ht : IsGrp t) (hu : IsGrp u) (hx : x < t.length * u.length) (hy : y < t.length * u.length) :
    Calls Try.prog 41 #[.int .i64 (x : Int), .int .i64 (y : Int), .pointer (some ⟨K, 0, none⟩), .pointer (some ⟨A, 0, none⟩), .pointer (some ⟨H, 0, none⟩)] w fun e w' => e = .returned (.int .i64 (prdN t u x y : Int)) ∧ Ex w w' := by
  have hm0 : ¬ u.length = 0 := by have := hu.n1; omega
  have hn8 := ht.n8
  have hm8 := hu.n8
  obtain ⟨xa, xb, xc, xd, p, q, s, ⟨ha, hb, hc, hd, t1, t2, t3, t4, w1, w2, q1, q2, q3, q4, hp, hq, hv, hpv, hw0, hw, hle⟩, hfe⟩ := prd_facts ht hu hx hy
  rw [hfe]
  have HSK := Lib.hid (fun (W : World) (he : Ex w W) => (⟨(hK.ex he).cell 0, (hA.ex he).cell 0, (hH.ex he).cell 0, (hQ.below he.below hZ).row_ ha, by rw [(hQ.below he.below hZ).ent_ ha hb, ht.ent ha hb, hp], (hQ1.below he.below hZ).row_ hc, by rw [(hQ1.below he.below hZ).ent_ hc hd, hu.ent hc hd, hq]⟩ :
    W.cell? ⟨K, 0, none⟩ = some (.int .i64 (u.length : Int)) ∧ W.cell? ⟨A, 0, none⟩ = some (.slice (some ⟨b, o, none⟩) t.length d0) ∧ W.cell? ⟨H, 0, none⟩ = some (.slice (some ⟨b', o', none⟩) u.length d1) ∧ W.cell? ⟨b, o + xa, none⟩ = some (.slice (some ⟨bb xa, oo xa, none⟩) t.length (C xa)) ∧ W.cell? ⟨bb xa, oo xa + xb, none⟩ = some (.int .i64 (p : Int)) ∧ W.cell? ⟨b', o' + xc, none⟩ = some (.slice (some ⟨bb' xc, oo' xc, none⟩) u.length (C' xc)) ∧ W.cell? ⟨bb' xc, oo' xc + xd, none⟩ = some (.int .i64 (q : Int))))
  clear hK hA hH hQ hQ1 ht hu hx hy hp hq hv hfe
  go_enter Try.func41, Try.ntmps41
  go_wp2_with fail
  refine wp_region_quiet (C := fun w' => Ex w w') (by kernel_rfl) (by kernel_rfl) (Ex.refl w).drew ?_
  refine BigFrame.wpQuiet_want (by rfl) fun K hK => ⟨?_, fun w' hC => ?_, hK _ ?_⟩
  rotate_left
  · (obtain ⟨q0, q1, q2, q3, q4, q5, q6⟩ := HSK.out _ hC; go_simp; first | done | with_reducible rfl | exact ⟨rfl, hC⟩)
  clear hK K
  simp only [Act.put, List.setIfInBounds_toArray, List.set_cons_zero, List.set_cons_succ]
  refine BigFrame.wpQuiet_want (by rfl) fun K hK => ⟨?_, fun w' hC => ?_, hK _ ?_⟩
  rotate_left
  · (obtain ⟨q0, q1, q2, q3, q4, q5, q6⟩ := HSK.out _ hC; go_simp; first | done | with_reducible rfl | exact ⟨rfl, hC⟩)
  clear hK K
  simp only [Act.put, List.setIfInBounds_toArray, List.set_cons_zero, List.set_cons_succ]
  refine BigFrame.wpQuiet_want (by rfl) fun K hK => ⟨?_, fun w' hC => ?_, hK _ ?_⟩
  rotate_left
  · (obtain ⟨q0, q1, q2, q3, q4, q5, q6⟩ := HSK.out _ hC; go_simp; first | done | with_reducible rfl | exact ⟨rfl, hC⟩)
  clear hK K
  simp only [Act.put, List.setIfInBounds_toArray, List.set_cons_zero, List.set_cons_succ]
  refine BigFrame.wpQuiet_want (by rfl) fun K hK => ⟨?_, fun w' hC => ?_, hK _ ?_⟩
  rotate_left
  · (obtain ⟨q0, q1, q2, q3, q4, q5, q6⟩ := HSK.out _ hC; go_simp; first | done | with_reducible rfl | exact ⟨rfl, hC⟩)
  clear hK K
  simp only [Act.put, List.setIfInBounds_toArray, List.set_cons_zero, List.set_cons_succ]
  refine BigFrame.wpQuiet_want (by rfl) fun K hK => ⟨?_, fun w' hC => ?_, hK _ ?_⟩
  rotate_left
  · (obtain ⟨q0, q1, q2, q3, q4, q5, q6⟩ := HSK.out _ hC; go_simp; first | done | with_reducible rfl | exact ⟨rfl, hC⟩)
  clear hK K
  simp only [Act.put, List.setIfInBounds_toArray, List.set_cons_zero, List.set_cons_succ]
  refine BigFrame.wpQuiet_want (by rfl) fun K hK => ⟨?_, fun w' hC => ?_, hK _ ?_⟩
  rotate_left
  · (obtain ⟨q0, q1, q2, q3, q4, q5, q6⟩ := HSK.out _ hC; go_simp; first | done | with_reducible rfl | exact ⟨rfl, hC⟩)
  clear hK K
  simp only [Act.put, List.setIfInBounds_toArray, List.set_cons_zero, List.set_cons_succ]
  refine BigFrame.wpQuiet_want (by rfl) fun K hK => ⟨?_, fun w' hC => ?_, hK _ ?_⟩
  rotate_left
  · (obtain ⟨q0, q1, q2, q3, q4, q5, q6⟩ := HSK.out _ hC; go_simp; first | done | with_reducible rfl | exact ⟨rfl, hC⟩)
  clear hK K
  simp only [Act.put, List.setIfInBounds_toArray, List.set_cons_zero, List.set_cons_succ]
  refine BigFrame.wpQuiet_want (by rfl) fun K hK => ⟨?_, fun w' hC => ?_, hK _ ?_⟩
  rotate_left
  · (obtain ⟨q0, q1, q2, q3, q4, q5, q6⟩ := HSK.out _ hC; go_simp; first | done | with_reducible rfl | exact ⟨rfl, hC⟩)
  clear hK K
  simp only [Act.put, List.setIfInBounds_toArray, List.set_cons_zero, List.set_cons_succ]
  refine BigFrame.wpQuiet_want (by rfl) fun K hK => ⟨?_, fun w' hC => ?_, hK _ ?_⟩
  rotate_left
  · (obtain ⟨q0, q1, q2, q3, q4, q5, q6⟩ := HSK.out _ hC; go_simp; first | done | with_reducible rfl | exact ⟨rfl, hC⟩)
  clear hK K
  simp only [Act.put, List.setIfInBounds_toArray, List.set_cons_zero, List.set_cons_succ]
  refine BigFrame.wpQuiet_want (by rfl) fun K hK => ⟨?_, fun w' hC => ?_, hK _ ?_⟩
  rotate_left
  · (obtain ⟨q0, q1, q2, q3, q4, q5, q6⟩ := HSK.out _ hC; go_simp; first | done | with_reducible rfl | exact ⟨rfl, hC⟩)
  clear hK K
  simp only [Act.put, List.setIfInBounds_toArray, List.set_cons_zero, List.set_cons_succ]
  refine BigFrame.wpQuiet_want (by rfl) fun K hK => ⟨?_, fun w' hC => ?_, hK _ ?_⟩
  rotate_left
  · (obtain ⟨q0, q1, q2, q3, q4, q5, q6⟩ := HSK.out _ hC; go_simp; first | done | with_reducible rfl | exact ⟨rfl, hC⟩)
  clear hK K
  simp only [Act.put, List.setIfInBounds_toArray, List.set_cons_zero, List.set_cons_succ]
  refine BigFrame.wpQuiet_want (by rfl) fun K hK => ⟨?_, fun w' hC => ?_, hK _ ?_⟩
  rotate_left
  · (obtain ⟨q0, q1, q2, q3, q4, q5, q6⟩ := HSK.out _ hC; go_simp; first | done | with_reducible rfl | exact ⟨rfl, hC⟩)
  clear hK K
  simp only [Act.put, List.setIfInBounds_toArray, List.set_cons_zero, List.set_cons_succ]
  refine BigFrame.wpQuiet_want (by rfl) fun K hK => ⟨?_, fun w' hC => ?_, hK _ ?_⟩
  rotate_left
  · (obtain ⟨q0, q1, q2, q3, q4, q5, q6⟩ := HSK.out _ hC; go_simp; first | done | with_reducible rfl | exact ⟨rfl, hC⟩)
  clear hK K
  simp only [Act.put, List.setIfInBounds_toArray, List.set_cons_zero, List.set_cons_succ]
  refine BigFrame.wpQuiet_want (by rfl) fun K hK => ⟨?_, fun w' hC => ?_, hK _ ?_⟩
  rotate_left
  · (obtain ⟨q0, q1, q2, q3, q4, q5, q6⟩ := HSK.out _ hC; go_simp; first | done | with_reducible rfl | exact ⟨rfl, hC⟩)
  clear hK K
  simp only [Act.put, List.setIfInBounds_toArray, List.set_cons_zero, List.set_cons_succ]
  refine BigFrame.wpQuiet_want (by rfl) fun K hK => ⟨?_, fun w' hC => ?_, hK _ ?_⟩
  rotate_left
  · (obtain ⟨q0, q1, q2, q3, q4, q5, q6⟩ := HSK.out _ hC; go_simp; first | done | with_reducible rfl | exact ⟨rfl, hC⟩)
  clear hK K
  simp only [Act.put, List.setIfInBounds_toArray, List.set_cons_zero, List.set_cons_succ]
  refine BigFrame.wpQuiet_want (by rfl) fun K hK => ⟨?_, fun w' hC => ?_, hK _ ?_⟩
  rotate_left
  · (obtain ⟨q0, q1, q2, q3, q4, q5, q6⟩ := HSK.out _ hC; go_simp; first | done | with_reducible rfl | exact ⟨rfl, hC⟩)
  clear hK K
  simp only [Act.put, List.setIfInBounds_toArray, List.set_cons_zero, List.set_cons_succ]
  refine BigFrame.wpQuiet_want (by rfl) fun K hK => ⟨?_, fun w' hC => ?_, hK _ ?_⟩
  rotate_left
  · (obtain ⟨q0, q1, q2, q3, q4, q5, q6⟩ := HSK.out _ hC; go_simp; first | done | with_reducible rfl | exact ⟨rfl, hC⟩)
  clear hK K
  simp only [Act.put, List.setIfInBounds_toArray, List.set_cons_zero, List.set_cons_succ]
  refine BigFrame.wpQuiet_want (by rfl) fun K hK => ⟨?_, fun w' hC => ?_, hK _ ?_⟩
  rotate_left
  · (obtain ⟨q0, q1, q2, q3, q4, q5, q6⟩ := HSK.out _ hC; go_simp; first | done | with_reducible rfl | exact ⟨rfl, hC⟩)
  clear hK K
  simp only [Act.put, List.setIfInBounds_toArray, List.set_cons_zero, List.set_cons_succ]
  refine BigFrame.wpQuiet_want (by rfl) fun K hK => ⟨?_, fun w' hC => ?_, hK _ ?_⟩
  rotate_left
  · (obtain ⟨q0, q1, q2, q3, q4, q5, q6⟩ := HSK.out _ hC; go_simp; first | done | with_reducible rfl | exact ⟨rfl, hC⟩)
  clear hK K
  simp only [Act.put, List.setIfInBounds_toArray, List.set_cons_zero, List.set_cons_succ]
  refine BigFrame.wpQuiet_want (by rfl) fun K hK => ⟨?_, fun w' hC => ?_, hK _ ?_⟩
  rotate_left
  · (obtain ⟨q0, q1, q2, q3, q4, q5, q6⟩ := HSK.out _ hC; go_simp; first | done | with_reducible rfl | exact ⟨rfl, hC⟩)
  clear hK K
  simp only [Act.put, List.setIfInBounds_toArray, List.set_cons_zero, List.set_cons_succ]
  refine BigFrame.wpQuiet_want (by rfl) fun K hK => ⟨?_, fun w' hC => ?_, hK _ ?_⟩
  rotate_left
  · (obtain ⟨q0, q1, q2, q3, q4, q5, q6⟩ := HSK.out _ hC; go_simp; first | done | with_reducible rfl | exact ⟨rfl, hC⟩)
  clear hK K
  simp only [Act.put, List.setIfInBounds_toArray, List.set_cons_zero, List.set_cons_succ]
  refine BigFrame.wpQuiet_want (by rfl) fun K hK => ⟨?_, fun w' hC => ?_, hK _ ?_⟩
  rotate_left
  · (obtain ⟨q0, q1, q2, q3, q4, q5, q6⟩ := HSK.out _ hC; go_simp; first | done | with_reducible rfl | exact ⟨rfl, hC⟩)
  clear hK K
  simp only [Act.put, List.setIfInBounds_toArray, List.set_cons_zero, List.set_cons_succ]
  refine BigFrame.wpQuiet_want (by rfl) fun K hK => ⟨?_, fun w' hC => ?_, hK _ ?_⟩
  rotate_left
  · (obtain ⟨q0, q1, q2, q3, q4, q5, q6⟩ := HSK.out _ hC; go_simp; first | done | with_reducible rfl | exact ⟨rfl, hC⟩)
  clear hK K
  simp only [Act.put, List.setIfInBounds_toArray, List.set_cons_zero, List.set_cons_succ]
  refine BigFrame.wpQuiet_want (by rfl) fun K hK => ⟨?_, fun w' hC => ?_, hK _ ?_⟩
  rotate_left
  · (obtain ⟨q0, q1, q2, q3, q4, q5, q6⟩ := HSK.out _ hC; go_simp; first | done | with_reducible rfl | exact ⟨rfl, hC⟩)
  clear hK K
  simp only [Act.put, List.setIfInBounds_toArray, List.set_cons_zero, List.set_cons_succ]
  refine BigFrame.wpQuiet_want (by rfl) fun K hK => ⟨?_, fun w' hC => ?_, hK _ ?_⟩
  rotate_left
  · (obtain ⟨q0, q1, q2, q3, q4, q5, q6⟩ := HSK.out _ hC; go_simp; first | done | with_reducible rfl | exact ⟨rfl, hC⟩)
  clear hK K
  simp only [Act.put, List.setIfInBounds_toArray, List.set_cons_zero, List.set_cons_succ]
  refine BigFrame.wpQuiet_want (by rfl) fun K hK => ⟨?_, fun w' hC => ?_, hK _ ?_⟩
  rotate_left
  · (obtain ⟨q0, q1, q2, q3, q4, q5, q6⟩ := HSK.out _ hC; go_simp; first | done | with_reducible rfl | exact ⟨rfl, hC⟩)
  clear hK K
  simp only [Act.put, List.setIfInBounds_toArray, List.set_cons_zero, List.set_cons_succ]
  refine BigFrame.wpQuiet_want (by rfl) fun K hK => ⟨?_, fun w' hC => ?_, hK _ ?_⟩
  rotate_left
  · (obtain ⟨q0, q1, q2, q3, q4, q5, q6⟩ := HSK.out _ hC; go_simp; first | done | with_reducible rfl | exact ⟨rfl, hC⟩)
  clear hK K
  simp only [Act.put, List.setIfInBounds_toArray, List.set_cons_zero, List.set_cons_succ]
  refine BigFrame.wpQuiet_want (by rfl) fun K hK => ⟨?_, fun w' hC => ?_, hK _ ?_⟩
  rotate_left
  · (obtain ⟨q0, q1, q2, q3, q4, q5, q6⟩ := HSK.out _ hC; go_simp; first | done | with_reducible rfl | exact ⟨rfl, hC⟩)
  clear hK K
  simp only [Act.put, List.setIfInBounds_toArray, List.set_cons_zero, List.set_cons_succ]
  refine wpQuiet_nil ?_
  intro w2 hC2
  have HC2 := Lib.hid hC2
  clear hC2
  go_wp2_with fail
  go_ret
  exact ⟨rfl, HC2.out⟩

section
variable {t u : List (List Int)}
theorem dp_no1 (h : grpB t = false) : yDirectProduct0 t u = [] ∧ qDirectProduct1 t u = 1 := by
  have e : dpC t u = 1 := by rw [dpC, if_neg (by simp [h])]
  exact ⟨by rw [yDirectProduct0, e, if_neg (by omega)], e⟩
theorem dp_no2 (h : grpB u = false) : yDirectProduct0 t u = [] ∧ qDirectProduct1 t u = 1 := by
  have e : dpC t u = 1 := by rw [dpC, if_neg (by simp [h])]
  exact ⟨by rw [yDirectProduct0, e, if_neg (by omega)], e⟩
theorem dp_lim (h1 : grpB t = true) (h2 : grpB u = true) (h : ¬ t.length * u.length ≤ 8) : yDirectProduct0 t u = [] ∧ qDirectProduct1 t u = 3 := by
  have e : dpC t u = 3 := by rw [dpC, if_pos ⟨h1, h2⟩, if_neg h]
  exact ⟨by rw [yDirectProduct0, e, if_neg (by omega)], e⟩
theorem dp_yes (h1 : grpB t = true) (h2 : grpB u = true) (h : t.length * u.length ≤ 8) : yDirectProduct0 t u = mkT (t.length * u.length) (t.length * u.length) (fun x y => (prdN t u x y : Int)) ∧ qDirectProduct1 t u = 0 := by
  have e : dpC t u = 0 := by rw [dpC, if_pos ⟨h1, h2⟩, if_pos h]
  exact ⟨by rw [yDirectProduct0, e, if_pos rfl], e⟩
end

set_option maxRecDepth 100000 in
set_option maxHeartbeats 8000000 in
theorem implDirectProduct_ex (t0 t1 : List (List Int)) : ∀ (B0 : Option Addr) (d0 : Nat) (B1 : Option Addr) (d1 : Nat) (W : World), RwsW W B0 t0 → RwsW W B1 t1 → SmallT t0 → SmallT t1 →
    Calls Try.prog 17 #[.agg #[.slice B0 t0.length d0], .agg #[.slice B1 t1.length d1]] W fun e W' => ∃ (C0 : Option Addr) (e0 : Nat), e = .returned (.tuple #[.agg #[.slice C0 (yDirectProduct0 t0 t1).length e0], .int .i64 (qDirectProduct1 t0 t1)]) ∧ Ex W W' ∧ OwnT W' W.heap.size W'.heap.size C0 (yDirectProduct0 t0 t1) := by
  intro B0 d0 B1 d1 w hR hR1 hs hs1
  have e0 : Ex w (((w.alloc (.cells #[.slice B0 t0.length d0] 29)).alloc (.cells #[.slice B1 t1.length d1] 29)).alloc (.cells #[.slice none 0 0] 29)) := (((Ex.refl w).alloc _).alloc _).alloc _
  have b0 : Has (((w.alloc (.cells #[.slice B0 t0.length d0] 29)).alloc (.cells #[.slice B1 t1.length d1] 29)).alloc (.cells #[.slice none 0 0] 29)) (w.heap.size) 29 #[.slice B0 t0.length d0] := (((Has.newAt (w := w) (e := 29) (cs := #[.slice B0 t0.length d0]) (k := w.heap.size) (by simp)).alloc _).alloc _)
  have b1 : Has (((w.alloc (.cells #[.slice B0 t0.length d0] 29)).alloc (.cells #[.slice B1 t1.length d1] 29)).alloc (.cells #[.slice none 0 0] 29)) (w.heap.size + 1) 29 #[.slice B1 t1.length d1] := ((Has.newAt (w := (w.alloc (.cells #[.slice B0 t0.length d0] 29))) (e := 29) (cs := #[.slice B1 t1.length d1]) (k := w.heap.size + 1) (by simp)).alloc _)
  have b2 : Has (((w.alloc (.cells #[.slice B0 t0.length d0] 29)).alloc (.cells #[.slice B1 t1.length d1] 29)).alloc (.cells #[.slice none 0 0] 29)) (w.heap.size + 1 + 1) 29 #[.slice none 0 0] := (Has.newAt (w := ((w.alloc (.cells #[.slice B0 t0.length d0] 29)).alloc (.cells #[.slice B1 t1.length d1] 29))) (e := 29) (cs := #[.slice none 0 0]) (k := w.heap.size + 1 + 1) (by simp))
  obtain ⟨W0, hW0⟩ : ∃ W0, (((w.alloc (.cells #[.slice B0 t0.length d0] 29)).alloc (.cells #[.slice B1 t1.length d1] 29)).alloc (.cells #[.slice none 0 0] 29)) = W0 := ⟨_, rfl⟩
  rw [hW0] at e0 b0 b1 b2
  have HW0 := Lib.hid hW0
  clear hW0
  have HC := Lib.hid (fun W (he : Ex w W) => implIsGroup_ex B0 t0 d0 W (hR.ex he) hs)
  have HC1 := Lib.hid (fun W (he : Ex w W) => implIsGroup_ex B1 t1 d1 W (hR1.ex he) hs1)
  have HE0 := Lib.hid e0
  have HB0 := Lib.hid b0
  have HB1 := Lib.hid b1
  have HB2 := Lib.hid b2
  have c0 := b0.cell 0
  cases hg : grpB t0 with
  | false =>
    have HQ := Lib.hid (dp_no1 (u := t1) hg)
    rw [hg] at HC
    clear hR hR1 hs hs1 hg e0 b0 b1 b2
    go_enter Try.func17, Try.ntmps17
    go_wp2_with fail
    rw [HW0.out]
    refine (HC.out _ HE0.out).mono ?_
    rintro e W1 ⟨rfl, he1⟩
    have HBR := Lib.hid (HB2.out.ex he1)
    have cr := HBR.out.cell 0
    have fr := HBR.out.free 0
    have HE1 := Lib.hid (HE0.out.trans he1)
    clear he1 c0
    go_wp2_with fail
    have H4 := HBR.out.put1 (v := .slice none 0 0)
    have c4 := H4.cell 0
    refine bodyPost_ret (v := .tuple #[.agg #[.slice none 0 0], .int .i64 1]) (by simp [results, Try.results17, go_sem, c4]) rfl ⟨none, 0, by rw [HQ.out.1, HQ.out.2]; rfl, HE1.out.setCell (by show w.heap.size ≤ w.heap.size + 1 + 1; omega) _, by rw [HQ.out.1]; exact OwnT.nil _ _ _ (Nat.le_refl _)⟩
  | true =>
    rw [hg] at HC
    have hgt := grpB_iff.1 hg
    cases hg1 : grpB t1 with
    | false =>
      have HQ := Lib.hid (dp_no2 (t := t0) hg1)
      rw [hg1] at HC1
      clear hR hR1 hs hs1 hg hg1 e0 b0 b1 b2 hgt
      go_enter Try.func17, Try.ntmps17
      go_wp2_with fail
      rw [HW0.out]
      refine (HC.out _ HE0.out).mono ?_
      rintro e W1 ⟨rfl, he1⟩
      have c1 := (HB1.out.ex he1).cell 0
      clear c0
      go_wp2_with fail
      refine (HC1.out _ (HE0.out.trans he1)).mono ?_
      rintro e W2 ⟨rfl, he2⟩
      have HBR := Lib.hid (HB2.out.ex (he1.trans he2))
      have cr := HBR.out.cell 0
      have fr := HBR.out.free 0
      have HE1 := Lib.hid (HE0.out.trans (he1.trans he2))
      clear he1 he2 c1
      go_wp2_with fail
      have H4 := HBR.out.put1 (v := .slice none 0 0)
      have c4 := H4.cell 0
      refine bodyPost_ret (v := .tuple #[.agg #[.slice none 0 0], .int .i64 1]) (by simp [results, Try.results17, go_sem, c4]) rfl ⟨none, 0, by rw [HQ.out.1, HQ.out.2]; rfl, HE1.out.setCell (by show w.heap.size ≤ w.heap.size + 1 + 1; omega) _, by rw [HQ.out.1]; exact OwnT.nil _ _ _ (Nat.le_refl _)⟩
    | true =>
      rw [hg1] at HC1
      have hgu := grpB_iff.1 hg1
      have hn8 := hgt.n8
      have hm8 := hgu.n8
      have hK64 : t0.length * t1.length ≤ 64 := Nat.le_trans (Nat.mul_le_mul hn8 hm8) (by omega)
      obtain ⟨b, o, bb, oo, C, rfl, hQ⟩ := hR.sq hgt
      obtain ⟨b', o', bb', oo', C', rfl, hQ1⟩ := hR1.sq hgu
      have hmf : ∀ (fn : Fn) (first cap : Array Value) (w : World), (Instr.makeFunc fn first cap).run Try.prog w = .ok (.func fn first cap) w := fun _ _ _ _ => rfl
      have HML := Lib.hid (fun (D : Nat) W (he : Ex W0 W) (hD : Has W D 2 #[.int .i64 (t1.length : Int)]) =>
        groupWith_has (t0.length * t1.length) 41 #[.pointer (some ⟨D, 0, none⟩), .pointer (some ⟨w.heap.size, 0, none⟩), .pointer (some ⟨w.heap.size + 1, 0, none⟩)] (fun x y => (prdN t0 t1 x y : Int)) W (by omega)
          (enters_of Try.func41 (by kernel_rfl) rfl)
          (fun W' he' x y hx hy => dpc_ex D w.heap.size (w.heap.size + 1) b o b' o' d0 d1 x y bb oo C bb' oo' C' t0 t1 W' (hD.ex he') (b0.ex (he.trans he')) (b1.ex (he.trans he')) w.heap.size (e0.trans (he.trans he')).size (hQ.below (e0.trans (he.trans he')).below (Nat.le_refl _)) (hQ1.below (e0.trans (he.trans he')).below (Nat.le_refl _)) hgt hgu hx hy))
      have HML2 : Hid (∀ (D : Nat) W (he : Ex W0 W) (hD : Has W D 2 #[.int .i64 (t1.length : Int)]), Calls Try.prog 40 #[.int .i64 ((t0.length * t1.length : Nat) : Int), .func (.func 41) #[] #[.pointer (some ⟨D, 0, none⟩), .pointer (some ⟨w.heap.size, 0, none⟩), .pointer (some ⟨w.heap.size + 1, 0, none⟩)]] W fun e w' => ∃ G R, e = .returned (.agg #[.slice (some ⟨R, 0, none⟩) (t0.length * t1.length) (t0.length * t1.length)]) ∧ Ex W w' ∧ W.heap.size ≤ G ∧ W.heap.size ≤ R ∧ Has w' G 2 (tab ((t0.length * t1.length) * (t0.length * t1.length)) fun p => .int .i64 (prdN t0 t1 (p / (t0.length * t1.length)) (p % (t0.length * t1.length)) : Int)) ∧ Has w' R 26 (rowsV G (t0.length * t1.length))) := HML
      clear HML
      have HQN := Lib.hid (fun h => dp_lim hg hg1 h)
      have HQY := Lib.hid (fun h => dp_yes hg hg1 h)
      obtain ⟨K, hK⟩ : ∃ K, t0.length * t1.length = K := ⟨_, rfl⟩
      have hKi : (t0.length : Int) * (t1.length : Int) = (K : Int) := by rw [← hK]; simp
      rw [hK] at hK64 HML2 HQN HQY
      have hwK : IntKind.i64.wrap (K : Int) = (K : Int) := IntWalk.i64_in _ (by omega)
      clear hR hR1 hs hs1 hg hg1 hQ hQ1 hgt hgu hK e0 b0 b1 b2
      go_enter Try.func17, Try.ntmps17
      go_upto_region 3 with (first | (go_at_call_of 36 (Value.slice (some ⟨b, o, none⟩) t0.length d0); rw [HW0.out]; refine (HC.out _ HE0.out).mono ?_; rintro e W1 ⟨rfl, he1⟩; have c1 := (HB1.out.ex he1).cell 0; clear c0) | (go_at_call_of 36 (Value.slice (some ⟨b', o', none⟩) t1.length d1); refine (HC1.out _ (HE0.out.trans he1)).mono ?_; rintro e W2 ⟨rfl, he2⟩; clear c1))
      have he12 := he1.trans he2
      have HE2 := Lib.hid he12
      have HKP := Lib.hid (fun (W' : World) (hb : Ex W2 W') => And.intro ((HB0.out.ex (he12.trans hb)).cell 0) ((HB1.out.ex (he12.trans hb)).cell 0))
      clear he1 he2 he12
      go_cut [6, 7] (fun s6 s7 wx => ∃ D : Nat, s6 = .int .i64 (t0.length : Int) ∧ s7 = .pointer (some ⟨D, 0, none⟩) ∧ Ex W2 wx ∧ Has wx D 2 #[.int .i64 (t1.length : Int)])
      case first =>
        go_region_held3 (fun w' : World => w'.cell? ⟨w.heap.size, 0, none⟩ = some (.slice (some ⟨b, o, none⟩) t0.length d0) ∧ w'.cell? ⟨w.heap.size + 1, 0, none⟩ = some (.slice (some ⟨b', o', none⟩) t1.length d1))
          (exact HKP.out _ (by (repeat' (first | assumption | exact Ex.refl _ | refine Ex.alloc ?_ _ | refine Ex.drew ?_ | refine Ex.setCell ?_ (by first | exact Nat.le_refl _ | assumption | (show _ ≤ _; omega) | (simp; omega) | simp) _ | refine Ex.trans ?_ (by assumption)))))
          (first
            | (go_at_call_of 39 (Value.slice (some ⟨b, o, none⟩) t0.length d0); refine (groupOrder_any (some ⟨b, o, none⟩) t0.length d0 _ (by omega)).mono ?_; rintro e w' ⟨rfl, rfl⟩)
            | (go_at_call_of 39 (Value.slice (some ⟨b', o', none⟩) t1.length d1); refine (groupOrder_any (some ⟨b', o', none⟩) t1.length d1 _ (by omega)).mono ?_; rintro e w' ⟨rfl, rfl⟩))
        all_goals
          go_wp2_with fail
          go_meet
        all_goals
          refine ⟨_, rfl, rfl, ?_, ?_⟩
          · (repeat' (first | with_reducible exact Ex.refl _ | with_reducible refine Ex.alloc ?_ _ | with_reducible refine Ex.drew ?_ | with_reducible refine Ex.setCell ?_ (by simp; try omega) _))
          · first
              | exact Has.newAt (by simp)
              | exact Has.alloc (Has.newAt (by simp)) _
              | exact Has.alloc (Has.alloc (Has.newAt (by simp)) _) _
              | exact Has.put1 (x := .int .i64 0) (Has.newAt (by simp))
              | exact Has.put1 (x := .int .i64 0) (Has.alloc (Has.newAt (by simp)) _)
              | exact Has.put1 (x := .int .i64 0) (Has.alloc (Has.alloc (Has.newAt (by simp)) _) _)
      obtain ⟨W3, rfl⟩ : ∃ x : World, x = wc := ⟨_, rfl⟩
      obtain ⟨D, rfl, rfl, he3, hbD⟩ := hcut
      have HE3 := Lib.hid (HE2.out.trans he3)
      have HCL := Lib.hid (HML2.out D W3 HE3.out hbD)
      have HBR := Lib.hid (HB2.out.ex HE3.out)
      have cD := hbD.cell 0
      have cr := HBR.out.cell 0
      have fr := HBR.out.free 0
      clear HKP he3 hbD HML2 HB0 HB1 HB2
      by_cases hle : K ≤ 8
      · have HQ := Lib.hid (HQY.out hle)
        clear HQN HQY cr fr
        go_wp2_with fail
        refine HCL.out.mono ?_
        rintro e w' ⟨G, R, rfl, he4, hlG, hlR, hG, hR⟩
        have HBS := Lib.hid (HBR.out.ex he4)
        have HE4 := Lib.hid (HE0.out.trans (HE3.out.trans he4))
        have hlw := (HE0.out.trans HE3.out).size
        have hRb := HBR.out.lt
        have HGH := Lib.hid hG
        have HRH := Lib.hid hR
        have cr := HBS.out.cell 0
        have fr := HBS.out.free 0
        clear he4 hG hR cD
        go_wp2_with fail
        have H4 := HBS.out.put1 (v := .slice (some ⟨R, 0, none⟩) K K)
        have c4 := H4.cell 0
        refine bodyPost_ret (v := .tuple #[.agg #[.slice (some ⟨R, 0, none⟩) K K], .int .i64 0]) (by simp [results, Try.results17, go_sem, c4]) rfl ⟨some ⟨R, 0, none⟩, K, by rw [HQ.out.1, HQ.out.2, mkT_len], HE4.out.setCell (by show w.heap.size ≤ w.heap.size + 1 + 1; omega) _, ?_⟩
        rw [HQ.out.1]
        exact OwnT.of_block (HGH.out.far (p := ⟨w.heap.size + 1 + 1, 0, none⟩) (by show G ≠ w.heap.size + 1 + 1; omega) _) (HRH.out.far (p := ⟨w.heap.size + 1 + 1, 0, none⟩) (by show R ≠ w.heap.size + 1 + 1; omega) _) (by omega) (by omega)
      · have HQ := Lib.hid (HQN.out hle)
        clear HQN HQY
        go_wp2_with fail
        have H4 := HBR.out.put1 (v := .slice none 0 0)
        have c4 := H4.cell 0
        refine bodyPost_ret (v := .tuple #[.agg #[.slice none 0 0], .int .i64 3]) (by simp [results, Try.results17, go_sem, c4]) rfl ⟨none, 0, by rw [HQ.out.1, HQ.out.2]; rfl, (HE0.out.trans HE3.out).setCell (by show w.heap.size ≤ w.heap.size + 1 + 1; omega) _, by rw [HQ.out.1]; exact OwnT.nil _ _ _ (Nat.le_refl _)⟩

set_option maxRecDepth 100000 in
set_option maxHeartbeats 8000000 in
theorem specDirectProduct_ex (t0 t1 : List (List Int)) : ∀ (B0 : Option Addr) (d0 : Nat) (B1 : Option Addr) (d1 : Nat) (W : World), RwsW W B0 t0 → RwsW W B1 t1 → SmallT t0 → SmallT t1 →
    Calls Try.prog 16 #[.agg #[.slice B0 t0.length d0], .agg #[.slice B1 t1.length d1]] W fun e W' => ∃ (C0 : Option Addr) (e0 : Nat), e = .returned (.tuple #[.agg #[.slice C0 (yDirectProduct0 t0 t1).length e0], .int .i64 (qDirectProduct1 t0 t1)]) ∧ Ex W W' ∧ OwnT W' W.heap.size W'.heap.size C0 (yDirectProduct0 t0 t1) := by
  intro B0 d0 B1 d1 w hR hR1 hs hs1
  have e0 : Ex w (((w.alloc (.cells #[.slice B0 t0.length d0] 29)).alloc (.cells #[.slice B1 t1.length d1] 29)).alloc (.cells #[.slice none 0 0] 29)) := (((Ex.refl w).alloc _).alloc _).alloc _
  have b0 : Has (((w.alloc (.cells #[.slice B0 t0.length d0] 29)).alloc (.cells #[.slice B1 t1.length d1] 29)).alloc (.cells #[.slice none 0 0] 29)) (w.heap.size) 29 #[.slice B0 t0.length d0] := (((Has.newAt (w := w) (e := 29) (cs := #[.slice B0 t0.length d0]) (k := w.heap.size) (by simp)).alloc _).alloc _)
  have b1 : Has (((w.alloc (.cells #[.slice B0 t0.length d0] 29)).alloc (.cells #[.slice B1 t1.length d1] 29)).alloc (.cells #[.slice none 0 0] 29)) (w.heap.size + 1) 29 #[.slice B1 t1.length d1] := ((Has.newAt (w := (w.alloc (.cells #[.slice B0 t0.length d0] 29))) (e := 29) (cs := #[.slice B1 t1.length d1]) (k := w.heap.size + 1) (by simp)).alloc _)
  have b2 : Has (((w.alloc (.cells #[.slice B0 t0.length d0] 29)).alloc (.cells #[.slice B1 t1.length d1] 29)).alloc (.cells #[.slice none 0 0] 29)) (w.heap.size + 1 + 1) 29 #[.slice none 0 0] := (Has.newAt (w := ((w.alloc (.cells #[.slice B0 t0.length d0] 29)).alloc (.cells #[.slice B1 t1.length d1] 29))) (e := 29) (cs := #[.slice none 0 0]) (k := w.heap.size + 1 + 1) (by simp))
  obtain ⟨W0, hW0⟩ : ∃ W0, (((w.alloc (.cells #[.slice B0 t0.length d0] 29)).alloc (.cells #[.slice B1 t1.length d1] 29)).alloc (.cells #[.slice none 0 0] 29)) = W0 := ⟨_, rfl⟩
  rw [hW0] at e0 b0 b1 b2
  have HW0 := Lib.hid hW0
  clear hW0
  have HC := Lib.hid (fun W (he : Ex w W) => l01Is_ex B0 t0 d0 W (hR.ex he) hs)
  have HC1 := Lib.hid (fun W (he : Ex w W) => l01Is_ex B1 t1 d1 W (hR1.ex he) hs1)
  have HE0 := Lib.hid e0
  have HB0 := Lib.hid b0
  have HB1 := Lib.hid b1
  have HB2 := Lib.hid b2
  have c0 := b0.cell 0
  cases hg : grpB t0 with
  | false =>
    have HQ := Lib.hid (dp_no1 (u := t1) hg)
    rw [hg] at HC
    clear hR hR1 hs hs1 hg e0 b0 b1 b2
    go_enter Try.func16, Try.ntmps16
    go_wp2_with fail
    rw [HW0.out]
    refine (HC.out _ HE0.out).mono ?_
    rintro e W1 ⟨rfl, he1⟩
    have HBR := Lib.hid (HB2.out.ex he1)
    have cr := HBR.out.cell 0
    have fr := HBR.out.free 0
    have HE1 := Lib.hid (HE0.out.trans he1)
    clear he1 c0
    go_wp2_with fail
    have H4 := HBR.out.put1 (v := .slice none 0 0)
    have c4 := H4.cell 0
    refine bodyPost_ret (v := .tuple #[.agg #[.slice none 0 0], .int .i64 1]) (by simp [results, Try.results16, go_sem, c4]) rfl ⟨none, 0, by rw [HQ.out.1, HQ.out.2]; rfl, HE1.out.setCell (by show w.heap.size ≤ w.heap.size + 1 + 1; omega) _, by rw [HQ.out.1]; exact OwnT.nil _ _ _ (Nat.le_refl _)⟩
  | true =>
    rw [hg] at HC
    have hgt := grpB_iff.1 hg
    cases hg1 : grpB t1 with
    | false =>
      have HQ := Lib.hid (dp_no2 (t := t0) hg1)
      rw [hg1] at HC1
      clear hR hR1 hs hs1 hg hg1 e0 b0 b1 b2 hgt
      go_enter Try.func16, Try.ntmps16
      go_wp2_with fail
      rw [HW0.out]
      refine (HC.out _ HE0.out).mono ?_
      rintro e W1 ⟨rfl, he1⟩
      have c1 := (HB1.out.ex he1).cell 0
      clear c0
      go_wp2_with fail
      refine (HC1.out _ (HE0.out.trans he1)).mono ?_
      rintro e W2 ⟨rfl, he2⟩
      have HBR := Lib.hid (HB2.out.ex (he1.trans he2))
      have cr := HBR.out.cell 0
      have fr := HBR.out.free 0
      have HE1 := Lib.hid (HE0.out.trans (he1.trans he2))
      clear he1 he2 c1
      go_wp2_with fail
      have H4 := HBR.out.put1 (v := .slice none 0 0)
      have c4 := H4.cell 0
      refine bodyPost_ret (v := .tuple #[.agg #[.slice none 0 0], .int .i64 1]) (by simp [results, Try.results16, go_sem, c4]) rfl ⟨none, 0, by rw [HQ.out.1, HQ.out.2]; rfl, HE1.out.setCell (by show w.heap.size ≤ w.heap.size + 1 + 1; omega) _, by rw [HQ.out.1]; exact OwnT.nil _ _ _ (Nat.le_refl _)⟩
    | true =>
      rw [hg1] at HC1
      have hgt := grpB_iff.1 hg
      have hgu := grpB_iff.1 hg1
      have hn8 := hgt.n8
      have hm8 := hgu.n8
      have hK64 : t0.length * t1.length ≤ 64 := Nat.le_trans (Nat.mul_le_mul hn8 hm8) (by omega)
      have HP := Lib.hid (fun W (he : Ex w W) => l01Product_any B0 B1 t0 t1 d0 d1 W (hR.ex he) (hR1.ex he) hgt hgu)
      have HQN := Lib.hid (fun h => dp_lim hg hg1 h)
      have HQY := Lib.hid (fun h => dp_yes hg hg1 h)
      obtain ⟨K, hK⟩ : ∃ K, t0.length * t1.length = K := ⟨_, rfl⟩
      have hKi : (t0.length : Int) * (t1.length : Int) = (K : Int) := by rw [← hK]; simp
      rw [hK] at hK64 HP HQN HQY
      have hwK : IntKind.i64.wrap (K : Int) = (K : Int) := IntWalk.i64_in _ (by omega)
      clear hR hR1 hs hs1 hg hg1 hgt hgu hK e0 b0 b1 b2
      go_enter Try.func16, Try.ntmps16
      go_wp2_with fail
      rw [HW0.out]
      refine (HC.out _ HE0.out).mono ?_
      rintro e W1 ⟨rfl, he1⟩
      have c1 := (HB1.out.ex he1).cell 0
      clear c0
      go_wp2_with fail
      refine (HC1.out _ (HE0.out.trans he1)).mono ?_
      rintro e W2 ⟨rfl, he2⟩
      have he12 := he1.trans he2
      have HE2 := Lib.hid he12
      have HSK := Lib.hid (fun (W' : World) (hb : Ex W2.drew W') => And.intro ((HB0.out.ex (he12.drew.trans hb)).cell 0) ((HB1.out.ex (he12.drew.trans hb)).cell 0))
      clear c1 he1 he2 he12
      go_wp2_with fail
      refine wp_region_quiet (C := fun w' => Ex W2.drew w') (by kernel_rfl) (by kernel_rfl) (Ex.refl _) ?_
      refine BigFrame.wpQuiet_want (by rfl) fun K hK => ⟨?_, fun w' hC => ?_, hK _ ?_⟩
      rotate_left
      · (obtain ⟨q0, q1⟩ := HSK.out _ hC; go_simp; first | done | with_reducible rfl | exact ⟨rfl, hC⟩)
      clear hK K
      simp only [Act.put, List.setIfInBounds_toArray, List.set_cons_zero, List.set_cons_succ]
      refine BigFrame.wpQuiet_want (by rfl) fun K hK => ⟨.int .i64 (t0.length : Int), fun w' hC => (by go_simp; refine ((l01N_ex B0 t0.length d0 w' (by omega))).mono ?_; rintro e w2 ⟨rfl, hb⟩; exact ⟨rfl, hC.trans hb⟩), hK _ ?_⟩
      clear hK K
      simp only [Act.put, List.setIfInBounds_toArray, List.set_cons_zero, List.set_cons_succ]
      refine BigFrame.wpQuiet_want (by rfl) fun K hK => ⟨?_, fun w' hC => ?_, hK _ ?_⟩
      rotate_left
      · (obtain ⟨q0, q1⟩ := HSK.out _ hC; go_simp; first | done | with_reducible rfl | exact ⟨rfl, hC⟩)
      clear hK K
      simp only [Act.put, List.setIfInBounds_toArray, List.set_cons_zero, List.set_cons_succ]
      refine BigFrame.wpQuiet_want (by rfl) fun K hK => ⟨.int .i64 (t1.length : Int), fun w' hC => (by go_simp; refine ((l01N_ex B1 t1.length d1 w' (by omega))).mono ?_; rintro e w2 ⟨rfl, hb⟩; exact ⟨rfl, hC.trans hb⟩), hK _ ?_⟩
      clear hK K
      simp only [Act.put, List.setIfInBounds_toArray, List.set_cons_zero, List.set_cons_succ]
      refine BigFrame.wpQuiet_want (by rfl) fun K hK => ⟨?_, fun w' hC => ?_, hK _ ?_⟩
      rotate_left
      · (obtain ⟨q0, q1⟩ := HSK.out _ hC; go_simp; first | done | with_reducible rfl | exact ⟨rfl, hC⟩)
      clear hK K
      simp only [Act.put, List.setIfInBounds_toArray, List.set_cons_zero, List.set_cons_succ]
      refine BigFrame.wpQuiet_want (by rfl) fun K hK => ⟨?_, fun w' hC => ?_, hK _ ?_⟩
      rotate_left
      · (obtain ⟨q0, q1⟩ := HSK.out _ hC; go_simp; first | done | with_reducible rfl | exact ⟨rfl, hC⟩)
      clear hK K
      simp only [Act.put, List.setIfInBounds_toArray, List.set_cons_zero, List.set_cons_succ]
      refine BigFrame.wpQuiet_want (by rfl) fun K hK => ⟨?_, fun w' hC => ?_, hK _ ?_⟩
      rotate_left
      · (obtain ⟨q0, q1⟩ := HSK.out _ hC; go_simp; first | done | with_reducible rfl | exact ⟨rfl, hC⟩)
      clear hK K
      simp only [Act.put, List.setIfInBounds_toArray, List.set_cons_zero, List.set_cons_succ]
      refine wpQuiet_nil ?_
      intro w2 hC2
      have HC2 := Lib.hid (HE2.out.drew.trans hC2)
      have HBR := Lib.hid (HB2.out.ex HC2.out)
      clear hC2
      by_cases hle : K ≤ 8
      · have HQ := Lib.hid (HQY.out hle)
        have k0 := (HB0.out.ex HC2.out).cell 0
        have k1 := (HB1.out.ex HC2.out).cell 0
        go_wp2_with fail
        refine (HP.out _ (HE0.out.trans HC2.out)).mono ?_
        rintro e w' ⟨C, n, rfl, he4, ho⟩
        have HBS := Lib.hid (HBR.out.ex he4)
        have HE4 := Lib.hid (HE0.out.trans (HC2.out.trans he4))
        have hlw := (HE0.out.trans HC2.out).size
        have hRb := HBR.out.lt
        have HO := Lib.hid ho
        have cr := HBS.out.cell 0
        have fr := HBS.out.free 0
        clear he4 ho k0 k1
        go_wp2_with fail
        have H4 := HBS.out.put1 (v := .slice C K n)
        have c4 := H4.cell 0
        have hon := Only.set w' (w.heap.size + 1 + 1) 0 (.slice C K n)
        refine bodyPost_ret (v := .tuple #[.agg #[.slice C K n], .int .i64 0]) (by simp [results, Try.results16, go_sem, c4]) rfl ⟨C, n, by rw [HQ.out.1, HQ.out.2, mkT_len], HE4.out.setCell (by show w.heap.size ≤ w.heap.size + 1 + 1; omega) _, ?_⟩
        rw [HQ.out.1]
        exact (HO.out.above hon (by omega)).mono (by omega) (hon.size) (Nat.le_refl _)
      · have HQ := Lib.hid (HQN.out hle)
        have cr := HBR.out.cell 0
        have fr := HBR.out.free 0
        go_wp2_with fail
        have H4 := HBR.out.put1 (v := .slice none 0 0)
        have c4 := H4.cell 0
        refine bodyPost_ret (v := .tuple #[.agg #[.slice none 0 0], .int .i64 3]) (by simp [results, Try.results16, go_sem, c4]) rfl ⟨none, 0, by rw [HQ.out.1, HQ.out.2]; rfl, (HE0.out.trans HC2.out).setCell (by show w.heap.size ≤ w.heap.size + 1 + 1; omega) _, by rw [HQ.out.1]; exact OwnT.nil _ _ _ (Nat.le_refl _)⟩

end Go.Proofs.Ytenenlpfpkdplaa
