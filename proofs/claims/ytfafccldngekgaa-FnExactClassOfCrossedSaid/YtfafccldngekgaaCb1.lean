/- Crossed maps: the program's test at two elements. -/
import Derived.Test.YtfafccldngekgaaCr
namespace Go.Proofs.Ytfafccldngekgaa
open Go.RowKit Go.Shelf

attribute [local go_sem] Oper.semAt_some

set_option maxRecDepth 100000 in
set_option maxHeartbeats 1000000 in
theorem isNumberList_any (B0 B1 B2 : Option Addr) (t0 : List (List Int)) (M : Nat) (us fs : List Int) (d0 d1 d2 : Nat) (w : World) (hN8 : t0.length ≤ 8) (hM12 : M ≤ 12) (hF : IntsW w B2 fs) (hx : fs.length ≤ 1048576) :
    Calls Try.prog 95 #[.agg #[.slice B0 t0.length d0], .agg #[.int .i64 (M : Int), .slice B1 us.length d1], .slice B2 fs.length d2] w fun e w' => e = .returned (.bool (numB t0.length (M : Int) fs)) ∧ Ex w w' := by
  have e0 : Ex w ((w.alloc (.cells #[.slice B0 t0.length d0] 32)).alloc (.cells #[.int .i64 (M : Int), .slice B1 us.length d1] 34)) := ((Ex.refl w).alloc _).alloc _
  have b0 : Has ((w.alloc (.cells #[.slice B0 t0.length d0] 32)).alloc (.cells #[.int .i64 (M : Int), .slice B1 us.length d1] 34)) (w.heap.size) 32 #[.slice B0 t0.length d0] := ((Has.newAt (w := w) (e := 32) (cs := #[.slice B0 t0.length d0]) (k := w.heap.size) (by simp)).alloc _)
  have b1 : Has ((w.alloc (.cells #[.slice B0 t0.length d0] 32)).alloc (.cells #[.int .i64 (M : Int), .slice B1 us.length d1] 34)) (w.heap.size + 1) 34 #[.int .i64 (M : Int), .slice B1 us.length d1] := (Has.newAt (w := (w.alloc (.cells #[.slice B0 t0.length d0] 32))) (e := 34) (cs := #[.int .i64 (M : Int), .slice B1 us.length d1]) (k := w.heap.size + 1) (by simp))
  have HF := Lib.hid (hF.ex e0)
  have HE0 := Lib.hid e0
  have c0 := b0.cell 0
  clear hF
  by_cases hl : fs.length = t0.length
  · have hq : ((fs.length : Int) == (t0.length : Int)) = true := by simp [hl]
    have HC := Lib.hid (numB_low' (m := (M : Int)) hl)
    obtain ⟨bv, hbv⟩ : ∃ b, belowB (M : Int) fs = b := ⟨_, rfl⟩
    have HBV := Lib.hid hbv
    clear hl hbv
    go_enter Try.func95, Try.ntmps95
    go_wp2_with fail
    generalize ((w.alloc (.cells #[.slice B0 t0.length d0] 32)).alloc (.cells #[.int .i64 (M : Int), .slice B1 us.length d1] 34)) = W0 at *
    refine (groupOrder_ex B0 t0.length d0 _ (by omega)).mono ?_
    rintro e W1 ⟨rfl, he1⟩
    have c1 := (b1.ex he1).cell 0
    clear c0
    go_wp2_with fail
    refine (areBelow_any B2 (M : Int) fs d2 _ (HF.out.ex he1) hx (by omega) (by omega)).mono ?_
    rw [HBV.out]
    rintro e W2 ⟨rfl, he2⟩
    go_wp2_with fail
    go_ret
    exact ⟨by rw [HC.out, HBV.out]; rfl, HE0.out.trans (he1.trans he2)⟩
  · have hq : ((fs.length : Int) == (t0.length : Int)) = false := by simp; omega
    have HC := Lib.hid (numB_len (m := (M : Int)) hl)
    clear hl
    go_enter Try.func95, Try.ntmps95
    go_wp2_with fail
    generalize ((w.alloc (.cells #[.slice B0 t0.length d0] 32)).alloc (.cells #[.int .i64 (M : Int), .slice B1 us.length d1] 34)) = W0 at *
    refine (groupOrder_ex B0 t0.length d0 _ (by omega)).mono ?_
    rintro e W1 ⟨rfl, he1⟩
    go_wp2_with fail
    go_ret
    exact ⟨by rw [HC.out]; rfl, HE0.out.trans he1⟩

/-- The test at two elements, of the beginning of a list. -/
def ccB (t : List (List Int)) (M : Nat) (us fs : List Int) (x y : Nat) : Bool := decide (fs.length ≤ mul t x y) || decide (im fs (mul t x y) = crsV M us fs x y)
theorem ccB_iff {t : List (List Int)} {M x y : Nat} {us fs : List Int} (h : mul t x y < fs.length) : ccB t M us fs x y = true ↔ CrsAt t M us fs x y := by
  unfold ccB CrsAt
  rw [decide_eq_false (by omega), Bool.false_or, decide_eq_true_eq]

set_option maxRecDepth 100000 in
set_option maxHeartbeats 4000000 in
theorem isCrossedAt_any (B0 B1 B2 : Option Addr) (t0 : List (List Int)) (M : Nat) (us fs : List Int) (d0 d1 d2 x y : Nat) (w : World) (hR : RwsW w B0 t0) (hX : IntsW w B1 us) (hF : IntsW w B2 fs) (hm : ModF t0 M us) (hl : fs.length ≤ t0.length) (hr : InR M fs) (hx : x < fs.length) (hy : y < fs.length) :
    Calls Try.prog 96 #[.agg #[.slice B0 t0.length d0], .agg #[.int .i64 (M : Int), .slice B1 us.length d1], .slice B2 fs.length d2, .int .i64 (x : Int), .int .i64 (y : Int)] w fun e w' => e = .returned (.bool (ccB t0 M us fs x y)) ∧ Ex w w' := by
  obtain ⟨b, o, bb, oo, C, rfl, hQ⟩ := hR.sq hm.g
  have hN8 := hm.g.n8
  have hM2 := hm.m2
  have hM12 := hm.m12
  have hxt : x < t0.length := by omega
  have hyt : y < t0.length := by omega
  have hxu : x < us.length := by rw [hm.len]; exact hxt
  obtain ⟨bx, ox, rfl, hbx, hcx⟩ := hX.ints.at_ hxu
  obtain ⟨bf, of, rfl, hbf, hcf⟩ := hF.ints.at_ hx
  have hcg := ints_cell hF.ints hy
  have e0 : Ex w ((w.alloc (.cells #[.slice (some ⟨b, o, none⟩) t0.length d0] 32)).alloc (.cells #[.int .i64 (M : Int), .slice (some ⟨bx, ox, none⟩) us.length d1] 34)) := ((Ex.refl w).alloc _).alloc _
  have b0 : Has ((w.alloc (.cells #[.slice (some ⟨b, o, none⟩) t0.length d0] 32)).alloc (.cells #[.int .i64 (M : Int), .slice (some ⟨bx, ox, none⟩) us.length d1] 34)) (w.heap.size) 32 #[.slice (some ⟨b, o, none⟩) t0.length d0] := ((Has.newAt (w := w) (e := 32) (cs := #[.slice (some ⟨b, o, none⟩) t0.length d0]) (k := w.heap.size) (by simp)).alloc _)
  have b1 : Has ((w.alloc (.cells #[.slice (some ⟨b, o, none⟩) t0.length d0] 32)).alloc (.cells #[.int .i64 (M : Int), .slice (some ⟨bx, ox, none⟩) us.length d1] 34)) (w.heap.size + 1) 34 #[.int .i64 (M : Int), .slice (some ⟨bx, ox, none⟩) us.length d1] := (Has.newAt (w := (w.alloc (.cells #[.slice (some ⟨b, o, none⟩) t0.length d0] 32))) (e := 34) (cs := #[.int .i64 (M : Int), .slice (some ⟨bx, ox, none⟩) us.length d1]) (k := w.heap.size + 1) (by simp))
  have hrow := (hQ.ex e0).row_ hxt
  have hent := (hQ.ex e0).mul_ hm.g hxt hyt
  have hzt := hm.g.mul_lt hxt hyt
  have c0 := b0.cell 0
  obtain ⟨s1, s2⟩ := crs_sum hm.rng hr hM12 hxu hx hy
  have hf12 := (im_eq hr hx).2
  rw [(im_eq hm.rng hxu).1] at hcx
  rw [(im_eq hr hx).1] at hcf
  rw [(im_eq hr hy).1] at hcg
  have HZ := Lib.hid (fun (hz : mul t0 x y < fs.length) => (im_eq hr hz).1 ▸ ints_cell hF.ints hz)
  have HCC : Hid (ccB t0 M us fs x y = (decide (fs.length ≤ mul t0 x y) || decide (im fs (mul t0 x y) = (im fs x + im us x * im fs y) % M))) := Lib.hid rfl
  have HE0 := Lib.hid e0
  have h12z : Hid (∀ z, z < fs.length → im fs z ≤ 12) := Lib.hid fun z hz => by have := (im_eq hr hz).2; omega
  clear hR hX hF hm hQ hr
  obtain ⟨z, hz⟩ : ∃ z, mul t0 x y = z := ⟨_, rfl⟩
  rw [hz] at HZ HCC hent hzt
  obtain ⟨f, hf⟩ : ∃ f, im fs x = f := ⟨_, rfl⟩
  obtain ⟨u, hu⟩ : ∃ u, im us x = u := ⟨_, rfl⟩
  obtain ⟨g, hg⟩ : ∃ g, im fs y = g := ⟨_, rfl⟩
  rw [hf, hu, hg] at s1 HCC
  rw [hu, hg] at s2
  rw [hf] at hf12 hcf
  rw [hu] at hcx
  rw [hg] at hcg
  obtain ⟨z0, hz0⟩ : ∃ z0, u * g = z0 := ⟨_, rfl⟩
  have hp : (u : Int) * (g : Int) = (z0 : Int) := by rw [← hz0]; simp
  rw [hz0] at s1 s2 HCC
  clear hz hf hu hg hz0
  by_cases hlt : z < fs.length
  · have hczz := HZ.out hlt
    have hq : ¬ fs.length ≤ z := by omega
    have h12 := h12z.out z hlt
    obtain ⟨yv, hyv⟩ : ∃ yv, im fs z = yv := ⟨_, rfl⟩
    rw [hyv] at HCC hczz h12
    obtain ⟨s0, hs0⟩ : ∃ s0, f + z0 = s0 := ⟨_, rfl⟩
    have hps : (f : Int) + (z0 : Int) = (s0 : Int) := by rw [← hs0]; simp
    rw [hs0] at HCC s1
    obtain ⟨v, hv⟩ : ∃ v, s0 % M = v := ⟨_, rfl⟩
    have hvM : v < M := by rw [← hv]; exact Nat.mod_lt _ (by omega)
    rw [hv] at HCC
    have hM0 : ¬ M = 0 := by omega
    have htv : Int.tmod (s0 : Int) (M : Int) = (v : Int) := by rw [← hv]; exact tmod_nat s0 M
    have hwv : IntKind.i64.wrap ((s0 : Int) % (M : Int)) = (v : Int) := by rw [← hv, ← Int.natCast_emod, IntWalk.i64_in _ (by rw [hv]; omega)]
    have hwm : IntKind.i64.wrap (z0 : Int) = (z0 : Int) := IntWalk.i64_in _ (by omega)
    have hws : IntKind.i64.wrap (s0 : Int) = (s0 : Int) := IntWalk.i64_in _ (by omega)
    obtain ⟨bv, hbv⟩ : ∃ bv, ((yv : Int) == (v : Int)) = bv := ⟨_, rfl⟩
    have HBV : Hid (ccB t0 M us fs x y = bv) := Lib.hid (by
      rw [HCC.out, decide_eq_false hq, Bool.false_or, ← hbv, Bool.eq_iff_iff]
      simp only [decide_eq_true_eq, beq_iff_eq, Int.natCast_inj])
    clear hyv hs0 hv
    go_enter Try.func96, Try.ntmps96
    go_wp2_with fail
    generalize ((w.alloc (.cells #[.slice (some ⟨b, o, none⟩) t0.length d0] 32)).alloc (.cells #[.int .i64 (M : Int), .slice (some ⟨bx, ox, none⟩) us.length d1] 34)) = W0 at *
    have HSK := Lib.hid (fun (W' : World) (hb : Ex W0.drew W') => And.intro ((HE0.out.drew.trans hb).below.cell (p := ⟨bx, ox + x, none⟩) hbx |>.trans hcx) (And.intro ((HE0.out.drew.trans hb).below.cell (p := ⟨bf, of + x, none⟩) hbf |>.trans hcf) (And.intro ((HE0.out.drew.trans hb).below.cell (p := ⟨bf, of + y, none⟩) hbf |>.trans hcg) (And.intro ((HE0.out.drew.trans hb).below.cell (p := ⟨bf, of + z, none⟩) hbf |>.trans hczz) (And.intro ((Has.ex (w := W0.drew) (Has.ex b1 (Ex.refl W0).drew) hb).cell 0) ((Has.ex (w := W0.drew) (Has.ex b1 (Ex.refl W0).drew) hb).cell 1))))))
    clear hrow hent c0 hcx hcf hcg hczz
    refine wp_region_quiet (C := fun w' => Ex W0.drew w') (by kernel_rfl) (by kernel_rfl) (Ex.refl _) ?_
    refine BigFrame.wpQuiet_want (by rfl) fun K hK => ⟨?_, fun w' hC => ?_, hK _ ?_⟩
    rotate_left
    · (obtain ⟨q0, q1, q2, q3, q4, q5⟩ := HSK.out _ hC; go_simp; first | done | with_reducible rfl | exact ⟨rfl, hC⟩)
    clear hK K
    simp only [Act.put, List.setIfInBounds_toArray, List.set_cons_zero, List.set_cons_succ]
    refine BigFrame.wpQuiet_want (by rfl) fun K hK => ⟨?_, fun w' hC => ?_, hK _ ?_⟩
    rotate_left
    · (obtain ⟨q0, q1, q2, q3, q4, q5⟩ := HSK.out _ hC; go_simp; first | done | with_reducible rfl | exact ⟨rfl, hC⟩)
    clear hK K
    simp only [Act.put, List.setIfInBounds_toArray, List.set_cons_zero, List.set_cons_succ]
    refine BigFrame.wpQuiet_want (by rfl) fun K hK => ⟨?_, fun w' hC => ?_, hK _ ?_⟩
    rotate_left
    · (obtain ⟨q0, q1, q2, q3, q4, q5⟩ := HSK.out _ hC; go_simp; first | done | with_reducible rfl | exact ⟨rfl, hC⟩)
    clear hK K
    simp only [Act.put, List.setIfInBounds_toArray, List.set_cons_zero, List.set_cons_succ]
    refine BigFrame.wpQuiet_want (by rfl) fun K hK => ⟨?_, fun w' hC => ?_, hK _ ?_⟩
    rotate_left
    · (obtain ⟨q0, q1, q2, q3, q4, q5⟩ := HSK.out _ hC; go_simp; first | done | with_reducible rfl | exact ⟨rfl, hC⟩)
    clear hK K
    simp only [Act.put, List.setIfInBounds_toArray, List.set_cons_zero, List.set_cons_succ]
    refine BigFrame.wpQuiet_want (by rfl) fun K hK => ⟨?_, fun w' hC => ?_, hK _ ?_⟩
    rotate_left
    · (obtain ⟨q0, q1, q2, q3, q4, q5⟩ := HSK.out _ hC; go_simp; first | done | with_reducible rfl | exact ⟨rfl, hC⟩)
    clear hK K
    simp only [Act.put, List.setIfInBounds_toArray, List.set_cons_zero, List.set_cons_succ]
    refine BigFrame.wpQuiet_want (by rfl) fun K hK => ⟨?_, fun w' hC => ?_, hK _ ?_⟩
    rotate_left
    · (obtain ⟨q0, q1, q2, q3, q4, q5⟩ := HSK.out _ hC; go_simp; first | done | with_reducible rfl | exact ⟨rfl, hC⟩)
    clear hK K
    simp only [Act.put, List.setIfInBounds_toArray, List.set_cons_zero, List.set_cons_succ]
    refine BigFrame.wpQuiet_want (by rfl) fun K hK => ⟨?_, fun w' hC => ?_, hK _ ?_⟩
    rotate_left
    · (obtain ⟨q0, q1, q2, q3, q4, q5⟩ := HSK.out _ hC; go_simp; first | done | with_reducible rfl | exact ⟨rfl, hC⟩)
    clear hK K
    simp only [Act.put, List.setIfInBounds_toArray, List.set_cons_zero, List.set_cons_succ]
    refine BigFrame.wpQuiet_want (by rfl) fun K hK => ⟨?_, fun w' hC => ?_, hK _ ?_⟩
    rotate_left
    · (obtain ⟨q0, q1, q2, q3, q4, q5⟩ := HSK.out _ hC; go_simp; first | done | with_reducible rfl | exact ⟨rfl, hC⟩)
    clear hK K
    simp only [Act.put, List.setIfInBounds_toArray, List.set_cons_zero, List.set_cons_succ]
    refine BigFrame.wpQuiet_want (by rfl) fun K hK => ⟨?_, fun w' hC => ?_, hK _ ?_⟩
    rotate_left
    · (obtain ⟨q0, q1, q2, q3, q4, q5⟩ := HSK.out _ hC; go_simp; first | done | with_reducible rfl | exact ⟨rfl, hC⟩)
    clear hK K
    simp only [Act.put, List.setIfInBounds_toArray, List.set_cons_zero, List.set_cons_succ]
    refine BigFrame.wpQuiet_want (by rfl) fun K hK => ⟨?_, fun w' hC => ?_, hK _ ?_⟩
    rotate_left
    · (obtain ⟨q0, q1, q2, q3, q4, q5⟩ := HSK.out _ hC; go_simp; first | done | with_reducible rfl | exact ⟨rfl, hC⟩)
    clear hK K
    simp only [Act.put, List.setIfInBounds_toArray, List.set_cons_zero, List.set_cons_succ]
    refine BigFrame.wpQuiet_want (by rfl) fun K hK => ⟨?_, fun w' hC => ?_, hK _ ?_⟩
    rotate_left
    · (obtain ⟨q0, q1, q2, q3, q4, q5⟩ := HSK.out _ hC; go_simp; first | done | with_reducible rfl | exact ⟨rfl, hC⟩)
    clear hK K
    simp only [Act.put, List.setIfInBounds_toArray, List.set_cons_zero, List.set_cons_succ]
    refine BigFrame.wpQuiet_want (by rfl) fun K hK => ⟨?_, fun w' hC => ?_, hK _ ?_⟩
    rotate_left
    · (obtain ⟨q0, q1, q2, q3, q4, q5⟩ := HSK.out _ hC; go_simp; first | done | with_reducible rfl | exact ⟨rfl, hC⟩)
    clear hK K
    simp only [Act.put, List.setIfInBounds_toArray, List.set_cons_zero, List.set_cons_succ]
    refine BigFrame.wpQuiet_want (by rfl) fun K hK => ⟨?_, fun w' hC => ?_, hK _ ?_⟩
    rotate_left
    · (obtain ⟨q0, q1, q2, q3, q4, q5⟩ := HSK.out _ hC; go_simp; first | done | with_reducible rfl | exact ⟨rfl, hC⟩)
    clear hK K
    simp only [Act.put, List.setIfInBounds_toArray, List.set_cons_zero, List.set_cons_succ]
    refine BigFrame.wpQuiet_want (by rfl) fun K hK => ⟨?_, fun w' hC => ?_, hK _ ?_⟩
    rotate_left
    · (obtain ⟨q0, q1, q2, q3, q4, q5⟩ := HSK.out _ hC; go_simp; first | done | with_reducible rfl | exact ⟨rfl, hC⟩)
    clear hK K
    simp only [Act.put, List.setIfInBounds_toArray, List.set_cons_zero, List.set_cons_succ]
    refine BigFrame.wpQuiet_want (by rfl) fun K hK => ⟨?_, fun w' hC => ?_, hK _ ?_⟩
    rotate_left
    · (obtain ⟨q0, q1, q2, q3, q4, q5⟩ := HSK.out _ hC; go_simp; first | done | with_reducible rfl | exact ⟨rfl, hC⟩)
    clear hK K
    simp only [Act.put, List.setIfInBounds_toArray, List.set_cons_zero, List.set_cons_succ]
    refine BigFrame.wpQuiet_want (by rfl) fun K hK => ⟨?_, fun w' hC => ?_, hK _ ?_⟩
    rotate_left
    · (obtain ⟨q0, q1, q2, q3, q4, q5⟩ := HSK.out _ hC; go_simp; first | done | with_reducible rfl | exact ⟨rfl, hC⟩)
    clear hK K
    simp only [Act.put, List.setIfInBounds_toArray, List.set_cons_zero, List.set_cons_succ]
    refine BigFrame.wpQuiet_want (by rfl) fun K hK => ⟨?_, fun w' hC => ?_, hK _ ?_⟩
    rotate_left
    · (obtain ⟨q0, q1, q2, q3, q4, q5⟩ := HSK.out _ hC; go_simp; first | done | with_reducible rfl | exact ⟨rfl, hC⟩)
    clear hK K
    simp only [Act.put, List.setIfInBounds_toArray, List.set_cons_zero, List.set_cons_succ]
    refine BigFrame.wpQuiet_want (by rfl) fun K hK => ⟨?_, fun w' hC => ?_, hK _ ?_⟩
    rotate_left
    · (obtain ⟨q0, q1, q2, q3, q4, q5⟩ := HSK.out _ hC; go_simp; first | done | with_reducible rfl | exact ⟨rfl, hC⟩)
    clear hK K
    simp only [Act.put, List.setIfInBounds_toArray, List.set_cons_zero, List.set_cons_succ]
    refine BigFrame.wpQuiet_want (by rfl) fun K hK => ⟨?_, fun w' hC => ?_, hK _ ?_⟩
    rotate_left
    · (obtain ⟨q0, q1, q2, q3, q4, q5⟩ := HSK.out _ hC; go_simp; first | done | with_reducible rfl | exact ⟨rfl, hC⟩)
    clear hK K
    simp only [Act.put, List.setIfInBounds_toArray, List.set_cons_zero, List.set_cons_succ]
    refine BigFrame.wpQuiet_want (by rfl) fun K hK => ⟨?_, fun w' hC => ?_, hK _ ?_⟩
    rotate_left
    · (obtain ⟨q0, q1, q2, q3, q4, q5⟩ := HSK.out _ hC; go_simp; first | done | with_reducible rfl | exact ⟨rfl, hC⟩)
    clear hK K
    simp only [Act.put, List.setIfInBounds_toArray, List.set_cons_zero, List.set_cons_succ]
    refine BigFrame.wpQuiet_want (by rfl) fun K hK => ⟨?_, fun w' hC => ?_, hK _ ?_⟩
    rotate_left
    · (obtain ⟨q0, q1, q2, q3, q4, q5⟩ := HSK.out _ hC; go_simp; first | done | with_reducible rfl | exact ⟨rfl, hC⟩)
    clear hK K
    simp only [Act.put, List.setIfInBounds_toArray, List.set_cons_zero, List.set_cons_succ]
    refine BigFrame.wpQuiet_want (by rfl) fun K hK => ⟨?_, fun w' hC => ?_, hK _ ?_⟩
    rotate_left
    · (obtain ⟨q0, q1, q2, q3, q4, q5⟩ := HSK.out _ hC; go_simp; first | done | with_reducible rfl | exact ⟨rfl, hC⟩)
    clear hK K
    simp only [Act.put, List.setIfInBounds_toArray, List.set_cons_zero, List.set_cons_succ]
    refine BigFrame.wpQuiet_want (by rfl) fun K hK => ⟨?_, fun w' hC => ?_, hK _ ?_⟩
    rotate_left
    · (obtain ⟨q0, q1, q2, q3, q4, q5⟩ := HSK.out _ hC; go_simp; first | done | with_reducible rfl | exact ⟨rfl, hC⟩)
    clear hK K
    simp only [Act.put, List.setIfInBounds_toArray, List.set_cons_zero, List.set_cons_succ]
    refine BigFrame.wpQuiet_want (by rfl) fun K hK => ⟨?_, fun w' hC => ?_, hK _ ?_⟩
    rotate_left
    · (obtain ⟨q0, q1, q2, q3, q4, q5⟩ := HSK.out _ hC; go_simp; first | done | with_reducible rfl | exact ⟨rfl, hC⟩)
    clear hK K
    simp only [Act.put, List.setIfInBounds_toArray, List.set_cons_zero, List.set_cons_succ]
    refine BigFrame.wpQuiet_want (by rfl) fun K hK => ⟨?_, fun w' hC => ?_, hK _ ?_⟩
    rotate_left
    · (obtain ⟨q0, q1, q2, q3, q4, q5⟩ := HSK.out _ hC; go_simp; first | done | with_reducible rfl | exact ⟨rfl, hC⟩)
    clear hK K
    simp only [Act.put, List.setIfInBounds_toArray, List.set_cons_zero, List.set_cons_succ]
    refine BigFrame.wpQuiet_want (by rfl) fun K hK => ⟨?_, fun w' hC => ?_, hK _ ?_⟩
    rotate_left
    · (obtain ⟨q0, q1, q2, q3, q4, q5⟩ := HSK.out _ hC; go_simp; first | done | with_reducible rfl | exact ⟨rfl, hC⟩)
    clear hK K
    simp only [Act.put, List.setIfInBounds_toArray, List.set_cons_zero, List.set_cons_succ]
    refine BigFrame.wpQuiet_want (by rfl) fun K hK => ⟨?_, fun w' hC => ?_, hK _ ?_⟩
    rotate_left
    · (obtain ⟨q0, q1, q2, q3, q4, q5⟩ := HSK.out _ hC; go_simp; first | done | with_reducible rfl | exact ⟨rfl, hC⟩)
    clear hK K
    simp only [Act.put, List.setIfInBounds_toArray, List.set_cons_zero, List.set_cons_succ]
    refine BigFrame.wpQuiet_want (by rfl) fun K hK => ⟨?_, fun w' hC => ?_, hK _ ?_⟩
    rotate_left
    · (obtain ⟨q0, q1, q2, q3, q4, q5⟩ := HSK.out _ hC; go_simp; first | done | with_reducible rfl | exact ⟨rfl, hC⟩)
    clear hK K
    simp only [Act.put, List.setIfInBounds_toArray, List.set_cons_zero, List.set_cons_succ]
    refine BigFrame.wpQuiet_want (by rfl) fun K hK => ⟨?_, fun w' hC => ?_, hK _ ?_⟩
    rotate_left
    · (obtain ⟨q0, q1, q2, q3, q4, q5⟩ := HSK.out _ hC; go_simp; first | done | with_reducible rfl | exact ⟨rfl, hC⟩)
    clear hK K
    simp only [Act.put, List.setIfInBounds_toArray, List.set_cons_zero, List.set_cons_succ]
    refine BigFrame.wpQuiet_want (by rfl) fun K hK => ⟨?_, fun w' hC => ?_, hK _ ?_⟩
    rotate_left
    · (obtain ⟨q0, q1, q2, q3, q4, q5⟩ := HSK.out _ hC; go_simp; first | done | with_reducible rfl | exact ⟨rfl, hC⟩)
    clear hK K
    simp only [Act.put, List.setIfInBounds_toArray, List.set_cons_zero, List.set_cons_succ]
    refine wpQuiet_nil ?_
    intro w2 hC2
    have HC2 := Lib.hid hC2
    clear hC2
    go_wp2_with fail
    go_ret
    exact ⟨by rw [HBV.out]; rfl, HE0.out.trans ((Ex.refl W0).drew.trans HC2.out)⟩
  · have hq : fs.length ≤ z := by omega
    have HBV : Hid (ccB t0 M us fs x y = true) := Lib.hid (by rw [HCC.out, decide_eq_true hq]; rfl)
    clear hcx hcf hcg hp
    go_enter Try.func96, Try.ntmps96
    go_wp2_with fail
    generalize ((w.alloc (.cells #[.slice (some ⟨b, o, none⟩) t0.length d0] 32)).alloc (.cells #[.int .i64 (M : Int), .slice (some ⟨bx, ox, none⟩) us.length d1] 34)) = W0 at *
    have HSK := Lib.hid (fun (W' : World) (hb : Ex W0.drew W') => And.intro ((Has.ex (w := W0.drew) (Has.ex b1 (Ex.refl W0).drew) hb).cell 0) ((Has.ex (w := W0.drew) (Has.ex b1 (Ex.refl W0).drew) hb).cell 1))
    clear hrow hent c0
    refine wp_region_quiet (C := fun w' => Ex W0.drew w') (by kernel_rfl) (by kernel_rfl) (Ex.refl _) ?_
    refine BigFrame.wpQuiet_want (by rfl) fun K hK => ⟨?_, fun w' hC => ?_, hK _ ?_⟩
    rotate_left
    · (obtain ⟨q0, q1⟩ := HSK.out _ hC; go_simp; first | done | with_reducible rfl | exact ⟨rfl, hC⟩)
    clear hK K
    simp only [Act.put, List.setIfInBounds_toArray, List.set_cons_zero, List.set_cons_succ]
    refine BigFrame.wpQuiet_want (by rfl) fun K hK => ⟨?_, fun w' hC => ?_, hK _ ?_⟩
    rotate_left
    · (obtain ⟨q0, q1⟩ := HSK.out _ hC; go_simp; first | done | with_reducible rfl | exact ⟨rfl, hC⟩)
    clear hK K
    simp only [Act.put, List.setIfInBounds_toArray, List.set_cons_zero, List.set_cons_succ]
    refine BigFrame.wpQuiet_want (by rfl) fun K hK => ⟨?_, fun w' hC => ?_, hK _ ?_⟩
    rotate_left
    · (obtain ⟨q0, q1⟩ := HSK.out _ hC; go_simp; first | done | with_reducible rfl | exact ⟨rfl, hC⟩)
    clear hK K
    simp only [Act.put, List.setIfInBounds_toArray, List.set_cons_zero, List.set_cons_succ]
    refine BigFrame.wpQuiet_want (by rfl) fun K hK => ⟨?_, fun w' hC => ?_, hK _ ?_⟩
    rotate_left
    · (obtain ⟨q0, q1⟩ := HSK.out _ hC; go_simp; first | done | with_reducible rfl | exact ⟨rfl, hC⟩)
    clear hK K
    simp only [Act.put, List.setIfInBounds_toArray, List.set_cons_zero, List.set_cons_succ]
    refine BigFrame.wpQuiet_want (by rfl) fun K hK => ⟨?_, fun w' hC => ?_, hK _ ?_⟩
    rotate_left
    · (obtain ⟨q0, q1⟩ := HSK.out _ hC; go_simp; first | done | with_reducible rfl | exact ⟨rfl, hC⟩)
    clear hK K
    simp only [Act.put, List.setIfInBounds_toArray, List.set_cons_zero, List.set_cons_succ]
    refine (BigFrame.wpQuiet_skip ?_ ?_ : _)
    · rfl
    simp only [Act.put, List.setIfInBounds_toArray, List.set_cons_zero, List.set_cons_succ]
    refine (BigFrame.wpQuiet_skip ?_ ?_ : _)
    · rfl
    simp only [Act.put, List.setIfInBounds_toArray, List.set_cons_zero, List.set_cons_succ]
    refine (BigFrame.wpQuiet_skip ?_ ?_ : _)
    · rfl
    simp only [Act.put, List.setIfInBounds_toArray, List.set_cons_zero, List.set_cons_succ]
    refine (BigFrame.wpQuiet_skip ?_ ?_ : _)
    · rfl
    simp only [Act.put, List.setIfInBounds_toArray, List.set_cons_zero, List.set_cons_succ]
    refine (BigFrame.wpQuiet_skip ?_ ?_ : _)
    · rfl
    simp only [Act.put, List.setIfInBounds_toArray, List.set_cons_zero, List.set_cons_succ]
    refine (BigFrame.wpQuiet_skip ?_ ?_ : _)
    · rfl
    simp only [Act.put, List.setIfInBounds_toArray, List.set_cons_zero, List.set_cons_succ]
    refine (BigFrame.wpQuiet_skip ?_ ?_ : _)
    · rfl
    simp only [Act.put, List.setIfInBounds_toArray, List.set_cons_zero, List.set_cons_succ]
    refine (BigFrame.wpQuiet_skip ?_ ?_ : _)
    · rfl
    simp only [Act.put, List.setIfInBounds_toArray, List.set_cons_zero, List.set_cons_succ]
    refine (BigFrame.wpQuiet_skip ?_ ?_ : _)
    · rfl
    simp only [Act.put, List.setIfInBounds_toArray, List.set_cons_zero, List.set_cons_succ]
    refine (BigFrame.wpQuiet_skip ?_ ?_ : _)
    · rfl
    simp only [Act.put, List.setIfInBounds_toArray, List.set_cons_zero, List.set_cons_succ]
    refine (BigFrame.wpQuiet_skip ?_ ?_ : _)
    · rfl
    simp only [Act.put, List.setIfInBounds_toArray, List.set_cons_zero, List.set_cons_succ]
    refine (BigFrame.wpQuiet_skip ?_ ?_ : _)
    · rfl
    simp only [Act.put, List.setIfInBounds_toArray, List.set_cons_zero, List.set_cons_succ]
    refine (BigFrame.wpQuiet_skip ?_ ?_ : _)
    · rfl
    simp only [Act.put, List.setIfInBounds_toArray, List.set_cons_zero, List.set_cons_succ]
    refine (BigFrame.wpQuiet_skip ?_ ?_ : _)
    · rfl
    simp only [Act.put, List.setIfInBounds_toArray, List.set_cons_zero, List.set_cons_succ]
    refine (BigFrame.wpQuiet_skip ?_ ?_ : _)
    · rfl
    simp only [Act.put, List.setIfInBounds_toArray, List.set_cons_zero, List.set_cons_succ]
    refine (BigFrame.wpQuiet_skip ?_ ?_ : _)
    · rfl
    simp only [Act.put, List.setIfInBounds_toArray, List.set_cons_zero, List.set_cons_succ]
    refine (BigFrame.wpQuiet_skip ?_ ?_ : _)
    · rfl
    simp only [Act.put, List.setIfInBounds_toArray, List.set_cons_zero, List.set_cons_succ]
    refine (BigFrame.wpQuiet_skip ?_ ?_ : _)
    · rfl
    simp only [Act.put, List.setIfInBounds_toArray, List.set_cons_zero, List.set_cons_succ]
    refine (BigFrame.wpQuiet_skip ?_ ?_ : _)
    · rfl
    simp only [Act.put, List.setIfInBounds_toArray, List.set_cons_zero, List.set_cons_succ]
    refine (BigFrame.wpQuiet_skip ?_ ?_ : _)
    · rfl
    simp only [Act.put, List.setIfInBounds_toArray, List.set_cons_zero, List.set_cons_succ]
    refine (BigFrame.wpQuiet_skip ?_ ?_ : _)
    · rfl
    simp only [Act.put, List.setIfInBounds_toArray, List.set_cons_zero, List.set_cons_succ]
    refine (BigFrame.wpQuiet_skip ?_ ?_ : _)
    · rfl
    simp only [Act.put, List.setIfInBounds_toArray, List.set_cons_zero, List.set_cons_succ]
    refine (BigFrame.wpQuiet_skip ?_ ?_ : _)
    · rfl
    simp only [Act.put, List.setIfInBounds_toArray, List.set_cons_zero, List.set_cons_succ]
    refine BigFrame.wpQuiet_want (by rfl) fun K hK => ⟨?_, fun w' hC => ?_, hK _ ?_⟩
    rotate_left
    · (obtain ⟨q0, q1⟩ := HSK.out _ hC; go_simp; first | done | with_reducible rfl | exact ⟨rfl, hC⟩)
    clear hK K
    simp only [Act.put, List.setIfInBounds_toArray, List.set_cons_zero, List.set_cons_succ]
    refine BigFrame.wpQuiet_want (by rfl) fun K hK => ⟨?_, fun w' hC => ?_, hK _ ?_⟩
    rotate_left
    · (obtain ⟨q0, q1⟩ := HSK.out _ hC; go_simp; first | done | with_reducible rfl | exact ⟨rfl, hC⟩)
    clear hK K
    simp only [Act.put, List.setIfInBounds_toArray, List.set_cons_zero, List.set_cons_succ]
    refine wpQuiet_nil ?_
    intro w2 hC2
    have HC2 := Lib.hid hC2
    clear hC2
    go_wp2_with fail
    go_ret
    exact ⟨by rw [HBV.out]; rfl, HE0.out.trans ((Ex.refl W0).drew.trans HC2.out)⟩

end Go.Proofs.Ytfafccldngekgaa
