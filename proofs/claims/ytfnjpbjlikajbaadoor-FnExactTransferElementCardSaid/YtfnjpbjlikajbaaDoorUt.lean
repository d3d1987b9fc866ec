/- The specification's step of a transfer: where an element sends a coset. -/
import Derived.Test.YtfnjpbjlikajbaaDoorUc
namespace Go.Proofs.YtfnjpbjlikajbaaDoor
open Go.RowKit

/-- What the list of places and the list of the cosets' first elements say. -/
structure StepL (t : List (List Int)) (num fst : Nat → Nat) (os ls : List Int) : Prop where
  ol : os.length = t.length
  at_ : ∀ y, y < t.length → nth os y = (num y : Int) ∧ num y < ls.length
  fs : ∀ j, j < ls.length → nth ls j = (fst j : Int) ∧ fst j < t.length

set_option maxRecDepth 100000 in
set_option maxHeartbeats 4000000 in
theorem l07Step_any (A O L : Option Addr) (t : List (List Int)) (num fst : Nat → Nat) (os ls : List Int) (c c1 c2 x r : Nat) (w : World) (hR : RwsW w A t) (hO : IntsW w O os) (hL : IntsW w L ls) (hg : IsGrp t) (hS : StepL t num fst os ls) (_ : ls.length ≤ 8) (hx : x < t.length) (hr : r < t.length) :
    Calls Tryd.prog 39 #[.agg #[.slice A t.length c], .slice O os.length c1, .slice L ls.length c2, .int .i64 (x : Int), .int .i64 (r : Int)] w fun e w' => e = .returned (.tuple #[.int .i64 (fst (num (mul t x r)) : Int), .int .i64 (mul t (iv t (fst (num (mul t x r)))) (mul t x r) : Int)]) ∧ Ex w w' := by
  obtain ⟨b, o, bb, oo, C, rfl, hQ⟩ := hR.sq hg
  have e0 : Ex w (w.alloc (.cells #[.slice (some ⟨b, o, none⟩) t.length c] 36)) := (Ex.refl w).alloc _
  have b0 : Has (w.alloc (.cells #[.slice (some ⟨b, o, none⟩) t.length c] 36)) (w.heap.size) 36 #[.slice (some ⟨b, o, none⟩) t.length c] := (Has.newAt (w := w) (e := 36) (cs := #[.slice (some ⟨b, o, none⟩) t.length c]) (k := w.heap.size) (by simp))
  have hn8 := hg.n8
  have hy := hg.mul_lt hx hr
  obtain ⟨hn1, hn2⟩ := hS.at_ _ hy
  obtain ⟨hf1, hf2⟩ := hS.fs _ hn2
  obtain ⟨hi1, -⟩ := iv_spec hg hf2
  have hol : mul t x r < os.length := by rw [hS.ol]; exact hy
  have hosl : os.length ≤ 8 := by rw [hS.ol]; exact hn8
  clear hS
  have hbw := hQ.1
  have HQ := Lib.hid (hQ.ex e0)
  have h1r := HQ.out.row_ hx
  have h1e := HQ.out.ent_ hx hr
  rw [hg.ent hx hr] at h1e
  have HIV := Lib.hid (fun W (he : Ex w W) => l01Inverse_any (some ⟨b, o, none⟩) t c (fst (num (mul t x r))) W (hR.ex he) hg hf2)
  obtain ⟨bo, oo', rfl, hbo, hco⟩ := hO.ints.at_ hol
  obtain ⟨bl, ol, rfl, hbl, hcl⟩ := hL.ints.at_ hn2
  rw [hn1] at hco
  rw [hf1] at hcl
  have hco0 := (e0.below.cell (p := ⟨bo, oo' + mul t x r, none⟩) hbo).trans hco
  have hcl0 := (e0.below.cell (p := ⟨bl, ol + num (mul t x r), none⟩) hbl).trans hcl
  have hee := HQ.out.ent_ hi1 hy
  rw [hg.ent hi1 hy] at hee
  have her := HQ.out.row_ hi1
  have HRW := Lib.hid her
  have HEN := Lib.hid hee
  have hsz := e0.size
  have hbl2 := (HQ.out.2 _ hi1).2.1
  generalize mul t x r = y at *
  generalize num y = k at *
  generalize fst k = f at *
  generalize iv t f = v at *
  generalize mul t v y = z at *
  clear hg hQ hR hO hL hco hcl hn1 hf1 hee her HQ
  go_enter Tryd.func39, Tryd.ntmps39
  go_wp2_with fail
  generalize (w.alloc (.cells #[.slice (some ⟨b, o, none⟩) t.length c] 36)) = W0 at *
  have HB0 := Lib.hid b0
  have HE0 := Lib.hid e0
  have HF := Lib.hid (fun W' (he : Ex W0.drew W') => And.intro ((HB0.out.ex ((Ex.refl W0).drew.trans he)).cell 0) (And.intro ((he.below.cell (p := ⟨b, o + v, none⟩) (by show b < _; exact Nat.lt_of_lt_of_le hbw HE0.out.size)).trans HRW.out) ((he.below.cell (p := ⟨bb v, oo v + y, none⟩) (by show bb v < _; exact Nat.lt_of_lt_of_le hbl2 HE0.out.size)).trans HEN.out)))
  clear b0 e0 h1r h1e hco0 hcl0
  refine wp_region_quiet (C := fun w' => Ex W0.drew w') (by kernel_rfl) (by kernel_rfl) (Ex.refl _) ?_
  refine BigFrame.wpQuiet_want (by rfl) fun K hK => ⟨?_, fun w' hC => ?_, hK _ ?_⟩
  rotate_left
  · (obtain ⟨q0, q1, q2⟩ := HF.out _ hC; go_simp; first | done | with_reducible rfl | exact ⟨rfl, hC⟩)
  clear hK K
  simp only [Act.put, List.setIfInBounds_toArray, List.set_cons_zero, List.set_cons_succ]
  refine BigFrame.wpQuiet_want (by rfl) fun K hK => ⟨?_, fun w' hC => ?_, hK _ ?_⟩
  rotate_left
  · (obtain ⟨q0, q1, q2⟩ := HF.out _ hC; go_simp; first | done | with_reducible rfl | exact ⟨rfl, hC⟩)
  clear hK K
  simp only [Act.put, List.setIfInBounds_toArray, List.set_cons_zero, List.set_cons_succ]
  refine BigFrame.wpQuiet_want (by rfl) fun K hK => ⟨?_, fun w' hC => ?_, hK _ ?_⟩
  rotate_left
  · (obtain ⟨q0, q1, q2⟩ := HF.out _ hC; go_simp; first | done | with_reducible rfl | exact ⟨rfl, hC⟩)
  clear hK K
  simp only [Act.put, List.setIfInBounds_toArray, List.set_cons_zero, List.set_cons_succ]
  refine BigFrame.wpQuiet_want (by rfl) fun K hK => ⟨?_, fun w' hC => ?_, hK _ ?_⟩
  rotate_left
  · (obtain ⟨q0, q1, q2⟩ := HF.out _ hC; go_simp; first | done | with_reducible rfl | exact ⟨rfl, hC⟩)
  clear hK K
  simp only [Act.put, List.setIfInBounds_toArray, List.set_cons_zero, List.set_cons_succ]
  refine BigFrame.wpQuiet_want (by rfl) fun K hK => ⟨?_, fun w' hC => ?_, hK _ ?_⟩
  rotate_left
  · (obtain ⟨q0, q1, q2⟩ := HF.out _ hC; go_simp; first | done | with_reducible rfl | exact ⟨rfl, hC⟩)
  clear hK K
  simp only [Act.put, List.setIfInBounds_toArray, List.set_cons_zero, List.set_cons_succ]
  refine BigFrame.wpQuiet_want (by rfl) fun K hK => ⟨.int .i64 (v : Int), fun w' hC => (by go_simp; refine ((HIV.out w' (HE0.out.trans ((Ex.refl W0).drew.trans hC)))).mono ?_; rintro e w2 ⟨rfl, hb⟩; exact ⟨rfl, hC.trans hb⟩), hK _ ?_⟩
  clear hK K
  simp only [Act.put, List.setIfInBounds_toArray, List.set_cons_zero, List.set_cons_succ]
  refine BigFrame.wpQuiet_want (by rfl) fun K hK => ⟨?_, fun w' hC => ?_, hK _ ?_⟩
  rotate_left
  · (obtain ⟨q0, q1, q2⟩ := HF.out _ hC; go_simp; first | done | with_reducible rfl | exact ⟨rfl, hC⟩)
  clear hK K
  simp only [Act.put, List.setIfInBounds_toArray, List.set_cons_zero, List.set_cons_succ]
  refine BigFrame.wpQuiet_want (by rfl) fun K hK => ⟨?_, fun w' hC => ?_, hK _ ?_⟩
  rotate_left
  · (obtain ⟨q0, q1, q2⟩ := HF.out _ hC; go_simp; first | done | with_reducible rfl | exact ⟨rfl, hC⟩)
  clear hK K
  simp only [Act.put, List.setIfInBounds_toArray, List.set_cons_zero, List.set_cons_succ]
  refine BigFrame.wpQuiet_want (by rfl) fun K hK => ⟨?_, fun w' hC => ?_, hK _ ?_⟩
  rotate_left
  · (obtain ⟨q0, q1, q2⟩ := HF.out _ hC; go_simp; first | done | with_reducible rfl | exact ⟨rfl, hC⟩)
  clear hK K
  simp only [Act.put, List.setIfInBounds_toArray, List.set_cons_zero, List.set_cons_succ]
  refine BigFrame.wpQuiet_want (by rfl) fun K hK => ⟨?_, fun w' hC => ?_, hK _ ?_⟩
  rotate_left
  · (obtain ⟨q0, q1, q2⟩ := HF.out _ hC; go_simp; first | done | with_reducible rfl | exact ⟨rfl, hC⟩)
  clear hK K
  simp only [Act.put, List.setIfInBounds_toArray, List.set_cons_zero, List.set_cons_succ]
  refine BigFrame.wpQuiet_want (by rfl) fun K hK => ⟨?_, fun w' hC => ?_, hK _ ?_⟩
  rotate_left
  · (obtain ⟨q0, q1, q2⟩ := HF.out _ hC; go_simp; first | done | with_reducible rfl | exact ⟨rfl, hC⟩)
  clear hK K
  simp only [Act.put, List.setIfInBounds_toArray, List.set_cons_zero, List.set_cons_succ]
  refine BigFrame.wpQuiet_want (by rfl) fun K hK => ⟨?_, fun w' hC => ?_, hK _ ?_⟩
  rotate_left
  · (obtain ⟨q0, q1, q2⟩ := HF.out _ hC; go_simp; first | done | with_reducible rfl | exact ⟨rfl, hC⟩)
  clear hK K
  simp only [Act.put, List.setIfInBounds_toArray, List.set_cons_zero, List.set_cons_succ]
  refine BigFrame.wpQuiet_want (by rfl) fun K hK => ⟨?_, fun w' hC => ?_, hK _ ?_⟩
  rotate_left
  · (obtain ⟨q0, q1, q2⟩ := HF.out _ hC; go_simp; first | done | with_reducible rfl | exact ⟨rfl, hC⟩)
  clear hK K
  simp only [Act.put, List.setIfInBounds_toArray, List.set_cons_zero, List.set_cons_succ]
  refine wpQuiet_nil ?_
  intro w2 hC2
  have HC2 := Lib.hid hC2
  clear hC2
  go_wp2_with fail
  go_wp2_with fail
  exact bodyPost_ret (v := .tuple #[.int .i64 (f : Int), .int .i64 (z : Int)]) (by simp [results, Tryd.results39, go_sem]) rfl ⟨rfl, HE0.out.trans ((Ex.refl W0).drew.trans HC2.out)⟩

end Go.Proofs.YtfnjpbjlikajbaaDoor
