/- Oct Ia Ut Uv Uw Za in one text. -/
import Derived.Deep.RegionHeld3
import Derived.Deep.DeepCutAuto
import Derived.Test.YtcdijeeabgmgmaaGreatDoorBts
import Derived.Test.YtcdijeeabgmgmaaGreatDoorCn
import Derived.Test.YtcdijeeabgmgmaaGreatDoorUc
import Derived.Test.YtcdijeeabgmgmaaGreatDoorUd
import Derived.Test.YtcdijeeabgmgmaaGreatDoorInc
import Derived.Test.YtcdijeeabgmgmaaGreatDoorTwo
/- How many elements a set has. -/
namespace Go.Proofs.YtcdijeeabgmgmaaGreatDoor
open Go.RowKit

end Go.Proofs.YtcdijeeabgmgmaaGreatDoor

/- IsAbelian: both contracts. -/
namespace Go.Proofs.YtcdijeeabgmgmaaGreatDoor
open Go.RowKit Go.Shelf

attribute [local go_sem] Oper.semAt_some

/-- Do all elements commute with all? -/
def abB (t : List (List Int)) : Bool := ((selI (cenP t) t.length).length : Int) == (t.length : Int)
theorem abB_set {t : List (List Int)} (hn : t.length ≤ 8) : abB t = (((elN (pset (cenP t) (List.finRange t.length))).length : Int) == (t.length : Int)) := by
  have h := congrArg List.length (pset_all (cenP t) hn)
  rw [elI_len] at h
  rw [abB, h]
noncomputable def qIsAbelian0 (t : List (List Int)) : Bool := grpB t && abB t
noncomputable def qIsAbelian1 (t : List (List Int)) : Int := if grpB t = true then 0 else 1
section
variable {t : List (List Int)}
theorem ia_no (h : grpB t = false) : qIsAbelian0 t = false ∧ qIsAbelian1 t = 1 := by simp [qIsAbelian0, qIsAbelian1, h]
theorem ia_yes (h : grpB t = true) : qIsAbelian0 t = abB t ∧ qIsAbelian1 t = 0 := by simp [qIsAbelian0, qIsAbelian1, h]
end

end Go.Proofs.YtcdijeeabgmgmaaGreatDoor

/- The specification's step of a transfer: where an element sends a coset. -/
namespace Go.Proofs.YtcdijeeabgmgmaaGreatDoor
open Go.RowKit

/-- What the list of places and the list of the cosets' first elements say. -/
structure StepL (t : List (List Int)) (num fst : Nat → Nat) (os ls : List Int) : Prop where
  ol : os.length = t.length
  at_ : ∀ y, y < t.length → nth os y = (num y : Int) ∧ num y < ls.length
  fs : ∀ j, j < ls.length → nth ls j = (fst j : Int) ∧ fst j < t.length

set_option maxRecDepth 100000 in
set_option maxHeartbeats 4000000 in
theorem l07Step_any (A O L : Option Addr) (t : List (List Int)) (num fst : Nat → Nat) (os ls : List Int) (c c1 c2 x r : Nat) (w : World) (hR : RwsW w A t) (hO : IntsW w O os) (hL : IntsW w L ls) (hg : IsGrp t) (hS : StepL t num fst os ls) (_ : ls.length ≤ 8) (hx : x < t.length) (hr : r < t.length) :
    Calls Tryz.prog 53 #[.agg #[.slice A t.length c], .slice O os.length c1, .slice L ls.length c2, .int .i64 (x : Int), .int .i64 (r : Int)] w fun e w' => e = .returned (.tuple #[.int .i64 (fst (num (mul t x r)) : Int), .int .i64 (mul t (iv t (fst (num (mul t x r)))) (mul t x r) : Int)]) ∧ Ex w w' := by
  obtain ⟨b, o, bb, oo, C, rfl, hQ⟩ := hR.sq hg
  have e0 : Ex w (w.alloc (.cells #[.slice (some ⟨b, o, none⟩) t.length c] 32)) := (Ex.refl w).alloc _
  have b0 : Has (w.alloc (.cells #[.slice (some ⟨b, o, none⟩) t.length c] 32)) (w.heap.size) 32 #[.slice (some ⟨b, o, none⟩) t.length c] := (Has.newAt (w := w) (e := 32) (cs := #[.slice (some ⟨b, o, none⟩) t.length c]) (k := w.heap.size) (by simp))
  have hn8 := hg.n8
  have hy := hg.mul_lt hx hr
  obtain ⟨hn1, hn2⟩ := hS.at_ _ hy
  obtain ⟨hf1, hf2⟩ := hS.fs _ hn2
  obtain ⟨hi1, -⟩ := iv_spec hg hf2
  have hol : mul t x r < os.length := by rw [hS.ol]; exact hy
  have hosl : os.length ≤ 8 := by rw [hS.ol]; exact hn8
  clear hS
  have hbw := hQ.1
  have HQ := Lib.hid (hQ.ex e0)
  have h1r := HQ.out.row_ hx
  have h1e := HQ.out.ent_ hx hr
  rw [hg.ent hx hr] at h1e
  have HIV := Lib.hid (fun W (he : Ex w W) => l01Inverse_any (some ⟨b, o, none⟩) t c (fst (num (mul t x r))) W (hR.ex he) hg hf2)
  obtain ⟨bo, oo', rfl, hbo, hco⟩ := hO.ints.at_ hol
  obtain ⟨bl, ol, rfl, hbl, hcl⟩ := hL.ints.at_ hn2
  rw [hn1] at hco
  rw [hf1] at hcl
  have hco0 := (e0.below.cell (p := ⟨bo, oo' + mul t x r, none⟩) hbo).trans hco
  have hcl0 := (e0.below.cell (p := ⟨bl, ol + num (mul t x r), none⟩) hbl).trans hcl
  have hee := HQ.out.ent_ hi1 hy
  rw [hg.ent hi1 hy] at hee
  have her := HQ.out.row_ hi1
  have HRW := Lib.hid her
  have HEN := Lib.hid hee
  have hsz := e0.size
  have hbl2 := (HQ.out.2 _ hi1).2.1
  generalize mul t x r = y at *
  generalize num y = k at *
  generalize fst k = f at *
  generalize iv t f = v at *
  generalize mul t v y = z at *
  clear hg hQ hR hO hL hco hcl hn1 hf1 hee her HQ
  go_enter Tryz.func53, Tryz.ntmps53
  go_wp2_with fail
  generalize (w.alloc (.cells #[.slice (some ⟨b, o, none⟩) t.length c] 32)) = W0 at *
  have HB0 := Lib.hid b0
  have HE0 := Lib.hid e0
  have HF := Lib.hid (fun W' (he : Ex W0.drew W') => And.intro ((HB0.out.ex ((Ex.refl W0).drew.trans he)).cell 0) (And.intro ((he.below.cell (p := ⟨b, o + v, none⟩) (by show b < _; exact Nat.lt_of_lt_of_le hbw HE0.out.size)).trans HRW.out) ((he.below.cell (p := ⟨bb v, oo v + y, none⟩) (by show bb v < _; exact Nat.lt_of_lt_of_le hbl2 HE0.out.size)).trans HEN.out)))
  clear b0 e0 h1r h1e hco0 hcl0
  refine wp_region_quiet (C := fun w' => Ex W0.drew w') (by kernel_rfl) (by kernel_rfl) (Ex.refl _) ?_
  refine BigFrame.wpQuiet_want (by rfl) fun K hK => ⟨?_, fun w' hC => ?_, hK _ ?_⟩
  rotate_left
  · (obtain ⟨q0, q1, q2⟩ := HF.out _ hC; go_simp; first | done | with_reducible rfl | exact ⟨rfl, hC⟩)
  clear hK K
  simp only [Act.put, List.setIfInBounds_toArray, List.set_cons_zero, List.set_cons_succ]
  refine BigFrame.wpQuiet_want (by rfl) fun K hK => ⟨?_, fun w' hC => ?_, hK _ ?_⟩
  rotate_left
  · (obtain ⟨q0, q1, q2⟩ := HF.out _ hC; go_simp; first | done | with_reducible rfl | exact ⟨rfl, hC⟩)
  clear hK K
  simp only [Act.put, List.setIfInBounds_toArray, List.set_cons_zero, List.set_cons_succ]
  refine BigFrame.wpQuiet_want (by rfl) fun K hK => ⟨?_, fun w' hC => ?_, hK _ ?_⟩
  rotate_left
  · (obtain ⟨q0, q1, q2⟩ := HF.out _ hC; go_simp; first | done | with_reducible rfl | exact ⟨rfl, hC⟩)
  clear hK K
  simp only [Act.put, List.setIfInBounds_toArray, List.set_cons_zero, List.set_cons_succ]
  refine BigFrame.wpQuiet_want (by rfl) fun K hK => ⟨?_, fun w' hC => ?_, hK _ ?_⟩
  rotate_left
  · (obtain ⟨q0, q1, q2⟩ := HF.out _ hC; go_simp; first | done | with_reducible rfl | exact ⟨rfl, hC⟩)
  clear hK K
  simp only [Act.put, List.setIfInBounds_toArray, List.set_cons_zero, List.set_cons_succ]
  refine BigFrame.wpQuiet_want (by rfl) fun K hK => ⟨?_, fun w' hC => ?_, hK _ ?_⟩
  rotate_left
  · (obtain ⟨q0, q1, q2⟩ := HF.out _ hC; go_simp; first | done | with_reducible rfl | exact ⟨rfl, hC⟩)
  clear hK K
  simp only [Act.put, List.setIfInBounds_toArray, List.set_cons_zero, List.set_cons_succ]
  refine BigFrame.wpQuiet_want (by rfl) fun K hK => ⟨.int .i64 (v : Int), fun w' hC => (by go_simp; refine ((HIV.out w' (HE0.out.trans ((Ex.refl W0).drew.trans hC)))).mono ?_; rintro e w2 ⟨rfl, hb⟩; exact ⟨rfl, hC.trans hb⟩), hK _ ?_⟩
  clear hK K
  simp only [Act.put, List.setIfInBounds_toArray, List.set_cons_zero, List.set_cons_succ]
  refine BigFrame.wpQuiet_want (by rfl) fun K hK => ⟨?_, fun w' hC => ?_, hK _ ?_⟩
  rotate_left
  · (obtain ⟨q0, q1, q2⟩ := HF.out _ hC; go_simp; first | done | with_reducible rfl | exact ⟨rfl, hC⟩)
  clear hK K
  simp only [Act.put, List.setIfInBounds_toArray, List.set_cons_zero, List.set_cons_succ]
  refine BigFrame.wpQuiet_want (by rfl) fun K hK => ⟨?_, fun w' hC => ?_, hK _ ?_⟩
  rotate_left
  · (obtain ⟨q0, q1, q2⟩ := HF.out _ hC; go_simp; first | done | with_reducible rfl | exact ⟨rfl, hC⟩)
  clear hK K
  simp only [Act.put, List.setIfInBounds_toArray, List.set_cons_zero, List.set_cons_succ]
  refine BigFrame.wpQuiet_want (by rfl) fun K hK => ⟨?_, fun w' hC => ?_, hK _ ?_⟩
  rotate_left
  · (obtain ⟨q0, q1, q2⟩ := HF.out _ hC; go_simp; first | done | with_reducible rfl | exact ⟨rfl, hC⟩)
  clear hK K
  simp only [Act.put, List.setIfInBounds_toArray, List.set_cons_zero, List.set_cons_succ]
  refine BigFrame.wpQuiet_want (by rfl) fun K hK => ⟨?_, fun w' hC => ?_, hK _ ?_⟩
  rotate_left
  · (obtain ⟨q0, q1, q2⟩ := HF.out _ hC; go_simp; first | done | with_reducible rfl | exact ⟨rfl, hC⟩)
  clear hK K
  simp only [Act.put, List.setIfInBounds_toArray, List.set_cons_zero, List.set_cons_succ]
  refine BigFrame.wpQuiet_want (by rfl) fun K hK => ⟨?_, fun w' hC => ?_, hK _ ?_⟩
  rotate_left
  · (obtain ⟨q0, q1, q2⟩ := HF.out _ hC; go_simp; first | done | with_reducible rfl | exact ⟨rfl, hC⟩)
  clear hK K
  simp only [Act.put, List.setIfInBounds_toArray, List.set_cons_zero, List.set_cons_succ]
  refine BigFrame.wpQuiet_want (by rfl) fun K hK => ⟨?_, fun w' hC => ?_, hK _ ?_⟩
  rotate_left
  · (obtain ⟨q0, q1, q2⟩ := HF.out _ hC; go_simp; first | done | with_reducible rfl | exact ⟨rfl, hC⟩)
  clear hK K
  simp only [Act.put, List.setIfInBounds_toArray, List.set_cons_zero, List.set_cons_succ]
  refine BigFrame.wpQuiet_want (by rfl) fun K hK => ⟨?_, fun w' hC => ?_, hK _ ?_⟩
  rotate_left
  · (obtain ⟨q0, q1, q2⟩ := HF.out _ hC; go_simp; first | done | with_reducible rfl | exact ⟨rfl, hC⟩)
  clear hK K
  simp only [Act.put, List.setIfInBounds_toArray, List.set_cons_zero, List.set_cons_succ]
  refine wpQuiet_nil ?_
  intro w2 hC2
  have HC2 := Lib.hid hC2
  clear hC2
  go_wp2_with fail
  go_wp2_with fail
  exact bodyPost_ret (v := .tuple #[.int .i64 (f : Int), .int .i64 (z : Int)]) (by simp [results, Tryz.results53, go_sem]) rfl ⟨rfl, HE0.out.trans ((Ex.refl W0).drew.trans HC2.out)⟩

end Go.Proofs.YtcdijeeabgmgmaaGreatDoor

/- TransferElement: the model, and the specification's contract. -/
namespace Go.Proofs.YtcdijeeabgmgmaaGreatDoor
open Go.RowKit

noncomputable def teC (t : List (List Int)) (xs : List Int) (x : Int) : Int := if sgC t xs [x] = 0 then (if abB (grT t xs) = true then 0 else 5) else sgC t xs [x]
/-- What the coset numbered k gives, and the product of the first k. -/
noncomputable def trB (t : List (List Int)) (S : Cos) (x k : Nat) : Nat := mul t (iv t (fstA S (S.num (mul t x (fstA S k))))) (mul t x (fstA S k))
noncomputable def trP (t : List (List Int)) (S : Cos) (x : Nat) : Nat → Nat
  | 0 => 0
  | k + 1 => mul t (trP t S x k) (trB t S x k)
noncomputable def qTransferElement0 (t : List (List Int)) (xs : List Int) (x : Int) : Int := if teC t xs x = 0 then (trP t (cosS t xs) x.toNat (cosS t xs).fst.length : Int) else 0
noncomputable def qTransferElement1 (t : List (List Int)) (xs : List Int) (x : Int) : Int := teC t xs x
section
variable {t : List (List Int)} {xs : List Int} {x : Int}
theorem teo_no {z : Int} (h : teC t xs x = z) (hz : z ≠ 0) : qTransferElement0 t xs x = 0 ∧ qTransferElement1 t xs x = z := by simp [qTransferElement0, qTransferElement1, h, hz]
theorem teo_yes {x : Nat} (h : teC t xs (x : Int) = 0) : qTransferElement0 t xs (x : Int) = (trP t (cosS t xs) x (cosS t xs).fst.length : Int) ∧ qTransferElement1 t xs (x : Int) = 0 := by simp [qTransferElement0, qTransferElement1, h]
theorem teC_no {z : Int} (h : sgC t xs [x] = z) (hz : z ≠ 0) : teC t xs x = z := by simp [teC, h, hz]
theorem teC_ab (h : sgC t xs [x] = 0) (ha : abB (grT t xs) = false) : teC t xs x = 5 := by simp [teC, h, ha]
theorem teC_yes (h : sgC t xs [x] = 0) (ha : abB (grT t xs) = true) : teC t xs x = 0 := by simp [teC, h, ha]
end

/-- What the cosets of a subgroup give to the walks. -/
theorem stepL_of {t : List (List Int)} {xs : List Int} (h : SubX t xs) : StepL t (cosS t xs).num (fstA (cosS t xs)) ((List.range t.length).map fun x => ((cosS t xs).num x : Int)) ((cosS t xs).fst.map fun x : Nat => (x : Int)) where
  ol := by simp
  at_ y hy := by
    obtain ⟨h1, -, -⟩ := coset_at h.g h.s hy
    exact ⟨by simp [nth, hy], by rw [List.length_map]; exact h1⟩
  fs j hj := by
    rw [List.length_map] at hj
    exact ⟨fstA_nth hj, (cosS_b h.g h.b).lt _ (fstA_mem hj)⟩
theorem trB_lt {t : List (List Int)} {xs : List Int} (h : SubX t xs) {x k : Nat} (hx : x < t.length) (hk : k < (cosS t xs).fst.length) : trB t (cosS t xs) x k < t.length := by
  have hf := (cosS_b h.g h.b).lt _ (fstA_mem hk)
  exact h.s.lt _ (coset_at h.g h.s (h.g.mul_lt hx hf)).2.2
theorem trP_lt {t : List (List Int)} {xs : List Int} (h : SubX t xs) {x : Nat} (hx : x < t.length) : ∀ k, k ≤ (cosS t xs).fst.length → trP t (cosS t xs) x k < t.length
  | 0, _ => h.g.n1
  | k + 1, hk => h.g.mul_lt (trP_lt h hx k (by omega)) (trB_lt h hx (by omega))

end Go.Proofs.YtcdijeeabgmgmaaGreatDoor

/- The closures that a subgroup's cosets hand out: where an element sends a coset. -/
namespace Go.Proofs.YtcdijeeabgmgmaaGreatDoor
open Go.RowKit

set_option maxRecDepth 100000 in
set_option maxHeartbeats 8000000 in
theorem cos1_ex (Bi Br Bf Bp : Nat) (P A Lh O L : Option Addr) (p pc k ch c c1 c2 : Nat) (t : List (List Int)) (num fst : Nat → Nat) (os ls : List Int) (x r : Nat) (w : World)
    (hI : Has w Bi 90 #[.slice P p pc, .slice A t.length c, .slice Lh k ch]) (hr0 : Has w Br 2 #[.int .i64 (r : Int)]) (hF : Has w Bf 25 #[.slice L ls.length c2]) (hP : Has w Bp 25 #[.slice O os.length c1])
    (hR : RwsW w A t) (hO : IntsW w O os) (hL : IntsW w L ls) (hg : IsGrp t) (hS : StepL t num fst os ls) (_ : ls.length ≤ 8) (hx : x < t.length) (hr : r < t.length) :
    Calls Tryz.prog 93 #[.int .i64 (x : Int), .pointer (some ⟨Bi, 0, none⟩), .pointer (some ⟨Br, 0, none⟩), .pointer (some ⟨Bf, 0, none⟩), .pointer (some ⟨Bp, 0, none⟩)] w fun e w' => e = .returned (.tuple #[.int .i64 (fst (num (mul t x r)) : Int), .int .i64 (mul t (iv t (fst (num (mul t x r)))) (mul t x r) : Int)]) ∧ Ex w w' := by
  obtain ⟨b, o, bb, oo, C, rfl, hQ⟩ := hR.sq hg
  have hn8 := hg.n8
  have hy := hg.mul_lt hx hr
  obtain ⟨hn1, hn2⟩ := hS.at_ _ hy
  obtain ⟨hf1, hf2⟩ := hS.fs _ hn2
  obtain ⟨hi1, -⟩ := iv_spec hg hf2
  have hol : mul t x r < os.length := by rw [hS.ol]; exact hy
  have hosl : os.length ≤ 8 := by rw [hS.ol]; exact hn8
  clear hS
  have HIV := Lib.hid (fun W (he : Ex w W) => inverseOf_any (some ⟨b, o, none⟩) t c (fst (num (mul t x r))) W (hR.ex he) hg hf2)
  obtain ⟨bo, oo', rfl, hbo, hco⟩ := hO.ints.at_ hol
  obtain ⟨bl, ol, rfl, hbl, hcl⟩ := hL.ints.at_ hn2
  rw [hn1] at hco
  rw [hf1] at hcl
  have HQ := Lib.hid hQ
  have HG := Lib.hid hg
  have h1 := Lib.hid (fun W' (he : Ex w W') => And.intro ((hI.ex he).cell 1) (And.intro ((hQ.ex he).row_ hx) (And.intro ((hr0.ex he).cell 0) (((hQ.ex he).ent_ hx hr).trans (by rw [hg.ent hx hr])))))
  have h2 := Lib.hid (fun W' (he : Ex w W') => And.intro ((hF.ex he).cell 0) (And.intro ((hP.ex he).cell 0) (And.intro ((he.below.cell (p := ⟨bo, oo' + mul t x r, none⟩) hbo).trans hco) ((he.below.cell (p := ⟨bl, ol + num (mul t x r), none⟩) hbl).trans hcl))))
  have h3 := Lib.hid (fun W' (he : Ex w W') => And.intro ((hI.ex he).cell 1) (And.intro ((hQ.ex he).row_ hi1) (((hQ.ex he).ent_ hi1 hy).trans (by rw [hg.ent hi1 hy]))))
  clear hQ hg hR hO hL hco hcl hn1 hf1 HQ HG hI hr0 hF hP hbo hbl
  generalize mul t x r = y at *
  generalize num y = j at *
  generalize fst j = f at *
  generalize iv t f = v at *
  generalize mul t v y = z at *
  go_enter Tryz.func93, Tryz.ntmps93
  go_wp2_with fail
  have HA := Lib.hid (fun W' (he : Ex w.drew W') => h1.out W' ((Ex.refl w).drew.trans he))
  refine wp_region_quiet (C := fun w' => Ex w.drew w') (by kernel_rfl) (by kernel_rfl) (Ex.refl _) ?_
  refine BigFrame.wpQuiet_want (by rfl) fun K hK => ⟨?_, fun w' hC => ?_, hK _ ?_⟩
  rotate_left
  · (obtain ⟨q0, q1, q2, q3⟩ := HA.out _ hC; go_simp; first | done | with_reducible rfl | exact ⟨rfl, hC⟩)
  clear hK K
  simp only [Act.put, List.setIfInBounds_toArray, List.set_cons_zero, List.set_cons_succ]
  refine BigFrame.wpQuiet_want (by rfl) fun K hK => ⟨?_, fun w' hC => ?_, hK _ ?_⟩
  rotate_left
  · (obtain ⟨q0, q1, q2, q3⟩ := HA.out _ hC; go_simp; first | done | with_reducible rfl | exact ⟨rfl, hC⟩)
  clear hK K
  simp only [Act.put, List.setIfInBounds_toArray, List.set_cons_zero, List.set_cons_succ]
  refine BigFrame.wpQuiet_want (by rfl) fun K hK => ⟨?_, fun w' hC => ?_, hK _ ?_⟩
  rotate_left
  · (obtain ⟨q0, q1, q2, q3⟩ := HA.out _ hC; go_simp; first | done | with_reducible rfl | exact ⟨rfl, hC⟩)
  clear hK K
  simp only [Act.put, List.setIfInBounds_toArray, List.set_cons_zero, List.set_cons_succ]
  refine BigFrame.wpQuiet_want (by rfl) fun K hK => ⟨?_, fun w' hC => ?_, hK _ ?_⟩
  rotate_left
  · (obtain ⟨q0, q1, q2, q3⟩ := HA.out _ hC; go_simp; first | done | with_reducible rfl | exact ⟨rfl, hC⟩)
  clear hK K
  simp only [Act.put, List.setIfInBounds_toArray, List.set_cons_zero, List.set_cons_succ]
  refine BigFrame.wpQuiet_want (by rfl) fun K hK => ⟨?_, fun w' hC => ?_, hK _ ?_⟩
  rotate_left
  · (obtain ⟨q0, q1, q2, q3⟩ := HA.out _ hC; go_simp; first | done | with_reducible rfl | exact ⟨rfl, hC⟩)
  clear hK K
  simp only [Act.put, List.setIfInBounds_toArray, List.set_cons_zero, List.set_cons_succ]
  refine BigFrame.wpQuiet_want (by rfl) fun K hK => ⟨?_, fun w' hC => ?_, hK _ ?_⟩
  rotate_left
  · (obtain ⟨q0, q1, q2, q3⟩ := HA.out _ hC; go_simp; first | done | with_reducible rfl | exact ⟨rfl, hC⟩)
  clear hK K
  simp only [Act.put, List.setIfInBounds_toArray, List.set_cons_zero, List.set_cons_succ]
  refine BigFrame.wpQuiet_want (by rfl) fun K hK => ⟨?_, fun w' hC => ?_, hK _ ?_⟩
  rotate_left
  · (obtain ⟨q0, q1, q2, q3⟩ := HA.out _ hC; go_simp; first | done | with_reducible rfl | exact ⟨rfl, hC⟩)
  clear hK K
  simp only [Act.put, List.setIfInBounds_toArray, List.set_cons_zero, List.set_cons_succ]
  refine BigFrame.wpQuiet_want (by rfl) fun K hK => ⟨?_, fun w' hC => ?_, hK _ ?_⟩
  rotate_left
  · (obtain ⟨q0, q1, q2, q3⟩ := HA.out _ hC; go_simp; first | done | with_reducible rfl | exact ⟨rfl, hC⟩)
  clear hK K
  simp only [Act.put, List.setIfInBounds_toArray, List.set_cons_zero, List.set_cons_succ]
  refine BigFrame.wpQuiet_want (by rfl) fun K hK => ⟨?_, fun w' hC => ?_, hK _ ?_⟩
  rotate_left
  · (obtain ⟨q0, q1, q2, q3⟩ := HA.out _ hC; go_simp; first | done | with_reducible rfl | exact ⟨rfl, hC⟩)
  clear hK K
  simp only [Act.put, List.setIfInBounds_toArray, List.set_cons_zero, List.set_cons_succ]
  refine BigFrame.wpQuiet_want (by rfl) fun K hK => ⟨?_, fun w' hC => ?_, hK _ ?_⟩
  rotate_left
  · (obtain ⟨q0, q1, q2, q3⟩ := HA.out _ hC; go_simp; first | done | with_reducible rfl | exact ⟨rfl, hC⟩)
  clear hK K
  simp only [Act.put, List.setIfInBounds_toArray, List.set_cons_zero, List.set_cons_succ]
  refine wpQuiet_nil ?_
  intro w1 hw1
  have HW1 := Lib.hid ((Ex.refl w).drew.trans hw1)
  clear hw1 HA
  go_wp2_with fail
  have HB := Lib.hid (fun W' (he : Ex w1.drew W') => h2.out W' (HW1.out.drew.trans he))
  refine wp_region_quiet (C := fun w' => Ex w1.drew w') (by kernel_rfl) (by kernel_rfl) (Ex.refl _) ?_
  refine BigFrame.wpQuiet_want (by rfl) fun K hK => ⟨?_, fun w' hC => ?_, hK _ ?_⟩
  rotate_left
  · (obtain ⟨q0, q1, q2, q3⟩ := HB.out _ hC; go_simp; first | done | with_reducible rfl | exact ⟨rfl, hC⟩)
  clear hK K
  simp only [Act.put, List.setIfInBounds_toArray, List.set_cons_zero, List.set_cons_succ]
  refine BigFrame.wpQuiet_want (by rfl) fun K hK => ⟨?_, fun w' hC => ?_, hK _ ?_⟩
  rotate_left
  · (obtain ⟨q0, q1, q2, q3⟩ := HB.out _ hC; go_simp; first | done | with_reducible rfl | exact ⟨rfl, hC⟩)
  clear hK K
  simp only [Act.put, List.setIfInBounds_toArray, List.set_cons_zero, List.set_cons_succ]
  refine BigFrame.wpQuiet_want (by rfl) fun K hK => ⟨?_, fun w' hC => ?_, hK _ ?_⟩
  rotate_left
  · (obtain ⟨q0, q1, q2, q3⟩ := HB.out _ hC; go_simp; first | done | with_reducible rfl | exact ⟨rfl, hC⟩)
  clear hK K
  simp only [Act.put, List.setIfInBounds_toArray, List.set_cons_zero, List.set_cons_succ]
  refine BigFrame.wpQuiet_want (by rfl) fun K hK => ⟨?_, fun w' hC => ?_, hK _ ?_⟩
  rotate_left
  · (obtain ⟨q0, q1, q2, q3⟩ := HB.out _ hC; go_simp; first | done | with_reducible rfl | exact ⟨rfl, hC⟩)
  clear hK K
  simp only [Act.put, List.setIfInBounds_toArray, List.set_cons_zero, List.set_cons_succ]
  refine BigFrame.wpQuiet_want (by rfl) fun K hK => ⟨?_, fun w' hC => ?_, hK _ ?_⟩
  rotate_left
  · (obtain ⟨q0, q1, q2, q3⟩ := HB.out _ hC; go_simp; first | done | with_reducible rfl | exact ⟨rfl, hC⟩)
  clear hK K
  simp only [Act.put, List.setIfInBounds_toArray, List.set_cons_zero, List.set_cons_succ]
  refine BigFrame.wpQuiet_want (by rfl) fun K hK => ⟨?_, fun w' hC => ?_, hK _ ?_⟩
  rotate_left
  · (obtain ⟨q0, q1, q2, q3⟩ := HB.out _ hC; go_simp; first | done | with_reducible rfl | exact ⟨rfl, hC⟩)
  clear hK K
  simp only [Act.put, List.setIfInBounds_toArray, List.set_cons_zero, List.set_cons_succ]
  refine BigFrame.wpQuiet_want (by rfl) fun K hK => ⟨?_, fun w' hC => ?_, hK _ ?_⟩
  rotate_left
  · (obtain ⟨q0, q1, q2, q3⟩ := HB.out _ hC; go_simp; first | done | with_reducible rfl | exact ⟨rfl, hC⟩)
  clear hK K
  simp only [Act.put, List.setIfInBounds_toArray, List.set_cons_zero, List.set_cons_succ]
  refine BigFrame.wpQuiet_want (by rfl) fun K hK => ⟨?_, fun w' hC => ?_, hK _ ?_⟩
  rotate_left
  · (obtain ⟨q0, q1, q2, q3⟩ := HB.out _ hC; go_simp; first | done | with_reducible rfl | exact ⟨rfl, hC⟩)
  clear hK K
  simp only [Act.put, List.setIfInBounds_toArray, List.set_cons_zero, List.set_cons_succ]
  refine wpQuiet_nil ?_
  intro w2 hw2
  have HW2 := Lib.hid (HW1.out.drew.trans hw2)
  clear hw2 HB
  go_wp2_with fail
  have HD := Lib.hid (fun W' (he : Ex w2.drew W') => h3.out W' (HW2.out.drew.trans he))
  refine wp_region_quiet (C := fun w' => Ex w2.drew w') (by kernel_rfl) (by kernel_rfl) (Ex.refl _) ?_
  refine BigFrame.wpQuiet_want (by rfl) fun K hK => ⟨?_, fun w' hC => ?_, hK _ ?_⟩
  rotate_left
  · (obtain ⟨q0, q1, q2⟩ := HD.out _ hC; go_simp; first | done | with_reducible rfl | exact ⟨rfl, hC⟩)
  clear hK K
  simp only [Act.put, List.setIfInBounds_toArray, List.set_cons_zero, List.set_cons_succ]
  refine BigFrame.wpQuiet_want (by rfl) fun K hK => ⟨?_, fun w' hC => ?_, hK _ ?_⟩
  rotate_left
  · (obtain ⟨q0, q1, q2⟩ := HD.out _ hC; go_simp; first | done | with_reducible rfl | exact ⟨rfl, hC⟩)
  clear hK K
  simp only [Act.put, List.setIfInBounds_toArray, List.set_cons_zero, List.set_cons_succ]
  refine BigFrame.wpQuiet_want (by rfl) fun K hK => ⟨?_, fun w' hC => ?_, hK _ ?_⟩
  rotate_left
  · (obtain ⟨q0, q1, q2⟩ := HD.out _ hC; go_simp; first | done | with_reducible rfl | exact ⟨rfl, hC⟩)
  clear hK K
  simp only [Act.put, List.setIfInBounds_toArray, List.set_cons_zero, List.set_cons_succ]
  refine BigFrame.wpQuiet_want (by rfl) fun K hK => ⟨?_, fun w' hC => ?_, hK _ ?_⟩
  rotate_left
  · (obtain ⟨q0, q1, q2⟩ := HD.out _ hC; go_simp; first | done | with_reducible rfl | exact ⟨rfl, hC⟩)
  clear hK K
  simp only [Act.put, List.setIfInBounds_toArray, List.set_cons_zero, List.set_cons_succ]
  refine BigFrame.wpQuiet_want (by rfl) fun K hK => ⟨?_, fun w' hC => ?_, hK _ ?_⟩
  rotate_left
  · (obtain ⟨q0, q1, q2⟩ := HD.out _ hC; go_simp; first | done | with_reducible rfl | exact ⟨rfl, hC⟩)
  clear hK K
  simp only [Act.put, List.setIfInBounds_toArray, List.set_cons_zero, List.set_cons_succ]
  refine BigFrame.wpQuiet_want (by rfl) fun K hK => ⟨?_, fun w' hC => ?_, hK _ ?_⟩
  rotate_left
  · (obtain ⟨q0, q1, q2⟩ := HD.out _ hC; go_simp; first | done | with_reducible rfl | exact ⟨rfl, hC⟩)
  clear hK K
  simp only [Act.put, List.setIfInBounds_toArray, List.set_cons_zero, List.set_cons_succ]
  refine BigFrame.wpQuiet_want (by rfl) fun K hK => ⟨?_, fun w' hC => ?_, hK _ ?_⟩
  rotate_left
  · (obtain ⟨q0, q1, q2⟩ := HD.out _ hC; go_simp; first | done | with_reducible rfl | exact ⟨rfl, hC⟩)
  clear hK K
  simp only [Act.put, List.setIfInBounds_toArray, List.set_cons_zero, List.set_cons_succ]
  refine BigFrame.wpQuiet_want (by rfl) fun K hK => ⟨.int .i64 (v : Int), fun w' hC => (by go_simp; refine ((HIV.out w' (HW2.out.drew.trans hC))).mono ?_; rintro e w2 ⟨rfl, hb⟩; exact ⟨rfl, hC.trans hb⟩), hK _ ?_⟩
  clear hK K
  simp only [Act.put, List.setIfInBounds_toArray, List.set_cons_zero, List.set_cons_succ]
  refine BigFrame.wpQuiet_want (by rfl) fun K hK => ⟨?_, fun w' hC => ?_, hK _ ?_⟩
  rotate_left
  · (obtain ⟨q0, q1, q2⟩ := HD.out _ hC; go_simp; first | done | with_reducible rfl | exact ⟨rfl, hC⟩)
  clear hK K
  simp only [Act.put, List.setIfInBounds_toArray, List.set_cons_zero, List.set_cons_succ]
  refine BigFrame.wpQuiet_want (by rfl) fun K hK => ⟨?_, fun w' hC => ?_, hK _ ?_⟩
  rotate_left
  · (obtain ⟨q0, q1, q2⟩ := HD.out _ hC; go_simp; first | done | with_reducible rfl | exact ⟨rfl, hC⟩)
  clear hK K
  simp only [Act.put, List.setIfInBounds_toArray, List.set_cons_zero, List.set_cons_succ]
  refine BigFrame.wpQuiet_want (by rfl) fun K hK => ⟨?_, fun w' hC => ?_, hK _ ?_⟩
  rotate_left
  · (obtain ⟨q0, q1, q2⟩ := HD.out _ hC; go_simp; first | done | with_reducible rfl | exact ⟨rfl, hC⟩)
  clear hK K
  simp only [Act.put, List.setIfInBounds_toArray, List.set_cons_zero, List.set_cons_succ]
  refine BigFrame.wpQuiet_want (by rfl) fun K hK => ⟨?_, fun w' hC => ?_, hK _ ?_⟩
  rotate_left
  · (obtain ⟨q0, q1, q2⟩ := HD.out _ hC; go_simp; first | done | with_reducible rfl | exact ⟨rfl, hC⟩)
  clear hK K
  simp only [Act.put, List.setIfInBounds_toArray, List.set_cons_zero, List.set_cons_succ]
  refine BigFrame.wpQuiet_want (by rfl) fun K hK => ⟨?_, fun w' hC => ?_, hK _ ?_⟩
  rotate_left
  · (obtain ⟨q0, q1, q2⟩ := HD.out _ hC; go_simp; first | done | with_reducible rfl | exact ⟨rfl, hC⟩)
  clear hK K
  simp only [Act.put, List.setIfInBounds_toArray, List.set_cons_zero, List.set_cons_succ]
  refine BigFrame.wpQuiet_want (by rfl) fun K hK => ⟨?_, fun w' hC => ?_, hK _ ?_⟩
  rotate_left
  · (obtain ⟨q0, q1, q2⟩ := HD.out _ hC; go_simp; first | done | with_reducible rfl | exact ⟨rfl, hC⟩)
  clear hK K
  simp only [Act.put, List.setIfInBounds_toArray, List.set_cons_zero, List.set_cons_succ]
  refine BigFrame.wpQuiet_want (by rfl) fun K hK => ⟨?_, fun w' hC => ?_, hK _ ?_⟩
  rotate_left
  · (obtain ⟨q0, q1, q2⟩ := HD.out _ hC; go_simp; first | done | with_reducible rfl | exact ⟨rfl, hC⟩)
  clear hK K
  simp only [Act.put, List.setIfInBounds_toArray, List.set_cons_zero, List.set_cons_succ]
  refine wpQuiet_nil ?_
  intro w3 hw3
  have HW3 := Lib.hid (HW2.out.drew.trans hw3)
  clear hw3 HD
  go_wp2_with fail
  exact bodyPost_ret (v := .tuple #[.int .i64 (f : Int), .int .i64 (z : Int)]) (by simp [results, Tryz.results93, go_sem]) rfl ⟨rfl, HW3.out⟩

end Go.Proofs.YtcdijeeabgmgmaaGreatDoor

/- The closures of all cosets: the program's cosets(). -/
namespace Go.Proofs.YtcdijeeabgmgmaaGreatDoor
open Go.RowKit

theorem infoCos : (Tryz.prog.info? 97).map (fun i => (i.zero, i.size, i.bytes)) = some (some .nilFunc, 1, 8) := by kernel_rfl

set_option maxHeartbeats 1000000 in
theorem cosetsL_any (A : Option Addr) (t : List (List Int)) (c s : Nat) (w : World) (hR : RwsW w A t) (hg : IsGrp t) (hs : s < 2 ^ t.length) (hT : TabL w) (S : Cos) (hS : cosK t (elN s) t.length = S) :
    Calls Tryz.prog 91 #[.agg #[.slice A t.length c], .int .u64 (s : Int)] w fun e w' => ∃ A0 n0 A1 n1, e = .returned (.tuple #[.slice A0 t.length n0, .slice A1 S.fst.length n1]) ∧ Ex w w' ∧ OwnL w' w.heap.size w'.heap.size A0 ((List.range t.length).map fun x => (S.num x : Int)) ∧ OwnL w' w.heap.size w'.heap.size A1 (S.fst.map fun x : Nat => (x : Int)) := by
  refine (cosetsOf_any A t c s w hR hg hs hT S hS).mono ?_
  rintro e w' ⟨D, v, rfl, he, hD, hn, hG⟩
  obtain ⟨A1, n1, rfl, ho⟩ := hG.own
  rw [List.length_map] at *
  refine ⟨some ⟨D, 0, none⟩, t.length, A1, n1, rfl, he, ?_, ho.mono (by omega) (Nat.le_refl _) (Nat.le_refl _)⟩
  refine OwnL.of_has (n := t.length) (Eq.mp (congrArg (fun f => Has _ _ 2 f) (tab_congr fun j hj => ?_)) hn) (by simp) hD
  simp [nth, hj]

/-- The closure of a coset. -/
def cosFn (Bi Bf Bp g : Nat) : Value := .func (.func 93) #[] #[.pointer (some ⟨Bi, 0, none⟩), .pointer (some ⟨g, 0, none⟩), .pointer (some ⟨Bf, 0, none⟩), .pointer (some ⟨Bp, 0, none⟩)]
/-- What cosets() returns: one closure for each coset, over the inclusion, the coset's first element and both lists. -/
def CosR (t : List (List Int)) (S : Cos) (Bi : Nat) (w : World) (e : Ending) (w' : World) : Prop :=
  ∃ (Bf Bp : Nat) (A0 A1 F : Option Addr) (n0 n1 n2 : Nat) (G : Nat → Nat), e = .returned (.slice F S.fst.length n2) ∧ Ex w w' ∧ Has w' Bp 25 #[.slice A0 t.length n0] ∧ Has w' Bf 25 #[.slice A1 S.fst.length n1] ∧ IntsW w' A0 ((List.range t.length).map fun x => (S.num x : Int)) ∧ IntsW w' A1 (S.fst.map fun x : Nat => (x : Int)) ∧
    (∀ j, j < S.fst.length → Has w' (G j) 2 #[.int .i64 (fstA S j : Int)]) ∧
    ∀ j, j < S.fst.length → ∃ b, F = some ⟨b, 0, none⟩ ∧ b < w'.heap.size ∧ w'.cell? ⟨b, j, none⟩ = some (cosFn Bi Bf Bp (G j))

set_option maxRecDepth 100000 in
set_option maxHeartbeats 8000000 in
theorem cosets_any (P A L : Option Addr) (p pc c c' : Nat) (t : List (List Int)) (xs : List Int) (w : World) (hR : RwsW w A t) (hX : IntsW w L xs) (h : SubX t xs) (hT : TabL w) :
    Calls Tryz.prog 59 #[.agg #[.slice P p pc, .slice A t.length c, .slice L xs.length c']] w fun e w' => CosR t (cosS t xs) w.heap.size w e w' ∧ Has w' w.heap.size 90 #[.slice P p pc, .slice A t.length c, .slice L xs.length c'] := by
  have e0 : Ex w (w.alloc (.cells #[.slice P p pc, .slice A t.length c, .slice L xs.length c'] 90)) := (Ex.refl w).alloc _
  have b0 : Has (w.alloc (.cells #[.slice P p pc, .slice A t.length c, .slice L xs.length c'] 90)) (w.heap.size) 90 #[.slice P p pc, .slice A t.length c, .slice L xs.length c'] := (Has.newAt (w := w) (e := 90) (cs := #[.slice P p pc, .slice A t.length c, .slice L xs.length c']) (k := w.heap.size) (by simp))
  have hn8 := h.g.n8
  have hr := (setB_true.1 h.b).1
  have hxl : xs.length ≤ 1048576 := by have := h.len8; omega
  have HSO := Lib.hid (fun W (he : Ex w W) => (setOf_any L xs c' t.length W (hX.ex he) hxl hn8 hr))
  have HCO := Lib.hid (fun W (he : Ex w W) => cosetsL_any A t c (bitsK xs xs.length) W (hR.ex he) h.g (bitsK_lt hr xs.length (Nat.le_refl _)) (hT.ex he) (cosS t xs) (by rw [els_bits hn8 h.b]; rfl))
  have hKl := (cosS_b h.g h.b).len
  have HFS := Lib.hid (fun j => (stepL_of h).fs j)
  have HE0 := Lib.hid e0
  have HB0 := Lib.hid b0
  obtain ⟨s, hs⟩ : ∃ s, bitsK xs xs.length = s := ⟨_, rfl⟩
  rw [hs] at HSO HCO
  obtain ⟨S, hS⟩ : ∃ S, cosS t xs = S := ⟨_, rfl⟩
  rw [hS] at HCO hKl HFS ⊢
  have hK8 : S.fst.length ≤ 8 := by omega
  have hll : (S.fst.map fun x : Nat => (x : Int)).length = S.fst.length := List.length_map ..
  rw [hll] at HFS
  obtain ⟨N, hN⟩ : ∃ N, t.length = N := ⟨_, rfl⟩
  obtain ⟨M, hM⟩ : ∃ M, xs.length = M := ⟨_, rfl⟩
  obtain ⟨K, hK⟩ : ∃ K, S.fst.length = K := ⟨_, rfl⟩
  obtain ⟨os, hos⟩ : ∃ os, ((List.range t.length).map fun x => (S.num x : Int)) = os := ⟨_, rfl⟩
  obtain ⟨ls, hls⟩ : ∃ ls, (S.fst.map fun x : Nat => (x : Int)) = ls := ⟨_, rfl⟩
  have HOSE := Lib.hid hos
  have HLSE := Lib.hid hls
  have HNN := Lib.hid hN
  have HKK := Lib.hid hK
  rw [hos, hls] at HCO
  rw [hls] at hll HFS
  rw [hN, hK] at HCO
  rw [hM] at HSO HB0 HE0
  rw [hN] at HB0 HE0
  rw [hK] at hK8 hll HFS
  rw [hN, hM]
  have HLL := Lib.hid hll
  have HCF := Lib.hid (fun (W : World) (he : Ex (w.alloc (.cells #[.slice P p pc, .slice A N c, .slice L M c'] 90)) W) => And.intro ((HB0.out.ex he).cell 1) ((HB0.out.ex he).cell 2))
  clear hn8 hr hxl hKl hs hS hN hM hK hos hls hR hX h hT b0 e0 hll
  go_enter Tryz.func59, Tryz.ntmps59
  go_wp2_with fail
  generalize w.alloc (.cells #[.slice P p pc, .slice A N c, .slice L M c'] 90) = W0 at *
  have hC0 := HCF.out W0 (Ex.refl _)
  refine Late.region (C := fun w' => w'.cell? ⟨w.heap.size, 1, none⟩ = some (.slice A N c) ∧ w'.cell? ⟨w.heap.size, 2, none⟩ = some (.slice L M c')) (fun _ => true) (by kernel_rfl) hC0 (fun hC => ?_)
  refine Late.take (i := 0) (oi := _) (v := ?_) rfl (by kernel_rfl) (by kernel_rfl) (by kernel_rfl) (by kernel_rfl) (fun _ _ _ h => h) (Or.inl ⟨by rfl, ?_⟩) hC ?_
  rotate_left
  · (intro w hSw; (try dsimp only at hSw); go_simp; first | done | with_reducible rfl)
  simp only [Act.put]
  refine Late.take (i := 1) (oi := _) (v := ?_) rfl (by kernel_rfl) (by kernel_rfl) (by kernel_rfl) (by kernel_rfl) (fun _ _ _ h => h) (Or.inl ⟨by rfl, ?_⟩) hC ?_
  rotate_left
  · (intro w hSw; (try dsimp only at hSw); go_simp; first | done | with_reducible rfl)
  simp only [Act.put]
  refine Late.take (i := 2) (oi := _) (v := ?_) rfl (by kernel_rfl) (by kernel_rfl) (by kernel_rfl) (by kernel_rfl) (fun _ _ _ h => h) (Or.inl ⟨by rfl, ?_⟩) hC ?_
  rotate_left
  · (intro w hSw; (try dsimp only at hSw); go_simp; first | done | with_reducible rfl)
  simp only [Act.put]
  refine Late.take (i := 3) (oi := _) (v := ?_) rfl (by kernel_rfl) (by kernel_rfl) (by kernel_rfl) (by kernel_rfl) (fun _ _ _ h => h) (Or.inl ⟨by rfl, ?_⟩) hC ?_
  rotate_left
  · (intro w hSw; (try dsimp only at hSw); go_simp; first | done | with_reducible rfl)
  simp only [Act.put]
  clear hC hC0
  refine late_start (SS := fun (a0 : Act) (ds : Array Bool) (a : Act) (w' : World) => ∃ (v13 v14 v8 v15 v16 v3 v4 : Value) (A0 : Option Addr) (n0 : Nat) (A1 : Option Addr) (n1 : Nat) (lo hi D E : Nat), a = (((((((a0.put (some 13) v13).put (some 14) v14).put (some 8) v8).put (some 15) v15).put (some 16) v16).put (some 3) v3).put (some 4) v4) ∧ (ds.getD 0 true = true ∧ ds.getD 1 true = true ∧ ds.getD 2 true = true ∧ ds.getD 3 true = true) ∧ Ex W0 w' ∧ (ds.getD 4 true = true → ds.getD 5 true = false → v13 = .int .u64 (s : Int)) ∧ (ds.getD 5 true = true → v14 = (.tuple #[.slice A0 N n0, .slice A1 K n1] : Value)) ∧ (ds.getD 6 true = true → ds.getD 5 true = true ∧ v8 = (.tuple #[.slice A0 N n0, .slice A1 K n1] : Value)) ∧ (ds.getD 7 true = true → ds.getD 5 true = true ∧ v15 = .slice A0 N n0) ∧ (ds.getD 8 true = true → ds.getD 5 true = true ∧ v16 = .slice A1 K n1) ∧ (ds.getD 5 true = true → W0.heap.size ≤ lo) ∧ TwoR W0.heap.size 25 25 #[.slice none 0 0] #[.slice none 0 0] #[.slice A0 N n0] #[.slice A1 K n1] (fun W lo hi => OwnL W lo hi A0 os ∧ OwnL W lo hi A1 ls) (ds.getD 5 true) (ds.getD 9 true) (ds.getD 10 true) (ds.getD 11 true) (ds.getD 12 true) v3 v4 lo hi D E w') (by kernel_rfl) ?h0 (by rfl) (by decide) ?hC ?hend ?hstep
  case h0 => exact ⟨undef, undef, undef, undef, undef, undef, undef, none, 0, none, 0, 0, 0, 0, 0, by go_simp, ⟨by decide, by decide, by decide, by decide⟩, (Ex.refl W0).drew, fun hb => absurd hb (by decide), fun hb => absurd hb (by decide), fun hb => absurd hb (by decide), fun hb => absurd hb (by decide), fun hb => absurd hb (by decide), fun hb => absurd hb (by decide), TwoR.start⟩
  case hC =>
    rintro ds a w' ⟨v13, v14, v8, v15, v16, v3, v4, A0, n0, A1, n1, lo, hi, D, E, rfl, ⟨hd0, hd1, hd2, hd3⟩, hE, hc2, h5, h6, h77, h78, h9, hT⟩
    exact HCF.out w' hE
  case hstep =>
    rintro ds a w' ⟨v13, v14, v8, v15, v16, v3, v4, A0, n0, A1, n1, lo, hi, D, E, rfl, ⟨hd0, hd1, hd2, hd3⟩, hE, hc2, h5, h6, h77, h78, h9, hT⟩ j oj hoj hu hall
    have hjn : j < 13 := (Array.getElem?_eq_some_iff.1 hoj).1
    rcases (by omega : j = 0 ∨ j = 1 ∨ j = 2 ∨ j = 3 ∨ j = 4 ∨ j = 5 ∨ j = 6 ∨ j = 7 ∨ j = 8 ∨ j = 9 ∨ j = 10 ∨ j = 11 ∨ j = 12) with rfl | rfl | rfl | rfl | rfl | rfl | rfl | rfl | rfl | rfl | rfl | rfl | rfl
    · rw [hd0] at hu; cases hu
    · rw [hd1] at hu; cases hu
    · rw [hd2] at hu; cases hu
    · rw [hd3] at hu; cases hu
    · obtain rfl := Option.some.inj hoj
      clear hall
      refine wpOp_step rfl fun K' hK' => ?_
      have hK := Lib.hid hK'
      clear hK'
      rw [if_pos (by rfl)]
      try simp only [Act.put]
      go_simp
      refine (HSO.out w' (HE0.out.trans hE)).mono ?_
      rintro e w2 ⟨rfl, hv⟩
      obtain rfl := hv
      refine hK.out _ _ ⟨_, v14, v8, v15, v16, v3, v4, A0, n0, A1, n1, lo, hi, D, E, by go_simp, ⟨bt_keep hd0, bt_keep hd1, bt_keep hd2, bt_keep hd3⟩, hE, fun _ _ => rfl, fun hb => h5 (bt_old hb (by decide : (5 : Nat) ≠ 4)), fun hb => ⟨bt_keep (h6 (bt_old hb (by decide : (6 : Nat) ≠ 4))).1, (h6 (bt_old hb (by decide : (6 : Nat) ≠ 4))).2⟩, fun hb => ⟨bt_keep (h77 (bt_old hb (by decide : (7 : Nat) ≠ 4))).1, (h77 (bt_old hb (by decide : (7 : Nat) ≠ 4))).2⟩, fun hb => ⟨bt_keep (h78 (bt_old hb (by decide : (8 : Nat) ≠ 4))).1, (h78 (bt_old hb (by decide : (8 : Nat) ≠ 4))).2⟩, fun hb => h9 (bt_old hb (by decide : (5 : Nat) ≠ 4)), ?_⟩
      rw [bt_ne (d := ds) (j := 4) (i := 5) (by decide), bt_ne (d := ds) (j := 4) (i := 9) (by decide), bt_ne (d := ds) (j := 4) (i := 10) (by decide), bt_ne (d := ds) (j := 4) (i := 11) (by decide), bt_ne (d := ds) (j := 4) (i := 12) (by decide)]
      exact hT
    · obtain rfl := Option.some.inj hoj
      obtain rfl := hc2 (hall ⟨4, .data⟩ (by simp) rfl) hu
      clear hall
      refine wpOp_step rfl fun K' hK' => ?_
      have hK := Lib.hid hK'
      clear hK'
      rw [if_pos (by rfl)]
      try simp only [Act.put]
      go_simp
      refine (HCO.out w' (HE0.out.trans hE)).mono ?_
      rintro e w2 ⟨A0', n0', A1', n1', rfl, hv, ho0, ho1⟩
      refine hK.out _ _ ⟨(.int .u64 (s : Int)), _, v8, v15, v16, v3, v4, A0', n0', A1', n1', w'.heap.size, w2.heap.size, D, E, by go_simp, ⟨bt_keep hd0, bt_keep hd1, bt_keep hd2, bt_keep hd3⟩, hE.trans hv, fun _ hn => absurd hn (by rw [bt_self]; decide), fun _ => rfl, fun hb => absurd (h6 (bt_old hb (by decide : (6 : Nat) ≠ 5))).1 (by rw [hu]; decide), fun hb => absurd (h77 (bt_old hb (by decide : (7 : Nat) ≠ 5))).1 (by rw [hu]; decide), fun hb => absurd (h78 (bt_old hb (by decide : (8 : Nat) ≠ 5))).1 (by rw [hu]; decide), fun _ => hE.size, ?_⟩
      rw [bt_self (d := ds) (j := 5), bt_ne (d := ds) (j := 5) (i := 9) (by decide), bt_ne (d := ds) (j := 5) (i := 10) (by decide), bt_ne (d := ds) (j := 5) (i := 11) (by decide), bt_ne (d := ds) (j := 5) (i := 12) (by decide)]
      rw [hu] at hT; exact hT.call hv ⟨ho0, ho1⟩
    · obtain rfl := Option.some.inj hoj
      have hcall := (hall ⟨5, .data⟩ (by simp) rfl)
      obtain rfl := h5 hcall
      clear hall
      refine wpOp_step rfl fun K' hK' => ?_
      have hK := Lib.hid hK'
      clear hK'
      rw [if_pos (by rfl)]
      try simp only [Act.put]
      go_simp
      refine hK.out _ _ ⟨v13, (.tuple #[.slice A0 N n0, .slice A1 K n1] : Value), (.tuple #[.slice A0 N n0, .slice A1 K n1] : Value), v15, v16, v3, v4, A0, n0, A1, n1, lo, hi, D, E, by go_simp, ⟨bt_keep hd0, bt_keep hd1, bt_keep hd2, bt_keep hd3⟩, hE, fun hb hn => hc2 (bt_old hb (by decide : (4 : Nat) ≠ 6)) (bt_no hn), fun _ => rfl, fun _ => ⟨bt_keep hcall, rfl⟩, fun hb => ⟨bt_keep (h77 (bt_old hb (by decide : (7 : Nat) ≠ 6))).1, (h77 (bt_old hb (by decide : (7 : Nat) ≠ 6))).2⟩, fun hb => ⟨bt_keep (h78 (bt_old hb (by decide : (8 : Nat) ≠ 6))).1, (h78 (bt_old hb (by decide : (8 : Nat) ≠ 6))).2⟩, fun hb => h9 (bt_old hb (by decide : (5 : Nat) ≠ 6)), ?_⟩
      rw [bt_ne (d := ds) (j := 6) (i := 5) (by decide), bt_ne (d := ds) (j := 6) (i := 9) (by decide), bt_ne (d := ds) (j := 6) (i := 10) (by decide), bt_ne (d := ds) (j := 6) (i := 11) (by decide), bt_ne (d := ds) (j := 6) (i := 12) (by decide)]
      exact hT
    · obtain rfl := Option.some.inj hoj
      obtain ⟨hcall, rfl⟩ := h6 (hall ⟨6, .data⟩ (by simp) rfl)
      clear hall
      refine wpOp_step rfl fun K' hK' => ?_
      have hK := Lib.hid hK'
      clear hK'
      rw [if_pos (by rfl)]
      try simp only [Act.put]
      go_simp
      refine hK.out _ _ ⟨v13, v14, (.tuple #[.slice A0 N n0, .slice A1 K n1] : Value), (.slice A0 N n0), v16, v3, v4, A0, n0, A1, n1, lo, hi, D, E, by go_simp, ⟨bt_keep hd0, bt_keep hd1, bt_keep hd2, bt_keep hd3⟩, hE, fun hb hn => hc2 (bt_old hb (by decide : (4 : Nat) ≠ 7)) (bt_no hn), fun hb => h5 (bt_old hb (by decide : (5 : Nat) ≠ 7)), fun _ => ⟨bt_keep hcall, rfl⟩, fun _ => ⟨bt_keep hcall, rfl⟩, fun hb => ⟨bt_keep (h78 (bt_old hb (by decide : (8 : Nat) ≠ 7))).1, (h78 (bt_old hb (by decide : (8 : Nat) ≠ 7))).2⟩, fun hb => h9 (bt_old hb (by decide : (5 : Nat) ≠ 7)), ?_⟩
      rw [bt_ne (d := ds) (j := 7) (i := 5) (by decide), bt_ne (d := ds) (j := 7) (i := 9) (by decide), bt_ne (d := ds) (j := 7) (i := 10) (by decide), bt_ne (d := ds) (j := 7) (i := 11) (by decide), bt_ne (d := ds) (j := 7) (i := 12) (by decide)]
      exact hT
    · obtain rfl := Option.some.inj hoj
      obtain ⟨hcall, rfl⟩ := h6 (hall ⟨6, .data⟩ (by simp) rfl)
      clear hall
      refine wpOp_step rfl fun K' hK' => ?_
      have hK := Lib.hid hK'
      clear hK'
      rw [if_pos (by rfl)]
      try simp only [Act.put]
      go_simp
      refine hK.out _ _ ⟨v13, v14, (.tuple #[.slice A0 N n0, .slice A1 K n1] : Value), v15, (.slice A1 K n1), v3, v4, A0, n0, A1, n1, lo, hi, D, E, by go_simp, ⟨bt_keep hd0, bt_keep hd1, bt_keep hd2, bt_keep hd3⟩, hE, fun hb hn => hc2 (bt_old hb (by decide : (4 : Nat) ≠ 8)) (bt_no hn), fun hb => h5 (bt_old hb (by decide : (5 : Nat) ≠ 8)), fun _ => ⟨bt_keep hcall, rfl⟩, fun hb => ⟨bt_keep (h77 (bt_old hb (by decide : (7 : Nat) ≠ 8))).1, (h77 (bt_old hb (by decide : (7 : Nat) ≠ 8))).2⟩, fun _ => ⟨bt_keep hcall, rfl⟩, fun hb => h9 (bt_old hb (by decide : (5 : Nat) ≠ 8)), ?_⟩
      rw [bt_ne (d := ds) (j := 8) (i := 5) (by decide), bt_ne (d := ds) (j := 8) (i := 9) (by decide), bt_ne (d := ds) (j := 8) (i := 10) (by decide), bt_ne (d := ds) (j := 8) (i := 11) (by decide), bt_ne (d := ds) (j := 8) (i := 12) (by decide)]
      exact hT
    · obtain rfl := Option.some.inj hoj
      clear hall
      refine wpOp_step rfl fun K' hK' => ?_
      have hK := Lib.hid hK'
      clear hK'
      rw [if_pos (by rfl)]
      try simp only [Act.put]
      go_simp
      refine hK.out _ _ ⟨v13, v14, v8, v15, v16, (.pointer (some ⟨w'.heap.size, 0, none⟩)), v4, A0, n0, A1, n1, lo, hi, w'.heap.size, E, by go_simp, ⟨bt_keep hd0, bt_keep hd1, bt_keep hd2, bt_keep hd3⟩, hE.alloc _, fun hb hn => hc2 (bt_old hb (by decide : (4 : Nat) ≠ 9)) (bt_no hn), fun hb => h5 (bt_old hb (by decide : (5 : Nat) ≠ 9)), fun hb => ⟨bt_keep (h6 (bt_old hb (by decide : (6 : Nat) ≠ 9))).1, (h6 (bt_old hb (by decide : (6 : Nat) ≠ 9))).2⟩, fun hb => ⟨bt_keep (h77 (bt_old hb (by decide : (7 : Nat) ≠ 9))).1, (h77 (bt_old hb (by decide : (7 : Nat) ≠ 9))).2⟩, fun hb => ⟨bt_keep (h78 (bt_old hb (by decide : (8 : Nat) ≠ 9))).1, (h78 (bt_old hb (by decide : (8 : Nat) ≠ 9))).2⟩, fun hb => h9 (bt_old hb (by decide : (5 : Nat) ≠ 9)), ?_⟩
      rw [bt_ne (d := ds) (j := 9) (i := 5) (by decide), bt_self (d := ds) (j := 9), bt_ne (d := ds) (j := 9) (i := 10) (by decide), bt_ne (d := ds) (j := 9) (i := 11) (by decide), bt_ne (d := ds) (j := 9) (i := 12) (by decide)]
      rw [hu] at hT; exact hT.alloc0 ((Kept.ownL _ _).and (Kept.ownL _ _)) hE.size
    · obtain rfl := Option.some.inj hoj
      clear hall
      refine wpOp_step rfl fun K' hK' => ?_
      have hK := Lib.hid hK'
      clear hK'
      rw [if_pos (by rfl)]
      try simp only [Act.put]
      go_simp
      refine hK.out _ _ ⟨v13, v14, v8, v15, v16, v3, (.pointer (some ⟨w'.heap.size, 0, none⟩)), A0, n0, A1, n1, lo, hi, D, w'.heap.size, by go_simp, ⟨bt_keep hd0, bt_keep hd1, bt_keep hd2, bt_keep hd3⟩, hE.alloc _, fun hb hn => hc2 (bt_old hb (by decide : (4 : Nat) ≠ 10)) (bt_no hn), fun hb => h5 (bt_old hb (by decide : (5 : Nat) ≠ 10)), fun hb => ⟨bt_keep (h6 (bt_old hb (by decide : (6 : Nat) ≠ 10))).1, (h6 (bt_old hb (by decide : (6 : Nat) ≠ 10))).2⟩, fun hb => ⟨bt_keep (h77 (bt_old hb (by decide : (7 : Nat) ≠ 10))).1, (h77 (bt_old hb (by decide : (7 : Nat) ≠ 10))).2⟩, fun hb => ⟨bt_keep (h78 (bt_old hb (by decide : (8 : Nat) ≠ 10))).1, (h78 (bt_old hb (by decide : (8 : Nat) ≠ 10))).2⟩, fun hb => h9 (bt_old hb (by decide : (5 : Nat) ≠ 10)), ?_⟩
      rw [bt_ne (d := ds) (j := 10) (i := 5) (by decide), bt_ne (d := ds) (j := 10) (i := 9) (by decide), bt_self (d := ds) (j := 10), bt_ne (d := ds) (j := 10) (i := 11) (by decide), bt_ne (d := ds) (j := 10) (i := 12) (by decide)]
      rw [hu] at hT; exact hT.alloc1 ((Kept.ownL _ _).and (Kept.ownL _ _)) hE.size
    · obtain rfl := Option.some.inj hoj
      obtain ⟨hcall, rfl⟩ := h77 (hall ⟨7, .data⟩ (by simp) rfl)
      have hal := (hall ⟨9, .data⟩ (by simp) rfl)
      obtain ⟨rfl, hDl, hDH, -⟩ := hT.box0 hal
      rw [hu] at hDH
      have hDD : Has w' D 25 #[.slice none 0 0] := hDH
      clear hDH
      have k0 := hDD.cell 0
      have f0 := hDD.free 0
      clear hall
      refine wpOp_step rfl fun K' hK' => ?_
      have hK := Lib.hid hK'
      clear hK'
      rw [if_pos (by rfl)]
      try simp only [Act.put]
      go_simp
      refine hK.out _ _ ⟨v13, v14, v8, (.slice A0 N n0), v16, (.pointer (some ⟨D, 0, none⟩)), v4, A0, n0, A1, n1, lo, hi, D, E, by go_simp, ⟨bt_keep hd0, bt_keep hd1, bt_keep hd2, bt_keep hd3⟩, (hE.setCell (p := ⟨D, 0, none⟩) hDl _), fun _ hn => absurd hn (by rw [bt_keep hcall]; decide), fun hb => h5 (bt_old hb (by decide : (5 : Nat) ≠ 11)), fun hb => ⟨bt_keep (h6 (bt_old hb (by decide : (6 : Nat) ≠ 11))).1, (h6 (bt_old hb (by decide : (6 : Nat) ≠ 11))).2⟩, fun _ => ⟨bt_keep hcall, rfl⟩, fun hb => ⟨bt_keep (h78 (bt_old hb (by decide : (8 : Nat) ≠ 11))).1, (h78 (bt_old hb (by decide : (8 : Nat) ≠ 11))).2⟩, fun hb => h9 (bt_old hb (by decide : (5 : Nat) ≠ 11)), ?_⟩
      rw [bt_ne (d := ds) (j := 11) (i := 5) (by decide), bt_ne (d := ds) (j := 11) (i := 9) (by decide), bt_ne (d := ds) (j := 11) (i := 10) (by decide), bt_self (d := ds) (j := 11), bt_ne (d := ds) (j := 11) (i := 12) (by decide)]
      rw [hcall, hal] at hT ⊢; exact hT.store0 ((Kept.ownL _ _).and (Kept.ownL _ _)) (Only.set _ D 0 _) hDD.put1
    · obtain rfl := Option.some.inj hoj
      obtain ⟨hcall, rfl⟩ := h78 (hall ⟨8, .data⟩ (by simp) rfl)
      have hal := (hall ⟨10, .data⟩ (by simp) rfl)
      obtain ⟨rfl, hDl, hDH, -⟩ := hT.box1 hal
      rw [hu] at hDH
      have hDD : Has w' E 25 #[.slice none 0 0] := hDH
      clear hDH
      have k0 := hDD.cell 0
      have f0 := hDD.free 0
      clear hall
      refine wpOp_step rfl fun K' hK' => ?_
      have hK := Lib.hid hK'
      clear hK'
      rw [if_pos (by rfl)]
      try simp only [Act.put]
      go_simp
      refine hK.out _ _ ⟨v13, v14, v8, v15, (.slice A1 K n1), v3, (.pointer (some ⟨E, 0, none⟩)), A0, n0, A1, n1, lo, hi, D, E, by go_simp, ⟨bt_keep hd0, bt_keep hd1, bt_keep hd2, bt_keep hd3⟩, (hE.setCell (p := ⟨E, 0, none⟩) hDl _), fun _ hn => absurd hn (by rw [bt_keep hcall]; decide), fun hb => h5 (bt_old hb (by decide : (5 : Nat) ≠ 12)), fun hb => ⟨bt_keep (h6 (bt_old hb (by decide : (6 : Nat) ≠ 12))).1, (h6 (bt_old hb (by decide : (6 : Nat) ≠ 12))).2⟩, fun hb => ⟨bt_keep (h77 (bt_old hb (by decide : (7 : Nat) ≠ 12))).1, (h77 (bt_old hb (by decide : (7 : Nat) ≠ 12))).2⟩, fun _ => ⟨bt_keep hcall, rfl⟩, fun hb => h9 (bt_old hb (by decide : (5 : Nat) ≠ 12)), ?_⟩
      rw [bt_ne (d := ds) (j := 12) (i := 5) (by decide), bt_ne (d := ds) (j := 12) (i := 9) (by decide), bt_ne (d := ds) (j := 12) (i := 10) (by decide), bt_ne (d := ds) (j := 12) (i := 11) (by decide), bt_self (d := ds) (j := 12)]
      rw [hcall, hal] at hT ⊢; exact hT.store1 ((Kept.ownL _ _).and (Kept.ownL _ _)) (Only.set _ E 0 _) hDD.put1
  case hend =>
    rintro ds a w' ⟨v13, v14, v8, v15, v16, v3, v4, A0, n0, A1, n1, lo, hi, D, E, rfl, ⟨hd0, hd1, hd2, hd3⟩, hE, hc2, h5, h6, h77, h78, h9, hT⟩ hall
    have hcall := hall 5 (by decide)
    obtain ⟨rfl, hD1, hD, -⟩ := hT.box0 (hall 9 (by decide))
    obtain ⟨rfl, hE1, hH, -⟩ := hT.box1 (hall 10 (by decide))
    have hRR := (hT.res hcall).1
    have hlo := h9 hcall
    rw [hall 11 (by decide)] at hD
    rw [hall 12 (by decide)] at hH
    have HE8 := Lib.hid (HE0.out.trans hE)
    have HI8 := Lib.hid (HB0.out.ex hE)
    have HOS := Lib.hid hRR.1.ints
    have HLS := Lib.hid hRR.2.ints
    have HD8 := Lib.hid hD
    have HH8 := Lib.hid hH
    have g0 := hH.cell 0
    clear hall hT hRR hD hH hE hc2 h5 h6 h77 h78 h9 hcall hlo hd0 hd1 hd2 hd3
    try simp only [Act.put]
    go_simp
    go_wp2_with fail
    have hmf : ∀ (fn : Fn) (first cap : Array Value) (w : World), (Instr.makeFunc fn first cap).run Tryz.prog w = .ok (.func fn first cap) w := fun _ _ _ _ => rfl
    obtain ⟨i0, hi, hi0, hi1, hi2⟩ := info_parts infoCos
    clear g0
    go_loopw [5, 19] (fun v i wr => ∃ (k : Nat) (G : Nat → Nat), k ≤ K ∧ i = .int .i64 (k : Int) ∧ Hid (Ex w' wr) ∧ Hid (wr.ownsRow w'.heap.size 97 1 v k ((List.range k).map fun j => cosFn w.heap.size E D (G j))) ∧ Hid (∀ j, j < k → Has wr (G j) 2 #[.int .i64 (fstA S j : Int)])) (fun _ i _ => K - (intOf i).toNat)
    case atStart => exact ⟨0, fun _ => 0, Nat.zero_le _, rfl, Lib.hid (Ex.refl _), Lib.hid (World.ownsRow_nil _ _ _ _), Lib.hid (fun j hj => absurd hj (Nat.not_lt_zero j))⟩
    case round =>
      obtain ⟨k, G, hk, rfl, HE, HR, HG⟩ := hrel
      by_cases hlt : k < K
      · obtain ⟨hf1, hf2⟩ := HFS.out k hlt
        obtain ⟨b, o, rfl, hb, hcell⟩ := HLS.out.ints.at_ (j := k) (by rw [HLL.out]; exact hlt)
        rw [hf1] at hcell
        have hcl := (HE.out.below.cell (p := ⟨b, o + k, none⟩) hb).trans hcell
        obtain ⟨f, hf⟩ : ∃ f, fstA S k = f := ⟨_, rfl⟩
        rw [hf] at hcl
        have HF := Lib.hid hf
        have hcn := cell_one_new (wr.alloc (.cells #[.int .i64 (f : Int)] 2)) (.func (.func 93) #[] #[.pointer (some ⟨w.heap.size, 0, none⟩), .pointer (some ⟨wr.heap.size, 0, none⟩), .pointer (some ⟨E, 0, none⟩), .pointer (some ⟨D, 0, none⟩)]) 97
        rw [World.size_alloc] at hcn
        have HA1 := Lib.hid ((HR.out.alloc (.cells #[.int .i64 (f : Int)] 2)).alloc (.cells #[.func (.func 93) #[] #[.pointer (some ⟨w.heap.size, 0, none⟩), .pointer (some ⟨wr.heap.size, 0, none⟩), .pointer (some ⟨E, 0, none⟩), .pointer (some ⟨D, 0, none⟩)]] 97))
        clear hf1 hf2 hcell hf
        go_wp2_with (at_builtin; refine wpList_append_own _ rfl _ _ 92 rfl w'.heap.size 97 i0 .nilFunc 1 8 Tryz.underlying92 hi hi0 hi1 hi2 rfl (by decide) _ _ _ rfl HA1.out ⟨wr.heap.size + 1, 0, none⟩ 1 1 [.func (.func 93) #[] #[.pointer (some ⟨w.heap.size, 0, none⟩), .pointer (some ⟨wr.heap.size, 0, none⟩), .pointer (some ⟨E, 0, none⟩), .pointer (some ⟨D, 0, none⟩)]] rfl rfl hcn (by simp [Value.oneCell']) (by unfold maxLen; omega) (by omega) (by have := HE.out.size; simp; omega) ?_; intro v' w3 hown3 hgrow3 _)
        refine ⟨?rel, ?measure⟩
        case rel =>
          refine ⟨k + 1, fun j => if j = k then wr.heap.size else G j, by omega, by go_num, Lib.hid (Ex.grewR ((HE.out.alloc _).alloc _) HA1.out (Nat.le_refl _) hgrow3), Lib.hid ?_, Lib.hid (fun j hj => ?_)⟩
          · have hm : ((List.range k).map fun j => cosFn w.heap.size E D (if j = k then wr.heap.size else G j)) = (List.range k).map fun j => cosFn w.heap.size E D (G j) := List.map_congr_left fun j hj => by
              have := List.mem_range.1 hj
              rw [if_neg (by omega)]
            rw [List.range_succ, List.map_append, hm, List.map_cons, List.map_nil]
            show w3.ownsRow _ _ 1 v' (k + 1) (_ ++ [cosFn w.heap.size E D (if k = k then wr.heap.size else G k)])
            rw [if_pos rfl]
            exact hown3
          · show Has w3 (if j = k then wr.heap.size else G j) _ _
            by_cases hjk : j = k
            · subst hjk
              rw [if_pos rfl, HF.out]
              exact Has.grewR ((Has.new wr 2 #[.int .i64 (f : Int)]).alloc _) (by decide) HA1.out hgrow3
            · rw [if_neg hjk]
              exact Has.grewR (((HG.out j (by omega)).alloc _).alloc _) (by decide) HA1.out hgrow3
        case measure => simp [intOf]; omega
      · obtain rfl : k = K := by omega
        have hHD : Has w' D 25 #[.slice A0 N n0] := HD8.out
        have hHE : Has w' E 25 #[.slice A1 k n1] := HH8.out
        have HD9 := Lib.hid (hHD.ex HE.out)
        have HE9 := Lib.hid (hHE.ex HE.out)
        clear hHD hHE
        have HR2 := Lib.hid HR.out.2
        rcases HR2.out with ⟨rfl, h0⟩ | ⟨g, cap, cur, rfl, hg1, hg2, -, -, -, -⟩
        · go_wp2_with fail
          go_ret
          refine ⟨?_, HI8.out.ex HE.out⟩
          unfold CosR
          rw [HOSE.out, HLSE.out, HNN.out, HKK.out]
          exact ⟨E, D, A0, A1, none, n0, n1, 0, G, by rw [h0]; rfl, HE8.out.trans HE.out, HD9.out, HE9.out, HOS.out.ex HE.out, HLS.out.ex HE.out, HG.out, fun j hj => absurd hj (by omega)⟩
        · have HC := Lib.hid (fun j (hj : j < k) => HR.out.cells (g := g) rfl j (cosFn w.heap.size E D (G j)) (by simp [hj]))
          go_wp2_with fail
          go_ret
          refine ⟨?_, HI8.out.ex HE.out⟩
          unfold CosR
          rw [HOSE.out, HLSE.out, HNN.out, HKK.out]
          refine ⟨E, D, A0, A1, some ⟨g, 0, none⟩, n0, n1, cap, G, rfl, HE8.out.trans HE.out, HD9.out, HE9.out, HOS.out.ex HE.out, HLS.out.ex HE.out, HG.out, fun j hj => ⟨g, rfl, ?_, ?_⟩⟩
          · exact (Array.getElem?_eq_some_iff.1 hg2).1
          · have h9 := HC.out j hj
            rw [Addr.add_lit, Nat.zero_add] at h9
            exact h9

end Go.Proofs.YtcdijeeabgmgmaaGreatDoor
