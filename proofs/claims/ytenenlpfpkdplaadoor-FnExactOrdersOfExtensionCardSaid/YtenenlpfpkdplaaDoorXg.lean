/- Extensions: the codes of both sides; ExtensionTable, ExtensionGroup. -/
import Derived.Test.YtenenlpfpkdplaaDoorXi
import Derived.Test.YtenenlpfpkdplaaDoorXs
import Derived.Test.YtenenlpfpkdplaaDoorSh
namespace Go.Proofs.YtenenlpfpkdplaaDoor
open Go.RowKit

noncomputable def yE (L : Nat) (t : List (List Int)) (m : Int) (us : List Int) (n : Int) (fs : List Int) : List (List Int) := if extC L t m us n fs = 0 then extT t m.toNat us fs else []
theorem yE_small (L : Nat) (hL : L ≤ 96) (t : List (List Int)) (m : Int) (us : List Int) (n : Int) (fs : List Int) : SmallT (yE L t m us n fs) := by
  unfold yE
  split
  · rename_i h
    obtain ⟨M, rfl, rfl, hf⟩ := extC_zero h
    have := hf.most
    exact mkT_small (by rw [Int.toNat_natCast]; omega) (by rw [Int.toNat_natCast]; omega)
  · exact ⟨by simp, fun i hi => by simp at hi⟩
section
variable {L M k : Nat} {t : List (List Int)} {m n : Int} {us fs : List Int}
theorem ec_no (h : gmcB t m us n fs = false) : yE L t m us n fs = [] ∧ extC L t m us n fs = 1 := by
  have e : extC L t m us n fs = 1 := by rw [extC, if_neg (by simp [h])]
  exact ⟨by rw [yE, e, if_neg (by omega)], e⟩
theorem ec_deg (h : gmcB t m us n fs = true) (hn : ¬ n = 2) : yE L t m us n fs = [] ∧ extC L t m us n fs = 2 := by
  have e : extC L t m us n fs = 2 := by rw [extC, if_pos h, if_neg hn]
  exact ⟨by rw [yE, e, if_neg (by omega)], e⟩
theorem ec_lim (h : gmcB t (M : Int) us 2 fs = true) (hl : ¬ t.length * M ≤ L) : yE L t (M : Int) us 2 fs = [] ∧ extC L t (M : Int) us 2 fs = 3 := by
  have h2 : ¬ (t.length : Int) * (M : Int) ≤ (L : Int) := by
    rw [← Int.natCast_mul]
    omega
  have e : extC L t (M : Int) us 2 fs = 3 := by rw [extC, if_pos h, if_pos rfl, if_neg h2]
  exact ⟨by rw [yE, e, if_neg (by omega)], e⟩
theorem ec_st (h : gmcB t (M : Int) us 2 fs = true) (hl : t.length * M ≤ L) (hc : cyB t M 2 us fs = false) : yE L t (M : Int) us 2 fs = [] ∧ extC L t (M : Int) us 2 fs = 5 := by
  have h2 : (t.length : Int) * (M : Int) ≤ (L : Int) := by
    rw [← Int.natCast_mul]
    omega
  have e : extC L t (M : Int) us 2 fs = 5 := by rw [extC, if_pos h, if_pos rfl, if_pos h2, Int.toNat_natCast, if_neg (by simp [hc])]
  exact ⟨by rw [yE, e, if_neg (by omega)], e⟩
theorem ec_yes (h : gmcB t (M : Int) us 2 fs = true) (hl : t.length * M ≤ L) (hc : cyB t M 2 us fs = true) : yE L t (M : Int) us 2 fs = extT t M us fs ∧ extC L t (M : Int) us 2 fs = 0 := by
  have h2 : (t.length : Int) * (M : Int) ≤ (L : Int) := by
    rw [← Int.natCast_mul]
    omega
  have e : extC L t (M : Int) us 2 fs = 0 := by rw [extC, if_pos h, if_pos rfl, if_pos h2, Int.toNat_natCast, if_pos hc]
  exact ⟨by rw [yE, e, if_pos rfl, Int.toNat_natCast], e⟩
end

set_option maxRecDepth 100000 in
set_option maxHeartbeats 8000000 in
theorem extensionWithin_ex (L : Nat) (hL : L ≤ 96) (B0 B1 B2 : Option Addr) (t0 : List (List Int)) (m : Int) (us : List Int) (n : Int) (fs : List Int) (d0 d1 d2 : Nat) (w : World) (hR : RwsW w B0 t0) (hX : IntsW w B1 us) (hF : IntsW w B2 fs) (hs : SmallT t0) (hu : us.length ≤ 1048576) (hf : fs.length ≤ 1048576) :
    Calls Tryd.prog 63 #[.int .i64 (L : Int), .agg #[.slice B0 t0.length d0], .agg #[.int .i64 m, .slice B1 us.length d1], .agg #[.int .i64 n, .slice B2 fs.length d2]] w fun e w' => ∃ C k, e = .returned (.tuple #[.agg #[.slice C (yE L t0 m us n fs).length k], .int .i64 (extC L t0 m us n fs)]) ∧ Ex w w' ∧ OwnT w' w.heap.size w'.heap.size C (yE L t0 m us n fs) := by
  have e0 : Ex w ((((w.alloc (.cells #[.slice B0 t0.length d0] 35)).alloc (.cells #[.int .i64 m, .slice B1 us.length d1] 37)).alloc (.cells #[.int .i64 n, .slice B2 fs.length d2] 39)).alloc (.cells #[.slice none 0 0] 35)) := ((((Ex.refl w).alloc _).alloc _).alloc _).alloc _
  have b0 : Has ((((w.alloc (.cells #[.slice B0 t0.length d0] 35)).alloc (.cells #[.int .i64 m, .slice B1 us.length d1] 37)).alloc (.cells #[.int .i64 n, .slice B2 fs.length d2] 39)).alloc (.cells #[.slice none 0 0] 35)) (w.heap.size) 35 #[.slice B0 t0.length d0] := ((((Has.newAt (w := w) (e := 35) (cs := #[.slice B0 t0.length d0]) (k := w.heap.size) (by simp)).alloc _).alloc _).alloc _)
  have b1 : Has ((((w.alloc (.cells #[.slice B0 t0.length d0] 35)).alloc (.cells #[.int .i64 m, .slice B1 us.length d1] 37)).alloc (.cells #[.int .i64 n, .slice B2 fs.length d2] 39)).alloc (.cells #[.slice none 0 0] 35)) (w.heap.size + 1) 37 #[.int .i64 m, .slice B1 us.length d1] := (((Has.newAt (w := (w.alloc (.cells #[.slice B0 t0.length d0] 35))) (e := 37) (cs := #[.int .i64 m, .slice B1 us.length d1]) (k := w.heap.size + 1) (by simp)).alloc _).alloc _)
  have b2 : Has ((((w.alloc (.cells #[.slice B0 t0.length d0] 35)).alloc (.cells #[.int .i64 m, .slice B1 us.length d1] 37)).alloc (.cells #[.int .i64 n, .slice B2 fs.length d2] 39)).alloc (.cells #[.slice none 0 0] 35)) (w.heap.size + 1 + 1) 39 #[.int .i64 n, .slice B2 fs.length d2] := ((Has.newAt (w := ((w.alloc (.cells #[.slice B0 t0.length d0] 35)).alloc (.cells #[.int .i64 m, .slice B1 us.length d1] 37))) (e := 39) (cs := #[.int .i64 n, .slice B2 fs.length d2]) (k := w.heap.size + 1 + 1) (by simp)).alloc _)
  have b3 : Has ((((w.alloc (.cells #[.slice B0 t0.length d0] 35)).alloc (.cells #[.int .i64 m, .slice B1 us.length d1] 37)).alloc (.cells #[.int .i64 n, .slice B2 fs.length d2] 39)).alloc (.cells #[.slice none 0 0] 35)) (w.heap.size + 1 + 1 + 1) 35 #[.slice none 0 0] := (Has.newAt (w := (((w.alloc (.cells #[.slice B0 t0.length d0] 35)).alloc (.cells #[.int .i64 m, .slice B1 us.length d1] 37)).alloc (.cells #[.int .i64 n, .slice B2 fs.length d2] 39))) (e := 35) (cs := #[.slice none 0 0]) (k := w.heap.size + 1 + 1 + 1) (by simp))
  obtain ⟨W0, hW0⟩ : ∃ W0, ((((w.alloc (.cells #[.slice B0 t0.length d0] 35)).alloc (.cells #[.int .i64 m, .slice B1 us.length d1] 37)).alloc (.cells #[.int .i64 n, .slice B2 fs.length d2] 39)).alloc (.cells #[.slice none 0 0] 35)) = W0 := ⟨_, rfl⟩
  rw [hW0] at e0 b0 b1 b2 b3
  have HW0 := Lib.hid hW0
  have HC := Lib.hid (isCochain_any B0 B1 B2 t0 m us n fs d0 d1 d2 W0 (hR.ex e0) (hX.ex e0) (hF.ex e0) hs hu hf)
  rw [show (gmB t0 m us && cocB t0.length m n fs) = gmcB t0 m us n fs from rfl] at HC
  have HB0 := Lib.hid b0
  have HB1 := Lib.hid b1
  have HB2 := Lib.hid b2
  have HB3 := Lib.hid b3
  have HE0 := Lib.hid e0
  have c0 := b0.cell 0
  have c1 := b1.cell 0
  have c1' := b1.cell 1
  have c2 := b2.cell 0
  have c2' := b2.cell 1
  cases hg : gmcB t0 m us n fs with
  | false =>
    have HQ := Lib.hid (ec_no (L := L) hg)
    rw [hg] at HC
    clear hW0 hR hX hF hs hu hf hg e0 b0 b1 b2 b3
    go_enter Tryd.func63, Tryd.ntmps63
    go_wp2_with fail
    rw [HW0.out]
    refine HC.out.mono ?_
    rintro e W1 ⟨rfl, he1⟩
    have HBR := Lib.hid (HB3.out.ex he1)
    have cr := HBR.out.cell 0
    have fr := HBR.out.free 0
    have HE1 := Lib.hid (HE0.out.trans he1)
    clear he1 c0 c1 c1' c2 c2'
    go_wp2_with fail
    have H4 := HBR.out.put1 (v := .slice none 0 0)
    have c4 := H4.cell 0
    refine bodyPost_ret (v := .tuple #[.agg #[.slice none 0 0], .int .i64 1]) (by simp [results, Tryd.results63, go_sem, c4]) rfl ⟨none, 0, by rw [HQ.out.1, HQ.out.2]; rfl, HE1.out.setCell (by show w.heap.size ≤ w.heap.size + 1 + 1 + 1; omega) _, by rw [HQ.out.1]; exact OwnT.nil _ _ _ (Nat.le_refl _)⟩
  | true =>
    rw [hg] at HC
    by_cases hn : n = 2
    · subst hn
      obtain ⟨M, k, rfl, hk2, hm, hk3, hfl, _, hfr⟩ := gmc_facts hg
      obtain rfl : k = 2 := by omega
      clear hk2 hk3
      have hN1 := hm.g.n1
      have hN8 := hm.g.n8
      have hM12 := hm.m12
      have hK96 : t0.length * M ≤ 96 := Nat.le_trans (Nat.mul_le_mul hN8 hM12) (by omega)
      have HSK := Lib.hid (fun (W' : World) (hb : Ex W0 W') => And.intro ((b0.ex hb).cell 0) ((b1.ex hb).cell 0))
      by_cases hl : t0.length * M ≤ L
      · have HCY := Lib.hid (fun W (he : Ex W0 W) => isCocycle_any B0 B1 B2 t0 M 2 us fs d0 d1 d2 W (hR.ex (e0.trans he)) (hX.ex (e0.trans he)) (hF.ex (e0.trans he)) hm (by omega) hfl hfr)
        cases hc : cyB t0 M 2 us fs with
        | false =>
          have HQ := Lib.hid (ec_st (L := L) hg hl hc)
          rw [hc] at HCY
          obtain ⟨K, hK⟩ : ∃ K, t0.length * M = K := ⟨_, rfl⟩
          have hKi : (t0.length : Int) * (M : Int) = (K : Int) := by rw [← hK]; simp
          rw [hK] at hl hK96
          have hwK : IntKind.i64.wrap (K : Int) = (K : Int) := IntWalk.i64_in _ (by omega)
          clear hW0 hR hX hF hs hu hf hg e0 b0 b1 b2 b3 hm hfl hfr hc hK
          go_enter Tryd.func63, Tryd.ntmps63
          go_wp2_with fail
          rw [HW0.out]
          refine HC.out.mono ?_
          rintro e W1 ⟨rfl, he1⟩
          have HE1 := Lib.hid he1
          have k2 := (HB2.out.ex he1).cell 0
          clear he1 c0 c1 c1' c2 c2'
          go_wp2_with fail
          refine wp_region_quiet (C := fun w' => Ex W0 w') (by kernel_rfl) (by kernel_rfl) HE1.out.drew ?_
          refine BigFrame.wpQuiet_want (by rfl) fun K hK => ⟨?_, fun w' hC => ?_, hK _ ?_⟩
          rotate_left
          · (obtain ⟨q0, q1⟩ := HSK.out _ hC; go_simp; first | done | with_reducible rfl | exact ⟨rfl, hC⟩)
          clear hK K
          simp only [Act.put, List.setIfInBounds_toArray, List.set_cons_zero, List.set_cons_succ]
          refine BigFrame.wpQuiet_want (by rfl) fun K hK => ⟨.int .i64 (t0.length : Int), fun w' hC => (by go_simp; refine ((groupOrder_ex B0 t0.length d0 w' (by omega))).mono ?_; rintro e w2 ⟨rfl, hb⟩; exact ⟨rfl, hC.trans hb⟩), hK _ ?_⟩
          clear hK K
          simp only [Act.put, List.setIfInBounds_toArray, List.set_cons_zero, List.set_cons_succ]
          refine BigFrame.wpQuiet_want (by rfl) fun K hK => ⟨?_, fun w' hC => ?_, hK _ ?_⟩
          rotate_left
          · (obtain ⟨q0, q1⟩ := HSK.out _ hC; go_simp; first | done | with_reducible rfl | exact ⟨rfl, hC⟩)
          clear hK K
          simp only [Act.put, List.setIfInBounds_toArray, List.set_cons_zero, List.set_cons_succ]
          refine BigFrame.wpQuiet_want (by rfl) fun K hK => ⟨?_, fun w' hC => ?_, hK _ ?_⟩
          rotate_left
          · (obtain ⟨q0, q1⟩ := HSK.out _ hC; go_simp; first | done | with_reducible rfl | exact ⟨rfl, hC⟩)
          clear hK K
          simp only [Act.put, List.setIfInBounds_toArray, List.set_cons_zero, List.set_cons_succ]
          refine BigFrame.wpQuiet_want (by rfl) fun K hK => ⟨?_, fun w' hC => ?_, hK _ ?_⟩
          rotate_left
          · (obtain ⟨q0, q1⟩ := HSK.out _ hC; go_simp; first | done | with_reducible rfl | exact ⟨rfl, hC⟩)
          clear hK K
          simp only [Act.put, List.setIfInBounds_toArray, List.set_cons_zero, List.set_cons_succ]
          refine BigFrame.wpQuiet_want (by rfl) fun K hK => ⟨?_, fun w' hC => ?_, hK _ ?_⟩
          rotate_left
          · (obtain ⟨q0, q1⟩ := HSK.out _ hC; go_simp; first | done | with_reducible rfl | exact ⟨rfl, hC⟩)
          clear hK K
          simp only [Act.put, List.setIfInBounds_toArray, List.set_cons_zero, List.set_cons_succ]
          refine BigFrame.wpQuiet_want (by rfl) fun K hK => ⟨?_, fun w' hC => ?_, hK _ ?_⟩
          rotate_left
          · (obtain ⟨q0, q1⟩ := HSK.out _ hC; go_simp; first | done | with_reducible rfl | exact ⟨rfl, hC⟩)
          clear hK K
          simp only [Act.put, List.setIfInBounds_toArray, List.set_cons_zero, List.set_cons_succ]
          refine wpQuiet_nil ?_
          intro w2 hC2
          have HE2 := Lib.hid hC2
          have e0' := (HB0.out.ex hC2).cell 0
          have e1' := (HB1.out.ex hC2).cell 0
          have e1'' := (HB1.out.ex hC2).cell 1
          have e2' := (HB2.out.ex hC2).cell 0
          have e2'' := (HB2.out.ex hC2).cell 1
          clear hC2 k2
          go_wp2_with fail
          refine (HCY.out w2 HE2.out).mono ?_
          rintro e W3 ⟨rfl, he3⟩
          have HBR := Lib.hid (HB3.out.ex (HE2.out.trans he3))
          have cr := HBR.out.cell 0
          have fr := HBR.out.free 0
          have HE9 := Lib.hid (HE0.out.trans (HE2.out.trans he3))
          clear he3 e0' e1' e1'' e2' e2''
          go_wp2_with fail
          have H4 := HBR.out.put1 (v := .slice none 0 0)
          have c4 := H4.cell 0
          refine bodyPost_ret (v := .tuple #[.agg #[.slice none 0 0], .int .i64 5]) (by simp [results, Tryd.results63, go_sem, c4]) rfl ⟨none, 0, by rw [HQ.out.1, HQ.out.2]; rfl, HE9.out.setCell (by show w.heap.size ≤ w.heap.size + 1 + 1 + 1; omega) _, by rw [HQ.out.1]; exact OwnT.nil _ _ _ (Nat.le_refl _)⟩
        | true =>
          have HQ := Lib.hid (ec_yes (L := L) hg hl hc)
          have hEF : ExtF L t0 M us fs := ⟨hm, hfl, hfr, hl⟩
          have HXO := Lib.hid (fun W (he : Ex W0 W) => extensionOf_has L B0 B1 B2 t0 M us fs d0 d1 d2 W (hR.ex (e0.trans he)) (hX.ex (e0.trans he)) (hF.ex (e0.trans he)) hEF hL)
          rw [hc] at HCY
          obtain ⟨K, hK⟩ : ∃ K, t0.length * M = K := ⟨_, rfl⟩
          have hKi : (t0.length : Int) * (M : Int) = (K : Int) := by rw [← hK]; simp
          rw [hK] at hl hK96
          have hwK : IntKind.i64.wrap (K : Int) = (K : Int) := IntWalk.i64_in _ (by omega)
          clear hW0 hR hX hF hs hu hf hg e0 b0 b1 b2 b3 hm hfl hfr hc hK hEF
          go_enter Tryd.func63, Tryd.ntmps63
          go_wp2_with fail
          rw [HW0.out]
          refine HC.out.mono ?_
          rintro e W1 ⟨rfl, he1⟩
          have HE1 := Lib.hid he1
          have k2 := (HB2.out.ex he1).cell 0
          clear he1 c0 c1 c1' c2 c2'
          go_wp2_with fail
          refine wp_region_quiet (C := fun w' => Ex W0 w') (by kernel_rfl) (by kernel_rfl) HE1.out.drew ?_
          refine BigFrame.wpQuiet_want (by rfl) fun K hK => ⟨?_, fun w' hC => ?_, hK _ ?_⟩
          rotate_left
          · (obtain ⟨q0, q1⟩ := HSK.out _ hC; go_simp; first | done | with_reducible rfl | exact ⟨rfl, hC⟩)
          clear hK K
          simp only [Act.put, List.setIfInBounds_toArray, List.set_cons_zero, List.set_cons_succ]
          refine BigFrame.wpQuiet_want (by rfl) fun K hK => ⟨.int .i64 (t0.length : Int), fun w' hC => (by go_simp; refine ((groupOrder_ex B0 t0.length d0 w' (by omega))).mono ?_; rintro e w2 ⟨rfl, hb⟩; exact ⟨rfl, hC.trans hb⟩), hK _ ?_⟩
          clear hK K
          simp only [Act.put, List.setIfInBounds_toArray, List.set_cons_zero, List.set_cons_succ]
          refine BigFrame.wpQuiet_want (by rfl) fun K hK => ⟨?_, fun w' hC => ?_, hK _ ?_⟩
          rotate_left
          · (obtain ⟨q0, q1⟩ := HSK.out _ hC; go_simp; first | done | with_reducible rfl | exact ⟨rfl, hC⟩)
          clear hK K
          simp only [Act.put, List.setIfInBounds_toArray, List.set_cons_zero, List.set_cons_succ]
          refine BigFrame.wpQuiet_want (by rfl) fun K hK => ⟨?_, fun w' hC => ?_, hK _ ?_⟩
          rotate_left
          · (obtain ⟨q0, q1⟩ := HSK.out _ hC; go_simp; first | done | with_reducible rfl | exact ⟨rfl, hC⟩)
          clear hK K
          simp only [Act.put, List.setIfInBounds_toArray, List.set_cons_zero, List.set_cons_succ]
          refine BigFrame.wpQuiet_want (by rfl) fun K hK => ⟨?_, fun w' hC => ?_, hK _ ?_⟩
          rotate_left
          · (obtain ⟨q0, q1⟩ := HSK.out _ hC; go_simp; first | done | with_reducible rfl | exact ⟨rfl, hC⟩)
          clear hK K
          simp only [Act.put, List.setIfInBounds_toArray, List.set_cons_zero, List.set_cons_succ]
          refine BigFrame.wpQuiet_want (by rfl) fun K hK => ⟨?_, fun w' hC => ?_, hK _ ?_⟩
          rotate_left
          · (obtain ⟨q0, q1⟩ := HSK.out _ hC; go_simp; first | done | with_reducible rfl | exact ⟨rfl, hC⟩)
          clear hK K
          simp only [Act.put, List.setIfInBounds_toArray, List.set_cons_zero, List.set_cons_succ]
          refine BigFrame.wpQuiet_want (by rfl) fun K hK => ⟨?_, fun w' hC => ?_, hK _ ?_⟩
          rotate_left
          · (obtain ⟨q0, q1⟩ := HSK.out _ hC; go_simp; first | done | with_reducible rfl | exact ⟨rfl, hC⟩)
          clear hK K
          simp only [Act.put, List.setIfInBounds_toArray, List.set_cons_zero, List.set_cons_succ]
          refine wpQuiet_nil ?_
          intro w2 hC2
          have HE2 := Lib.hid hC2
          have e0' := (HB0.out.ex hC2).cell 0
          have e1' := (HB1.out.ex hC2).cell 0
          have e1'' := (HB1.out.ex hC2).cell 1
          have e2' := (HB2.out.ex hC2).cell 0
          have e2'' := (HB2.out.ex hC2).cell 1
          clear hC2 k2
          go_wp2_with fail
          refine (HCY.out w2 HE2.out).mono ?_
          rintro e W3 ⟨rfl, he3⟩
          have HE3 := Lib.hid (HE2.out.trans he3)
          have f0' := (HB0.out.ex HE3.out).cell 0
          have f1' := (HB1.out.ex HE3.out).cell 0
          have f1'' := (HB1.out.ex HE3.out).cell 1
          have f2' := (HB2.out.ex HE3.out).cell 0
          have f2'' := (HB2.out.ex HE3.out).cell 1
          clear he3 e0' e1' e1'' e2' e2''
          go_wp2_with fail
          refine (HXO.out W3 HE3.out).mono ?_
          rintro e W4 ⟨C, nn, rfl, he4, ho⟩
          have HBR := Lib.hid (HB3.out.ex (HE3.out.trans he4))
          have cr := HBR.out.cell 0
          have fr := HBR.out.free 0
          have HE9 := Lib.hid (HE0.out.trans (HE3.out.trans he4))
          have HO := Lib.hid ho
          have hlw := (HE0.out.trans HE3.out).size
          have hb3 := (HB3.out.ex HE3.out).lt
          clear he4 ho f0' f1' f1'' f2' f2''
          go_wp2_with fail
          have H4 := HBR.out.put1 (v := .slice C (extT t0 M us fs).length nn)
          have c4 := H4.cell 0
          have hon := Only.set W4 (w.heap.size + 1 + 1 + 1) 0 (.slice C (extT t0 M us fs).length nn)
          refine bodyPost_ret (v := .tuple #[.agg #[.slice C (extT t0 M us fs).length nn], .int .i64 0]) (by simp [results, Tryd.results63, go_sem, c4]) rfl ⟨C, nn, by rw [HQ.out.1, HQ.out.2], HE9.out.setCell (by show w.heap.size ≤ w.heap.size + 1 + 1 + 1; omega) _, ?_⟩
          rw [HQ.out.1]
          exact (HO.out.above hon (by omega)).mono (by omega) hon.size (Nat.le_refl _)
      · have HQ := Lib.hid (ec_lim (L := L) hg hl)
        obtain ⟨K, hK⟩ : ∃ K, t0.length * M = K := ⟨_, rfl⟩
        have hKi : (t0.length : Int) * (M : Int) = (K : Int) := by rw [← hK]; simp
        rw [hK] at hl hK96
        have hwK : IntKind.i64.wrap (K : Int) = (K : Int) := IntWalk.i64_in _ (by omega)
        clear hW0 hR hX hF hs hu hf hg e0 b0 b1 b2 b3 hm hfl hfr hK
        go_enter Tryd.func63, Tryd.ntmps63
        go_wp2_with fail
        rw [HW0.out]
        refine HC.out.mono ?_
        rintro e W1 ⟨rfl, he1⟩
        have HE1 := Lib.hid he1
        have k2 := (HB2.out.ex he1).cell 0
        clear he1 c0 c1 c1' c2 c2'
        go_wp2_with fail
        refine wp_region_quiet (C := fun w' => Ex W0 w') (by kernel_rfl) (by kernel_rfl) HE1.out.drew ?_
        refine BigFrame.wpQuiet_want (by rfl) fun K hK => ⟨?_, fun w' hC => ?_, hK _ ?_⟩
        rotate_left
        · (obtain ⟨q0, q1⟩ := HSK.out _ hC; go_simp; first | done | with_reducible rfl | exact ⟨rfl, hC⟩)
        clear hK K
        simp only [Act.put, List.setIfInBounds_toArray, List.set_cons_zero, List.set_cons_succ]
        refine BigFrame.wpQuiet_want (by rfl) fun K hK => ⟨.int .i64 (t0.length : Int), fun w' hC => (by go_simp; refine ((groupOrder_ex B0 t0.length d0 w' (by omega))).mono ?_; rintro e w2 ⟨rfl, hb⟩; exact ⟨rfl, hC.trans hb⟩), hK _ ?_⟩
        clear hK K
        simp only [Act.put, List.setIfInBounds_toArray, List.set_cons_zero, List.set_cons_succ]
        refine BigFrame.wpQuiet_want (by rfl) fun K hK => ⟨?_, fun w' hC => ?_, hK _ ?_⟩
        rotate_left
        · (obtain ⟨q0, q1⟩ := HSK.out _ hC; go_simp; first | done | with_reducible rfl | exact ⟨rfl, hC⟩)
        clear hK K
        simp only [Act.put, List.setIfInBounds_toArray, List.set_cons_zero, List.set_cons_succ]
        refine BigFrame.wpQuiet_want (by rfl) fun K hK => ⟨?_, fun w' hC => ?_, hK _ ?_⟩
        rotate_left
        · (obtain ⟨q0, q1⟩ := HSK.out _ hC; go_simp; first | done | with_reducible rfl | exact ⟨rfl, hC⟩)
        clear hK K
        simp only [Act.put, List.setIfInBounds_toArray, List.set_cons_zero, List.set_cons_succ]
        refine BigFrame.wpQuiet_want (by rfl) fun K hK => ⟨?_, fun w' hC => ?_, hK _ ?_⟩
        rotate_left
        · (obtain ⟨q0, q1⟩ := HSK.out _ hC; go_simp; first | done | with_reducible rfl | exact ⟨rfl, hC⟩)
        clear hK K
        simp only [Act.put, List.setIfInBounds_toArray, List.set_cons_zero, List.set_cons_succ]
        refine BigFrame.wpQuiet_want (by rfl) fun K hK => ⟨?_, fun w' hC => ?_, hK _ ?_⟩
        rotate_left
        · (obtain ⟨q0, q1⟩ := HSK.out _ hC; go_simp; first | done | with_reducible rfl | exact ⟨rfl, hC⟩)
        clear hK K
        simp only [Act.put, List.setIfInBounds_toArray, List.set_cons_zero, List.set_cons_succ]
        refine BigFrame.wpQuiet_want (by rfl) fun K hK => ⟨?_, fun w' hC => ?_, hK _ ?_⟩
        rotate_left
        · (obtain ⟨q0, q1⟩ := HSK.out _ hC; go_simp; first | done | with_reducible rfl | exact ⟨rfl, hC⟩)
        clear hK K
        simp only [Act.put, List.setIfInBounds_toArray, List.set_cons_zero, List.set_cons_succ]
        refine wpQuiet_nil ?_
        intro w2 hC2
        have HBR := Lib.hid (HB3.out.ex hC2)
        have cr := HBR.out.cell 0
        have fr := HBR.out.free 0
        have HE9 := Lib.hid (HE0.out.trans hC2)
        clear hC2 k2
        go_wp2_with fail
        have H4 := HBR.out.put1 (v := .slice none 0 0)
        have c4 := H4.cell 0
        refine bodyPost_ret (v := .tuple #[.agg #[.slice none 0 0], .int .i64 3]) (by simp [results, Tryd.results63, go_sem, c4]) rfl ⟨none, 0, by rw [HQ.out.1, HQ.out.2]; rfl, HE9.out.setCell (by show w.heap.size ≤ w.heap.size + 1 + 1 + 1; omega) _, by rw [HQ.out.1]; exact OwnT.nil _ _ _ (Nat.le_refl _)⟩
    · have hkb : (n != 2) = true := by simpa using hn
      have HQ := Lib.hid (ec_deg (L := L) hg hn)
      clear hW0 hR hX hF hs hu hf hg e0 b0 b1 b2 b3 hn
      go_enter Tryd.func63, Tryd.ntmps63
      go_wp2_with fail
      rw [HW0.out]
      refine HC.out.mono ?_
      rintro e W1 ⟨rfl, he1⟩
      have k2 := (HB2.out.ex he1).cell 0
      have HBR := Lib.hid (HB3.out.ex he1)
      have cr := HBR.out.cell 0
      have fr := HBR.out.free 0
      have HE1 := Lib.hid (HE0.out.trans he1)
      clear he1 c0 c1 c1' c2 c2'
      go_wp2_with fail
      have H4 := HBR.out.put1 (v := .slice none 0 0)
      have c4 := H4.cell 0
      refine bodyPost_ret (v := .tuple #[.agg #[.slice none 0 0], .int .i64 2]) (by simp [results, Tryd.results63, go_sem, c4]) rfl ⟨none, 0, by rw [HQ.out.1, HQ.out.2]; rfl, HE1.out.setCell (by show w.heap.size ≤ w.heap.size + 1 + 1 + 1; omega) _, by rw [HQ.out.1]; exact OwnT.nil _ _ _ (Nat.le_refl _)⟩

set_option maxRecDepth 100000 in
set_option maxHeartbeats 8000000 in
theorem l06Given_ex (L : Nat) (B0 B1 B2 : Option Addr) (t0 : List (List Int)) (m : Int) (us : List Int) (n : Int) (fs : List Int) (d0 d1 d2 : Nat) (w : World) (hR : RwsW w B0 t0) (hX : IntsW w B1 us) (hF : IntsW w B2 fs) (hs : SmallT t0) (hu : us.length ≤ 1048576) (hf : fs.length ≤ 1048576) :
    Calls Tryd.prog 60 #[.agg #[.slice B0 t0.length d0], .agg #[.int .i64 m, .slice B1 us.length d1], .agg #[.int .i64 n, .slice B2 fs.length d2], .int .i64 (L : Int)] w fun e w' => e = .returned (.int .i64 (extC L t0 m us n fs)) ∧ Ex w w' := by
  have e0 : Ex w ((((w.alloc (.cells #[.slice B0 t0.length d0] 35)).alloc (.cells #[.int .i64 m, .slice B1 us.length d1] 37)).alloc (.cells #[.int .i64 n, .slice B2 fs.length d2] 39)).alloc (.cells #[.int .i64 n, .slice B2 fs.length d2] 39)) := ((((Ex.refl w).alloc _).alloc _).alloc _).alloc _
  have b0 : Has ((((w.alloc (.cells #[.slice B0 t0.length d0] 35)).alloc (.cells #[.int .i64 m, .slice B1 us.length d1] 37)).alloc (.cells #[.int .i64 n, .slice B2 fs.length d2] 39)).alloc (.cells #[.int .i64 n, .slice B2 fs.length d2] 39)) (w.heap.size) 35 #[.slice B0 t0.length d0] := ((((Has.newAt (w := w) (e := 35) (cs := #[.slice B0 t0.length d0]) (k := w.heap.size) (by simp)).alloc _).alloc _).alloc _)
  have b1 : Has ((((w.alloc (.cells #[.slice B0 t0.length d0] 35)).alloc (.cells #[.int .i64 m, .slice B1 us.length d1] 37)).alloc (.cells #[.int .i64 n, .slice B2 fs.length d2] 39)).alloc (.cells #[.int .i64 n, .slice B2 fs.length d2] 39)) (w.heap.size + 1) 37 #[.int .i64 m, .slice B1 us.length d1] := (((Has.newAt (w := (w.alloc (.cells #[.slice B0 t0.length d0] 35))) (e := 37) (cs := #[.int .i64 m, .slice B1 us.length d1]) (k := w.heap.size + 1) (by simp)).alloc _).alloc _)
  have b2 : Has ((((w.alloc (.cells #[.slice B0 t0.length d0] 35)).alloc (.cells #[.int .i64 m, .slice B1 us.length d1] 37)).alloc (.cells #[.int .i64 n, .slice B2 fs.length d2] 39)).alloc (.cells #[.int .i64 n, .slice B2 fs.length d2] 39)) (w.heap.size + 1 + 1) 39 #[.int .i64 n, .slice B2 fs.length d2] := ((Has.newAt (w := ((w.alloc (.cells #[.slice B0 t0.length d0] 35)).alloc (.cells #[.int .i64 m, .slice B1 us.length d1] 37))) (e := 39) (cs := #[.int .i64 n, .slice B2 fs.length d2]) (k := w.heap.size + 1 + 1) (by simp)).alloc _)
  have b3 : Has ((((w.alloc (.cells #[.slice B0 t0.length d0] 35)).alloc (.cells #[.int .i64 m, .slice B1 us.length d1] 37)).alloc (.cells #[.int .i64 n, .slice B2 fs.length d2] 39)).alloc (.cells #[.int .i64 n, .slice B2 fs.length d2] 39)) (w.heap.size + 1 + 1 + 1) 39 #[.int .i64 n, .slice B2 fs.length d2] := (Has.newAt (w := (((w.alloc (.cells #[.slice B0 t0.length d0] 35)).alloc (.cells #[.int .i64 m, .slice B1 us.length d1] 37)).alloc (.cells #[.int .i64 n, .slice B2 fs.length d2] 39))) (e := 39) (cs := #[.int .i64 n, .slice B2 fs.length d2]) (k := w.heap.size + 1 + 1 + 1) (by simp))
  obtain ⟨W0, hW0⟩ : ∃ W0, ((((w.alloc (.cells #[.slice B0 t0.length d0] 35)).alloc (.cells #[.int .i64 m, .slice B1 us.length d1] 37)).alloc (.cells #[.int .i64 n, .slice B2 fs.length d2] 39)).alloc (.cells #[.int .i64 n, .slice B2 fs.length d2] 39)) = W0 := ⟨_, rfl⟩
  rw [hW0] at e0 b0 b1 b2 b3
  have HW0 := Lib.hid hW0
  have HC := Lib.hid (l03Code1_ex B0 B1 B2 t0 m us n fs d0 d1 d2 _ W0 (hR.ex e0) (hX.ex e0) (hF.ex e0) hs hu hf b3)
  have HB0 := Lib.hid b0
  have HB1 := Lib.hid b1
  have HB2 := Lib.hid b2
  have HE0 := Lib.hid e0
  cases hg : gmcB t0 m us n fs with
  | false =>
    have HQ := Lib.hid (ec_no (L := L) hg)
    rw [hg] at HC
    clear hW0 hR hX hF hs hu hf hg e0 b0 b1 b2 b3
    go_enter Tryd.func60, Tryd.ntmps60
    go_wp2_with fail
    rw [HW0.out]
    refine HC.out.mono ?_
    rintro e W1 ⟨rfl, he1⟩
    rw [if_neg (by decide)]
    go_wp2_with fail
    go_ret
    exact ⟨by rw [HQ.out.2]; rfl, HE0.out.trans he1⟩
  | true =>
    rw [hg, if_pos rfl] at HC
    by_cases hn : n = 2
    · subst hn
      obtain ⟨M, k, rfl, hk2, hm, hk3, hfl, _, hfr⟩ := gmc_facts hg
      obtain rfl : k = 2 := by omega
      clear hk2 hk3
      have hN1 := hm.g.n1
      have hN8 := hm.g.n8
      have hM12 := hm.m12
      have hK96 : t0.length * M ≤ 96 := Nat.le_trans (Nat.mul_le_mul hN8 hM12) (by omega)
      have HSK := Lib.hid (fun (W' : World) (hb : Ex W0 W') => And.intro ((b0.ex hb).cell 0) ((b1.ex hb).cell 0))
      by_cases hl : t0.length * M ≤ L
      · have HCY := Lib.hid (fun W (he : Ex W0 W) => l03Cocycle_any B0 B1 B2 t0 M 2 us fs d0 d1 d2 W (hR.ex (e0.trans he)) (hX.ex (e0.trans he)) (hF.ex (e0.trans he)) hm (by omega) hfl hfr)
        have HQ1 := Lib.hid (fun hc => (ec_st (L := L) hg hl hc).2)
        have HQ2 := Lib.hid (fun hc => (ec_yes (L := L) hg hl hc).2)
        obtain ⟨bv, hbv⟩ : ∃ bv, cyB t0 M 2 us fs = bv := ⟨_, rfl⟩
        rw [hbv] at HCY HQ1 HQ2
        obtain ⟨K, hK⟩ : ∃ K, t0.length * M = K := ⟨_, rfl⟩
        have hKi : (t0.length : Int) * (M : Int) = (K : Int) := by rw [← hK]; simp
        rw [hK] at hl hK96
        have hwK : IntKind.i64.wrap (K : Int) = (K : Int) := IntWalk.i64_in _ (by omega)
        clear hW0 hR hX hF hs hu hf hg e0 b0 b1 b2 b3 hm hfl hfr hbv hK
        go_enter Tryd.func60, Tryd.ntmps60
        go_wp2_with fail
        rw [HW0.out]
        refine HC.out.mono ?_
        rintro e W1 ⟨rfl, he1⟩
        have HE1 := Lib.hid he1
        have k2 := (HB2.out.ex he1).cell 0
        clear he1
        go_wp2_with fail
        refine wp_region_quiet (C := fun w' => Ex W0 w') (by kernel_rfl) (by kernel_rfl) HE1.out.drew ?_
        refine BigFrame.wpQuiet_want (by rfl) fun K hK => ⟨?_, fun w' hC => ?_, hK _ ?_⟩
        rotate_left
        · (obtain ⟨q0, q1⟩ := HSK.out _ hC; go_simp; first | done | with_reducible rfl | exact ⟨rfl, hC⟩)
        clear hK K
        simp only [Act.put, List.setIfInBounds_toArray, List.set_cons_zero, List.set_cons_succ]
        refine BigFrame.wpQuiet_want (by rfl) fun K hK => ⟨.int .i64 (t0.length : Int), fun w' hC => (by go_simp; refine ((l01N_ex B0 t0.length d0 w' (by omega))).mono ?_; rintro e w2 ⟨rfl, hb⟩; exact ⟨rfl, hC.trans hb⟩), hK _ ?_⟩
        clear hK K
        simp only [Act.put, List.setIfInBounds_toArray, List.set_cons_zero, List.set_cons_succ]
        refine BigFrame.wpQuiet_want (by rfl) fun K hK => ⟨?_, fun w' hC => ?_, hK _ ?_⟩
        rotate_left
        · (obtain ⟨q0, q1⟩ := HSK.out _ hC; go_simp; first | done | with_reducible rfl | exact ⟨rfl, hC⟩)
        clear hK K
        simp only [Act.put, List.setIfInBounds_toArray, List.set_cons_zero, List.set_cons_succ]
        refine BigFrame.wpQuiet_want (by rfl) fun K hK => ⟨?_, fun w' hC => ?_, hK _ ?_⟩
        rotate_left
        · (obtain ⟨q0, q1⟩ := HSK.out _ hC; go_simp; first | done | with_reducible rfl | exact ⟨rfl, hC⟩)
        clear hK K
        simp only [Act.put, List.setIfInBounds_toArray, List.set_cons_zero, List.set_cons_succ]
        refine BigFrame.wpQuiet_want (by rfl) fun K hK => ⟨?_, fun w' hC => ?_, hK _ ?_⟩
        rotate_left
        · (obtain ⟨q0, q1⟩ := HSK.out _ hC; go_simp; first | done | with_reducible rfl | exact ⟨rfl, hC⟩)
        clear hK K
        simp only [Act.put, List.setIfInBounds_toArray, List.set_cons_zero, List.set_cons_succ]
        refine BigFrame.wpQuiet_want (by rfl) fun K hK => ⟨?_, fun w' hC => ?_, hK _ ?_⟩
        rotate_left
        · (obtain ⟨q0, q1⟩ := HSK.out _ hC; go_simp; first | done | with_reducible rfl | exact ⟨rfl, hC⟩)
        clear hK K
        simp only [Act.put, List.setIfInBounds_toArray, List.set_cons_zero, List.set_cons_succ]
        refine BigFrame.wpQuiet_want (by rfl) fun K hK => ⟨?_, fun w' hC => ?_, hK _ ?_⟩
        rotate_left
        · (obtain ⟨q0, q1⟩ := HSK.out _ hC; go_simp; first | done | with_reducible rfl | exact ⟨rfl, hC⟩)
        clear hK K
        simp only [Act.put, List.setIfInBounds_toArray, List.set_cons_zero, List.set_cons_succ]
        refine BigFrame.wpQuiet_want (by rfl) fun K hK => ⟨?_, fun w' hC => ?_, hK _ ?_⟩
        rotate_left
        · (obtain ⟨q0, q1⟩ := HSK.out _ hC; go_simp; first | done | with_reducible rfl | exact ⟨rfl, hC⟩)
        clear hK K
        simp only [Act.put, List.setIfInBounds_toArray, List.set_cons_zero, List.set_cons_succ]
        refine wpQuiet_nil ?_
        intro w2 hC2
        have HE2 := Lib.hid hC2
        have e0' := (HB0.out.ex hC2).cell 0
        have e1' := (HB1.out.ex hC2).cell 0
        have e1'' := (HB1.out.ex hC2).cell 1
        have e2' := (HB2.out.ex hC2).cell 0
        have e2'' := (HB2.out.ex hC2).cell 1
        clear hC2 k2
        go_wp2_with fail
        refine (HCY.out w2 HE2.out).mono ?_
        rintro e W3 ⟨rfl, he3⟩
        have HE9 := Lib.hid (HE0.out.trans (HE2.out.trans he3))
        clear he3 e0' e1' e1'' e2' e2''
        cases bv with
        | false =>
          go_wp2_with fail
          go_ret
          exact ⟨by rw [HQ1.out (by trivial)]; rfl, HE9.out⟩
        | true =>
          go_wp2_with fail
          go_ret
          exact ⟨by rw [HQ2.out (by trivial)]; rfl, HE9.out⟩
      · have HQ := Lib.hid (ec_lim (L := L) hg hl)
        obtain ⟨K, hK⟩ : ∃ K, t0.length * M = K := ⟨_, rfl⟩
        have hKi : (t0.length : Int) * (M : Int) = (K : Int) := by rw [← hK]; simp
        rw [hK] at hl hK96
        have hwK : IntKind.i64.wrap (K : Int) = (K : Int) := IntWalk.i64_in _ (by omega)
        clear hW0 hR hX hF hs hu hf hg e0 b0 b1 b2 b3 hm hfl hfr hK
        go_enter Tryd.func60, Tryd.ntmps60
        go_wp2_with fail
        rw [HW0.out]
        refine HC.out.mono ?_
        rintro e W1 ⟨rfl, he1⟩
        have HE1 := Lib.hid he1
        have k2 := (HB2.out.ex he1).cell 0
        clear he1
        go_wp2_with fail
        refine wp_region_quiet (C := fun w' => Ex W0 w') (by kernel_rfl) (by kernel_rfl) HE1.out.drew ?_
        refine BigFrame.wpQuiet_want (by rfl) fun K hK => ⟨?_, fun w' hC => ?_, hK _ ?_⟩
        rotate_left
        · (obtain ⟨q0, q1⟩ := HSK.out _ hC; go_simp; first | done | with_reducible rfl | exact ⟨rfl, hC⟩)
        clear hK K
        simp only [Act.put, List.setIfInBounds_toArray, List.set_cons_zero, List.set_cons_succ]
        refine BigFrame.wpQuiet_want (by rfl) fun K hK => ⟨.int .i64 (t0.length : Int), fun w' hC => (by go_simp; refine ((l01N_ex B0 t0.length d0 w' (by omega))).mono ?_; rintro e w2 ⟨rfl, hb⟩; exact ⟨rfl, hC.trans hb⟩), hK _ ?_⟩
        clear hK K
        simp only [Act.put, List.setIfInBounds_toArray, List.set_cons_zero, List.set_cons_succ]
        refine BigFrame.wpQuiet_want (by rfl) fun K hK => ⟨?_, fun w' hC => ?_, hK _ ?_⟩
        rotate_left
        · (obtain ⟨q0, q1⟩ := HSK.out _ hC; go_simp; first | done | with_reducible rfl | exact ⟨rfl, hC⟩)
        clear hK K
        simp only [Act.put, List.setIfInBounds_toArray, List.set_cons_zero, List.set_cons_succ]
        refine BigFrame.wpQuiet_want (by rfl) fun K hK => ⟨?_, fun w' hC => ?_, hK _ ?_⟩
        rotate_left
        · (obtain ⟨q0, q1⟩ := HSK.out _ hC; go_simp; first | done | with_reducible rfl | exact ⟨rfl, hC⟩)
        clear hK K
        simp only [Act.put, List.setIfInBounds_toArray, List.set_cons_zero, List.set_cons_succ]
        refine BigFrame.wpQuiet_want (by rfl) fun K hK => ⟨?_, fun w' hC => ?_, hK _ ?_⟩
        rotate_left
        · (obtain ⟨q0, q1⟩ := HSK.out _ hC; go_simp; first | done | with_reducible rfl | exact ⟨rfl, hC⟩)
        clear hK K
        simp only [Act.put, List.setIfInBounds_toArray, List.set_cons_zero, List.set_cons_succ]
        refine BigFrame.wpQuiet_want (by rfl) fun K hK => ⟨?_, fun w' hC => ?_, hK _ ?_⟩
        rotate_left
        · (obtain ⟨q0, q1⟩ := HSK.out _ hC; go_simp; first | done | with_reducible rfl | exact ⟨rfl, hC⟩)
        clear hK K
        simp only [Act.put, List.setIfInBounds_toArray, List.set_cons_zero, List.set_cons_succ]
        refine BigFrame.wpQuiet_want (by rfl) fun K hK => ⟨?_, fun w' hC => ?_, hK _ ?_⟩
        rotate_left
        · (obtain ⟨q0, q1⟩ := HSK.out _ hC; go_simp; first | done | with_reducible rfl | exact ⟨rfl, hC⟩)
        clear hK K
        simp only [Act.put, List.setIfInBounds_toArray, List.set_cons_zero, List.set_cons_succ]
        refine BigFrame.wpQuiet_want (by rfl) fun K hK => ⟨?_, fun w' hC => ?_, hK _ ?_⟩
        rotate_left
        · (obtain ⟨q0, q1⟩ := HSK.out _ hC; go_simp; first | done | with_reducible rfl | exact ⟨rfl, hC⟩)
        clear hK K
        simp only [Act.put, List.setIfInBounds_toArray, List.set_cons_zero, List.set_cons_succ]
        refine wpQuiet_nil ?_
        intro w2 hC2
        have HE9 := Lib.hid (HE0.out.trans hC2)
        clear hC2 k2
        go_wp2_with fail
        go_ret
        exact ⟨by rw [HQ.out.2]; rfl, HE9.out⟩
    · have hkb : (n != 2) = true := by simpa using hn
      have HQ := Lib.hid (ec_deg (L := L) hg hn)
      clear hW0 hR hX hF hs hu hf hg e0 b0 b1 b2 b3 hn
      go_enter Tryd.func60, Tryd.ntmps60
      go_wp2_with fail
      rw [HW0.out]
      refine HC.out.mono ?_
      rintro e W1 ⟨rfl, he1⟩
      have k2 := (HB2.out.ex he1).cell 0
      have HE1 := Lib.hid (HE0.out.trans he1)
      clear he1
      go_wp2_with fail
      go_ret
      exact ⟨by rw [HQ.out.2]; rfl, HE1.out⟩

noncomputable def yExtensionTable0 (t : List (List Int)) (m : Int) (us : List Int) (n : Int) (fs : List Int) : List (List Int) := yE 64 t m us n fs
noncomputable def qExtensionTable1 (t : List (List Int)) (m : Int) (us : List Int) (n : Int) (fs : List Int) : Int := extC 64 t m us n fs
noncomputable def yExtensionGroup0 (t : List (List Int)) (m : Int) (us : List Int) (n : Int) (fs : List Int) : List (List Int) := yE 8 t m us n fs
noncomputable def qExtensionGroup1 (t : List (List Int)) (m : Int) (us : List Int) (n : Int) (fs : List Int) : Int := extC 8 t m us n fs
theorem extensionTable_small0 (t : List (List Int)) (m : Int) (us : List Int) (n : Int) (fs : List Int) : SmallT (yExtensionTable0 t m us n fs) := yE_small 64 (by omega) t m us n fs
theorem extensionGroup_small0 (t : List (List Int)) (m : Int) (us : List Int) (n : Int) (fs : List Int) : SmallT (yExtensionGroup0 t m us n fs) := yE_small 8 (by omega) t m us n fs

set_option maxRecDepth 100000 in
set_option maxHeartbeats 4000000 in
theorem implExtensionTable_ex (t0 : List (List Int)) (m1 : Int) (t1 : List Int) (m2 : Int) (t2 : List Int) : ∀ (B0 : Option Addr) (d0 : Nat) (B1 : Option Addr) (d1 : Nat) (B2 : Option Addr) (d2 : Nat) (W : World), RwsW W B0 t0 → IntsW W B1 t1 → IntsW W B2 t2 → SmallT t0 → t1.length ≤ 1048576 → t2.length ≤ 1048576 →
    Calls Tryd.prog 21 #[.agg #[.slice B0 t0.length d0], .agg #[.int .i64 m1, .slice B1 t1.length d1], .agg #[.int .i64 m2, .slice B2 t2.length d2]] W fun e W' => ∃ (C0 : Option Addr) (e0 : Nat), e = .returned (.tuple #[.slice C0 (yExtensionTable0 t0 m1 t1 m2 t2).length e0, .int .i64 (qExtensionTable1 t0 m1 t1 m2 t2)]) ∧ Ex W W' ∧ OwnT W' W.heap.size W'.heap.size C0 (yExtensionTable0 t0 m1 t1 m2 t2) := by
  intro B0 d0 B1 d1 B2 d2 w hR hX hF hs hu hf
  have e0 : Ex w (((w.alloc (.cells #[.slice B0 t0.length d0] 35)).alloc (.cells #[.int .i64 m1, .slice B1 t1.length d1] 37)).alloc (.cells #[.int .i64 m2, .slice B2 t2.length d2] 39)) := (((Ex.refl w).alloc _).alloc _).alloc _
  have b0 : Has (((w.alloc (.cells #[.slice B0 t0.length d0] 35)).alloc (.cells #[.int .i64 m1, .slice B1 t1.length d1] 37)).alloc (.cells #[.int .i64 m2, .slice B2 t2.length d2] 39)) (w.heap.size) 35 #[.slice B0 t0.length d0] := (((Has.newAt (w := w) (e := 35) (cs := #[.slice B0 t0.length d0]) (k := w.heap.size) (by simp)).alloc _).alloc _)
  have b1 : Has (((w.alloc (.cells #[.slice B0 t0.length d0] 35)).alloc (.cells #[.int .i64 m1, .slice B1 t1.length d1] 37)).alloc (.cells #[.int .i64 m2, .slice B2 t2.length d2] 39)) (w.heap.size + 1) 37 #[.int .i64 m1, .slice B1 t1.length d1] := ((Has.newAt (w := (w.alloc (.cells #[.slice B0 t0.length d0] 35))) (e := 37) (cs := #[.int .i64 m1, .slice B1 t1.length d1]) (k := w.heap.size + 1) (by simp)).alloc _)
  have b2 : Has (((w.alloc (.cells #[.slice B0 t0.length d0] 35)).alloc (.cells #[.int .i64 m1, .slice B1 t1.length d1] 37)).alloc (.cells #[.int .i64 m2, .slice B2 t2.length d2] 39)) (w.heap.size + 1 + 1) 39 #[.int .i64 m2, .slice B2 t2.length d2] := (Has.newAt (w := ((w.alloc (.cells #[.slice B0 t0.length d0] 35)).alloc (.cells #[.int .i64 m1, .slice B1 t1.length d1] 37))) (e := 39) (cs := #[.int .i64 m2, .slice B2 t2.length d2]) (k := w.heap.size + 1 + 1) (by simp))
  have HC := Lib.hid (extensionWithin_ex 64 (by omega) B0 B1 B2 t0 m1 t1 m2 t2 d0 d1 d2 _ (hR.ex e0) (hX.ex e0) (hF.ex e0) hs hu hf)
  have HE0 := Lib.hid e0
  clear hR hX hF hs hu hf
  unfold yExtensionTable0 qExtensionTable1
  generalize yE 64 t0 m1 t1 m2 t2 = ys at *
  generalize extC 64 t0 m1 t1 m2 t2 = q at *
  go_enter Tryd.func21, Tryd.ntmps21
  go_wp2_with fail
  generalize (((w.alloc (.cells #[.slice B0 t0.length d0] 35)).alloc (.cells #[.int .i64 m1, .slice B1 t1.length d1] 37)).alloc (.cells #[.int .i64 m2, .slice B2 t2.length d2] 39)) = W0 at *
  refine HC.out.mono ?_
  rintro e W1 ⟨C, k, rfl, he1, ho⟩
  have HO := Lib.hid ho
  have HE1 := Lib.hid he1
  clear b0 b1 b2 e0 he1 ho
  go_wp2_with fail
  go_ret2
  exact ⟨C, k, rfl, (HE0.out.trans HE1.out).alloc _, (HO.out.ex (Ex.new _ _)).mono HE0.out.size (Ex.new _ _).size (Nat.le_refl _)⟩

set_option maxRecDepth 100000 in
set_option maxHeartbeats 4000000 in
theorem specExtensionTable_ex (t0 : List (List Int)) (m1 : Int) (t1 : List Int) (m2 : Int) (t2 : List Int) : ∀ (B0 : Option Addr) (d0 : Nat) (B1 : Option Addr) (d1 : Nat) (B2 : Option Addr) (d2 : Nat) (W : World), RwsW W B0 t0 → IntsW W B1 t1 → IntsW W B2 t2 → SmallT t0 → t1.length ≤ 1048576 → t2.length ≤ 1048576 →
    Calls Tryd.prog 17 #[.agg #[.slice B0 t0.length d0], .agg #[.int .i64 m1, .slice B1 t1.length d1], .agg #[.int .i64 m2, .slice B2 t2.length d2]] W fun e W' => ∃ (C0 : Option Addr) (e0 : Nat), e = .returned (.tuple #[.slice C0 (yExtensionTable0 t0 m1 t1 m2 t2).length e0, .int .i64 (qExtensionTable1 t0 m1 t1 m2 t2)]) ∧ Ex W W' ∧ OwnT W' W.heap.size W'.heap.size C0 (yExtensionTable0 t0 m1 t1 m2 t2) := by
  intro B0 d0 B1 d1 B2 d2 w hR hX hF hs hu hf
  have e0 : Ex w (((w.alloc (.cells #[.slice B0 t0.length d0] 35)).alloc (.cells #[.int .i64 m1, .slice B1 t1.length d1] 37)).alloc (.cells #[.int .i64 m2, .slice B2 t2.length d2] 39)) := (((Ex.refl w).alloc _).alloc _).alloc _
  have b0 : Has (((w.alloc (.cells #[.slice B0 t0.length d0] 35)).alloc (.cells #[.int .i64 m1, .slice B1 t1.length d1] 37)).alloc (.cells #[.int .i64 m2, .slice B2 t2.length d2] 39)) (w.heap.size) 35 #[.slice B0 t0.length d0] := (((Has.newAt (w := w) (e := 35) (cs := #[.slice B0 t0.length d0]) (k := w.heap.size) (by simp)).alloc _).alloc _)
  have b1 : Has (((w.alloc (.cells #[.slice B0 t0.length d0] 35)).alloc (.cells #[.int .i64 m1, .slice B1 t1.length d1] 37)).alloc (.cells #[.int .i64 m2, .slice B2 t2.length d2] 39)) (w.heap.size + 1) 37 #[.int .i64 m1, .slice B1 t1.length d1] := ((Has.newAt (w := (w.alloc (.cells #[.slice B0 t0.length d0] 35))) (e := 37) (cs := #[.int .i64 m1, .slice B1 t1.length d1]) (k := w.heap.size + 1) (by simp)).alloc _)
  have b2 : Has (((w.alloc (.cells #[.slice B0 t0.length d0] 35)).alloc (.cells #[.int .i64 m1, .slice B1 t1.length d1] 37)).alloc (.cells #[.int .i64 m2, .slice B2 t2.length d2] 39)) (w.heap.size + 1 + 1) 39 #[.int .i64 m2, .slice B2 t2.length d2] := (Has.newAt (w := ((w.alloc (.cells #[.slice B0 t0.length d0] 35)).alloc (.cells #[.int .i64 m1, .slice B1 t1.length d1] 37))) (e := 39) (cs := #[.int .i64 m2, .slice B2 t2.length d2]) (k := w.heap.size + 1 + 1) (by simp))
  have HC := Lib.hid (l06Given_ex 64 B0 B1 B2 t0 m1 t1 m2 t2 d0 d1 d2 _ (hR.ex e0) (hX.ex e0) (hF.ex e0) hs hu hf)
  have HE0 := Lib.hid e0
  by_cases hz : extC 64 t0 m1 t1 m2 t2 = 0
  · have HQ : Hid (qExtensionTable1 t0 m1 t1 m2 t2 = 0) := Lib.hid hz
    have hy : yExtensionTable0 t0 m1 t1 m2 t2 = extT t0 m1.toNat t1 t2 := by unfold yExtensionTable0 yE; rw [if_pos hz]
    obtain ⟨M, rfl, rfl, hEF⟩ := extC_zero hz
    rw [Int.toNat_natCast] at hy
    have HT := Lib.hid (fun W (he : Ex w W) => l06Table_any 64 B0 B1 B2 t0 M t1 t2 d0 d1 d2 W (hR.ex he) (hX.ex he) (hF.ex he) hEF (by omega))
    have HY := Lib.hid hy
    rw [hz] at HC
    clear hR hX hF hs hu hf hz hEF hy
    go_enter Tryd.func17, Tryd.ntmps17
    go_wp2_with fail
    generalize (((w.alloc (.cells #[.slice B0 t0.length d0] 35)).alloc (.cells #[.int .i64 (M : Int), .slice B1 t1.length d1] 37)).alloc (.cells #[.int .i64 2, .slice B2 t2.length d2] 39)) = W0 at *
    refine HC.out.mono ?_
    rintro e W1 ⟨rfl, he1⟩
    have c0 := (b0.ex he1).cell 0
    have c1 := (b1.ex he1).cell 0
    have c1' := (b1.ex he1).cell 1
    have c2 := (b2.ex he1).cell 0
    have c2' := (b2.ex he1).cell 1
    have HE1 := Lib.hid (HE0.out.trans he1)
    clear b0 b1 b2 e0 he1
    go_wp2_with fail
    refine (HT.out _ HE1.out).mono ?_
    rintro e W2 ⟨C, k, rfl, he2, ho⟩
    have HO := Lib.hid ho
    have HE2 := Lib.hid (HE1.out.trans he2)
    clear he2 ho
    go_wp2_with fail
    go_ret2
    exact ⟨C, k, by rw [HQ.out, HY.out]; rfl, HE2.out, by rw [HY.out]; exact HO.out.mono HE1.out.size (Nat.le_refl _) (Nat.le_refl _)⟩
  · have HQ : Hid (yExtensionTable0 t0 m1 t1 m2 t2 = [] ∧ qExtensionTable1 t0 m1 t1 m2 t2 = extC 64 t0 m1 t1 m2 t2) := Lib.hid ⟨by unfold yExtensionTable0 yE; rw [if_neg hz], rfl⟩
    obtain ⟨z, hze⟩ : ∃ z, extC 64 t0 m1 t1 m2 t2 = z := ⟨_, rfl⟩
    rw [hze] at HC HQ hz
    have hzb : (z != 0) = true := by simpa using hz
    clear hR hX hF hs hu hf hz hze
    go_enter Tryd.func17, Tryd.ntmps17
    go_wp2_with fail
    generalize (((w.alloc (.cells #[.slice B0 t0.length d0] 35)).alloc (.cells #[.int .i64 m1, .slice B1 t1.length d1] 37)).alloc (.cells #[.int .i64 m2, .slice B2 t2.length d2] 39)) = W0 at *
    refine HC.out.mono ?_
    rintro e W1 ⟨rfl, he1⟩
    go_wp2_with fail
    go_ret2
    exact ⟨none, 0, by rw [HQ.out.1, HQ.out.2]; rfl, HE0.out.trans he1, by rw [HQ.out.1]; exact OwnT.nil _ _ _ (Nat.le_refl _)⟩

end Go.Proofs.YtenenlpfpkdplaaDoor
