/- DerivedOf: both contracts. -/
import Derived.Deep.RegionHeld3
import Derived.Test.YtmmgmbgnlcfabaaDoorCj
import Derived.Test.YtmmgmbgnlcfabaaDoorCf
namespace Go.Proofs.YtmmgmbgnlcfabaaDoor
open Go.RowKit Go.Shelf

attribute [local go_sem] Oper.semAt_some

noncomputable def yDerivedOf0 (t : List (List Int)) : List Int := if grpB t = true then elI (clo t (derS t ||| 1)) else []
noncomputable def qDerivedOf1 (t : List (List Int)) : Int := if grpB t = true then 0 else 1
section
variable {t : List (List Int)}
theorem dv_no (h : grpB t = false) : yDerivedOf0 t = [] ∧ qDerivedOf1 t = 1 := by simp [yDerivedOf0, qDerivedOf1, h]
theorem dv_yes (h : grpB t = true) : yDerivedOf0 t = elI (clo t (derS t ||| 1)) ∧ qDerivedOf1 t = 0 := by simp [yDerivedOf0, qDerivedOf1, h]
theorem dv_lt (h : IsGrp t) : clo t (derS t ||| 1) < 256 := lt256 h.n8 (clo_lt h (or_lt (x := 0) (derS_lt h) h.n1))
theorem derivedOf_small0 (t : List (List Int)) : (yDerivedOf0 t).length ≤ 1048576 := by
  unfold yDerivedOf0
  split
  · rename_i h
    have := elN_len _ (dv_lt (grpB_iff.1 h))
    rw [elI_len]
    omega
  · simp
end

set_option maxRecDepth 100000 in
set_option maxHeartbeats 4000000 in
theorem specDerivedOf_ex (t0 : List (List Int)) : ∀ (B0 : Option Addr) (d0 : Nat) (W : World), RwsW W B0 t0 → SmallT t0 →
    Calls Tryd.prog 34 #[.agg #[.slice B0 t0.length d0]] W fun e W' => ∃ (C0 : Option Addr) (e0 : Nat), e = .returned (.tuple #[.slice C0 (yDerivedOf0 t0).length e0, .int .i64 (qDerivedOf1 t0)]) ∧ Ex W W' ∧ OwnL W' W.heap.size W'.heap.size C0 (yDerivedOf0 t0) := by
  intro B0 d0 w hR hs
  have e0 : Ex w (w.alloc (.cells #[.slice B0 t0.length d0] 29)) := (Ex.refl w).alloc _
  have b0 : Has (w.alloc (.cells #[.slice B0 t0.length d0] 29)) (w.heap.size) 29 #[.slice B0 t0.length d0] := (Has.newAt (w := w) (e := 29) (cs := #[.slice B0 t0.length d0]) (k := w.heap.size) (by simp))
  have HC := Lib.hid (l01Is_ex B0 t0 d0 _ (hR.ex e0) hs)
  cases hg : grpB t0 with
  | false =>
    rw [hg] at HC
    have HQ := Lib.hid (dv_no hg)
    clear hg hR
    go_enter Tryd.func34, Tryd.ntmps34
    go_wp2_with fail
    generalize (w.alloc (.cells #[.slice B0 t0.length d0] 29)) = W0 at *
    refine HC.out.mono ?_
    rintro e W1 ⟨rfl, he1⟩
    have HE1 := Lib.hid (e0.trans he1)
    clear b0 e0 he1
    go_wp2_with fail
    go_ret2
    exact ⟨none, 0, by rw [HQ.out.1, HQ.out.2]; rfl, HE1.out, by rw [HQ.out.1]; exact OwnL.nil _ _ _ (Nat.le_refl _)⟩
  | true =>
    rw [hg] at HC
    have HQ := Lib.hid (dv_yes hg)
    have hgr := grpB_iff.1 hg
    obtain ⟨b, o, bb, oo, C, rfl, hQ⟩ := hR.sq hgr
    have HQT := Lib.hid hQ
    have HG := Lib.hid hgr
    have hn8 := hgr.n8
    have hn1 := hgr.n1
    have HRW := Lib.hid hR
    have hdl := dv_lt hgr
    have h1l : 1 < 2 ^ t0.length := Nat.one_lt_two_pow (by omega)
    have H1L := Lib.hid h1l
    clear hg hgr hR hs hQ h1l
    go_enter Tryd.func34, Tryd.ntmps34
    go_wp2_with fail
    generalize (w.alloc (.cells #[.slice (some ⟨b, o, none⟩) t0.length d0] 29)) = W0 at *
    refine HC.out.mono ?_
    rintro e W1 ⟨rfl, he1⟩
    have HE1 := Lib.hid (e0.trans he1)
    have HB1 := Lib.hid (b0.ex he1)
    clear b0 e0 he1
    go_wp2_with fail
    go_loopw [4, 5] (fun v i wr => ∃ k : Nat, k ≤ t0.length ∧ i = .int .i64 (k : Int) ∧ v = .int .i64 (tabF (com t0) (List.range t0.length) 1 (List.range k) : Int) ∧ Hid (Ex W1 wr)) (fun _ i _ => t0.length - (intOf i).toNat)
    case atStart => exact ⟨0, Nat.zero_le _, rfl, rfl, Lib.hid (Ex.refl _)⟩
    case round =>
      obtain ⟨k, hk, rfl, rfl, HE⟩ := hrel
      have c1 := (HB1.out.ex HE.out).cell 0
      go_wp2_with fail
      refine (l01N_ex _ _ _ _ (by omega)).mono ?_
      rintro e W2 ⟨rfl, he2⟩
      have HE2 := Lib.hid (HE.out.trans he2)
      clear c1 he2 HE
      by_cases hlt : k < t0.length
      · have hT := tabF_lt (f := com t0) (N := t0.length) (l := List.range t0.length) (ys := List.range k) (fun a ha b hb => com_lt HG.out (by have := List.mem_range.1 ha; omega) (List.mem_range.1 hb)) H1L.out
        have HTS : Hid (tabF (com t0) (List.range t0.length) 1 (List.range (k + 1)) = rowF (com t0) k (tabF (com t0) (List.range t0.length) 1 (List.range k)) (List.range t0.length)) := Lib.hid (by rw [List.range_succ, tabF_snoc])
        obtain ⟨T, hTe⟩ : ∃ T, tabF (com t0) (List.range t0.length) 1 (List.range k) = T := ⟨_, rfl⟩
        rw [hTe] at hT HTS ⊢
        have HT := Lib.hid hT
        clear hTe hT
        go_wp2_with fail
        go_loopw [4, 6] (fun v i wr => ∃ j : Nat, j ≤ t0.length ∧ i = .int .i64 (j : Int) ∧ v = .int .i64 (rowF (com t0) k T (List.range j) : Int) ∧ Hid (Ex W1 wr)) (fun _ i _ => t0.length - (intOf i).toNat)
        case atStart => exact ⟨0, Nat.zero_le _, rfl, rfl, HE2⟩
        case round =>
          obtain ⟨j, hj, rfl, rfl, HE3⟩ := hrel
          have c1 := (HB1.out.ex HE3.out).cell 0
          go_wp2_with fail
          refine (l01N_ex _ _ _ _ (by omega)).mono ?_
          rintro e W4 ⟨rfl, he4⟩
          have HE4 := Lib.hid (HE3.out.trans he4)
          clear c1 he4 HE3
          by_cases hlt2 : j < t0.length
          · have hRl := lt256 hn8 (rowF_lt (f := com t0) (a := k) (bs := List.range j) (fun b hb => com_lt HG.out hlt (by have := List.mem_range.1 hb; omega)) HT.out : rowF (com t0) k T (List.range j) < 2 ^ t0.length)
            have HRS : Hid (rowF (com t0) k T (List.range (j + 1)) = rowF (com t0) k T (List.range j) ||| 2 ^ com t0 k j) := Lib.hid (by rw [List.range_succ, rowF_snoc])
            have hcl := con_lt HG.out hlt2 hlt
            have hil := (iv_spec HG.out hlt2).1
            have hx8 : com t0 k j < 8 := by have := com_lt HG.out hlt hlt2; omega
            have HCO := Lib.hid (fun W' (he : Ex W4.drew W') => l01Conjugate_any (some ⟨b, o, none⟩) t0 d0 j k W' (HRW.out.ex (HE1.out.trans (HE4.out.trans (Ex.drew (Ex.refl W4) |>.trans he)))) HG.out hlt2 hlt)
            have HIV := Lib.hid (fun W' (he : Ex W4.drew W') => l01Inverse_any (some ⟨b, o, none⟩) t0 d0 j W' (HRW.out.ex (HE1.out.trans (HE4.out.trans (Ex.drew (Ex.refl W4) |>.trans he)))) HG.out hlt2)
            have HF := Lib.hid (fun W' (he : Ex W4.drew W') => (by
              have hq := HQT.out.ex (HE1.out.trans (HE4.out.trans (Ex.drew (Ex.refl W4) |>.trans he)))
              exact ⟨((HB1.out.ex HE4.out).ex (Ex.drew (Ex.refl W4) |>.trans he)).cell 0, hq.row_ hcl, by rw [hq.ent_ hcl hil, HG.out.ent hcl hil]; rfl⟩ :
                W'.cell? ⟨w.heap.size, 0, none⟩ = some (.slice (some ⟨b, o, none⟩) t0.length d0) ∧ W'.cell? ⟨b, o + con t0 j k, none⟩ = some (.slice (some ⟨bb (con t0 j k), oo (con t0 j k), none⟩) t0.length (C (con t0 j k))) ∧ W'.cell? ⟨bb (con t0 j k), oo (con t0 j k) + iv t0 j, none⟩ = some (.int .i64 (com t0 k j : Int))))
            obtain ⟨x, hx⟩ : ∃ x, com t0 k j = x := ⟨_, rfl⟩
            obtain ⟨cz, hcz⟩ : ∃ cz, con t0 j k = cz := ⟨_, rfl⟩
            obtain ⟨iz, hiz⟩ : ∃ iz, iv t0 j = iz := ⟨_, rfl⟩
            obtain ⟨R, hRe⟩ : ∃ R, rowF (com t0) k T (List.range j) = R := ⟨_, rfl⟩
            rw [hx, hcz, hiz] at HF
            rw [hcz] at HCO hcl
            rw [hiz] at HIV hil
            rw [hx, hRe] at HRS
            rw [hx] at hx8
            rw [hRe] at hRl ⊢
            clear hx hcz hiz hRe
            have hbo := bits_or64 R hRl x hx8
            go_wp2_with fail
            refine wp_region_quiet (C := fun w' => Ex W4.drew w') (by kernel_rfl) (by kernel_rfl) (Ex.refl _) ?_
            refine BigFrame.wpQuiet_want (by rfl) fun K hK => ⟨?_, fun w' hC => ?_, hK _ ?_⟩
            rotate_left
            · (obtain ⟨q0, q1, q2⟩ := HF.out _ hC; go_simp; first | done | with_reducible rfl | exact ⟨rfl, hC⟩)
            clear hK K
            simp only [Act.put, List.setIfInBounds_toArray, List.set_cons_zero, List.set_cons_succ]
            refine BigFrame.wpQuiet_want (by rfl) fun K hK => ⟨?_, fun w' hC => ?_, hK _ ?_⟩
            rotate_left
            · (obtain ⟨q0, q1, q2⟩ := HF.out _ hC; go_simp; first | done | with_reducible rfl | exact ⟨rfl, hC⟩)
            clear hK K
            simp only [Act.put, List.setIfInBounds_toArray, List.set_cons_zero, List.set_cons_succ]
            refine BigFrame.wpQuiet_want (by rfl) fun K hK => ⟨?_, fun w' hC => ?_, hK _ ?_⟩
            rotate_left
            · (obtain ⟨q0, q1, q2⟩ := HF.out _ hC; go_simp; first | done | with_reducible rfl | exact ⟨rfl, hC⟩)
            clear hK K
            simp only [Act.put, List.setIfInBounds_toArray, List.set_cons_zero, List.set_cons_succ]
            refine BigFrame.wpQuiet_want (by rfl) fun K hK => ⟨?_, fun w' hC => ?_, hK _ ?_⟩
            rotate_left
            · (obtain ⟨q0, q1, q2⟩ := HF.out _ hC; go_simp; first | done | with_reducible rfl | exact ⟨rfl, hC⟩)
            clear hK K
            simp only [Act.put, List.setIfInBounds_toArray, List.set_cons_zero, List.set_cons_succ]
            refine BigFrame.wpQuiet_want (by rfl) fun K hK => ⟨?_, fun w' hC => ?_, hK _ ?_⟩
            rotate_left
            · (obtain ⟨q0, q1, q2⟩ := HF.out _ hC; go_simp; first | done | with_reducible rfl | exact ⟨rfl, hC⟩)
            clear hK K
            simp only [Act.put, List.setIfInBounds_toArray, List.set_cons_zero, List.set_cons_succ]
            refine BigFrame.wpQuiet_want (by rfl) fun K hK => ⟨.int .i64 (cz : Int), fun w' hC => (by go_simp; refine ((HCO.out w' hC)).mono ?_; rintro e w2 ⟨rfl, hb⟩; exact ⟨rfl, hC.trans hb⟩), hK _ ?_⟩
            clear hK K
            simp only [Act.put, List.setIfInBounds_toArray, List.set_cons_zero, List.set_cons_succ]
            refine BigFrame.wpQuiet_want (by rfl) fun K hK => ⟨?_, fun w' hC => ?_, hK _ ?_⟩
            rotate_left
            · (obtain ⟨q0, q1, q2⟩ := HF.out _ hC; go_simp; first | done | with_reducible rfl | exact ⟨rfl, hC⟩)
            clear hK K
            simp only [Act.put, List.setIfInBounds_toArray, List.set_cons_zero, List.set_cons_succ]
            refine BigFrame.wpQuiet_want (by rfl) fun K hK => ⟨?_, fun w' hC => ?_, hK _ ?_⟩
            rotate_left
            · (obtain ⟨q0, q1, q2⟩ := HF.out _ hC; go_simp; first | done | with_reducible rfl | exact ⟨rfl, hC⟩)
            clear hK K
            simp only [Act.put, List.setIfInBounds_toArray, List.set_cons_zero, List.set_cons_succ]
            refine BigFrame.wpQuiet_want (by rfl) fun K hK => ⟨?_, fun w' hC => ?_, hK _ ?_⟩
            rotate_left
            · (obtain ⟨q0, q1, q2⟩ := HF.out _ hC; go_simp; first | done | with_reducible rfl | exact ⟨rfl, hC⟩)
            clear hK K
            simp only [Act.put, List.setIfInBounds_toArray, List.set_cons_zero, List.set_cons_succ]
            refine BigFrame.wpQuiet_want (by rfl) fun K hK => ⟨?_, fun w' hC => ?_, hK _ ?_⟩
            rotate_left
            · (obtain ⟨q0, q1, q2⟩ := HF.out _ hC; go_simp; first | done | with_reducible rfl | exact ⟨rfl, hC⟩)
            clear hK K
            simp only [Act.put, List.setIfInBounds_toArray, List.set_cons_zero, List.set_cons_succ]
            refine BigFrame.wpQuiet_want (by rfl) fun K hK => ⟨.int .i64 (iz : Int), fun w' hC => (by go_simp; refine ((HIV.out w' hC)).mono ?_; rintro e w2 ⟨rfl, hb⟩; exact ⟨rfl, hC.trans hb⟩), hK _ ?_⟩
            clear hK K
            simp only [Act.put, List.setIfInBounds_toArray, List.set_cons_zero, List.set_cons_succ]
            refine BigFrame.wpQuiet_want (by rfl) fun K hK => ⟨?_, fun w' hC => ?_, hK _ ?_⟩
            rotate_left
            · (obtain ⟨q0, q1, q2⟩ := HF.out _ hC; go_simp; first | done | with_reducible rfl | exact ⟨rfl, hC⟩)
            clear hK K
            simp only [Act.put, List.setIfInBounds_toArray, List.set_cons_zero, List.set_cons_succ]
            refine BigFrame.wpQuiet_want (by rfl) fun K hK => ⟨?_, fun w' hC => ?_, hK _ ?_⟩
            rotate_left
            · (obtain ⟨q0, q1, q2⟩ := HF.out _ hC; go_simp; first | done | with_reducible rfl | exact ⟨rfl, hC⟩)
            clear hK K
            simp only [Act.put, List.setIfInBounds_toArray, List.set_cons_zero, List.set_cons_succ]
            refine BigFrame.wpQuiet_want (by rfl) fun K hK => ⟨?_, fun w' hC => ?_, hK _ ?_⟩
            rotate_left
            · (obtain ⟨q0, q1, q2⟩ := HF.out _ hC; go_simp; first | done | with_reducible rfl | exact ⟨rfl, hC⟩)
            clear hK K
            simp only [Act.put, List.setIfInBounds_toArray, List.set_cons_zero, List.set_cons_succ]
            refine wpQuiet_nil ?_
            intro w2 hC2
            have HC2 := Lib.hid hC2
            clear hC2
            go_wp2_with fail
            go_roundw
            case rel => exact ⟨j + 1, by omega, by go_num, by rw [HRS.out], Lib.hid (HE4.out.drew.trans HC2.out)⟩
            case measure => simp [intOf]; omega
          · obtain rfl : j = t0.length := by omega
            rw [← HTS.out]
            go_wp2_with fail
            go_roundw
            case rel => exact ⟨k + 1, by omega, by go_num, by rw [List.range_succ], HE4⟩
            case measure => simp [intOf]; omega
      · obtain rfl : k = t0.length := by omega
        have HCL := Lib.hid (fun W (he : Ex W2 W) => l01Closed_any (some ⟨b, o, none⟩) t0 d0 (derS t0 ||| 1) W (HRW.out.ex (HE1.out.trans (HE2.out.trans he))) HG.out (or_lt (x := 0) (derS_lt HG.out) hn1))
        rw [or_one_one] at HCL
        rw [derS_one]
        obtain ⟨v, hv⟩ : ∃ v, clo t0 (derS t0 ||| 1) = v := ⟨_, rfl⟩
        rw [hv] at HQ HCL hdl
        obtain ⟨u, hu⟩ : ∃ u, derS t0 ||| 1 = u := ⟨_, rfl⟩
        rw [hu] at HCL ⊢
        clear hv hu
        have c1 := (HB1.out.ex HE2.out).cell 0
        have HCL1 := Lib.hid (HCL.out W2 (Ex.refl _))
        clear HCL
        go_wp2_with fail
        refine HCL1.out.mono ?_
        rintro e W5 ⟨rfl, he5⟩
        have HE5 := Lib.hid (HE2.out.trans he5)
        clear he5
        go_wp2_with fail
        refine (l01List_any v W5 hdl).mono ?_
        rintro e W6 ⟨A6, n6, rfl, he6, ho6⟩
        have HE6 := Lib.hid he6
        have HO6 := Lib.hid ho6
        clear he6 ho6
        go_wp2_with fail
        go_ret2
        exact ⟨A6, n6, by rw [HQ.out.1, HQ.out.2]; rfl, HE1.out.trans (HE5.out.trans HE6.out), by rw [HQ.out.1]; exact HO6.out.mono (HE1.out.trans HE5.out).size (Nat.le_refl _) (Nat.le_refl _)⟩

end Go.Proofs.YtmmgmbgnlcfabaaDoor
