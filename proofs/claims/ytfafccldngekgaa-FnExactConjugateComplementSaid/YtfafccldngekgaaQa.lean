/- Pairs: the model's side. -/
import Derived.Test.YtfafccldngekgaaPr
namespace Go.Proofs.Ytfafccldngekgaa
open Go.RowKit

set_option maxRecDepth 100000 in
set_option maxHeartbeats 4000000 in
theorem l05Pairs_ex (B0 B1 B2 : Option Addr) (t0 : List (List Int)) (m : Int) (us fs : List Int) (d0 d1 d2 : Nat) (w : World) (hR : RwsW w B0 t0) (hX : IntsW w B1 us) (hF : IntsW w B2 fs) (hs : SmallT t0) (hu : us.length ≤ 1048576) (hf : fs.length ≤ 1048576) :
    Calls Try.prog 67 #[.agg #[.slice B0 t0.length d0], .agg #[.int .i64 m, .slice B1 us.length d1], .slice B2 fs.length d2] w fun e w' => e = .returned (.int .i64 (prC t0 m us fs)) ∧ Ex w w' := by
  have e0 : Ex w ((w.alloc (.cells #[.slice B0 t0.length d0] 32)).alloc (.cells #[.int .i64 m, .slice B1 us.length d1] 34)) := ((Ex.refl w).alloc _).alloc _
  have b0 : Has ((w.alloc (.cells #[.slice B0 t0.length d0] 32)).alloc (.cells #[.int .i64 m, .slice B1 us.length d1] 34)) (w.heap.size) 32 #[.slice B0 t0.length d0] := ((Has.newAt (w := w) (e := 32) (cs := #[.slice B0 t0.length d0]) (k := w.heap.size) (by simp)).alloc _)
  have b1 : Has ((w.alloc (.cells #[.slice B0 t0.length d0] 32)).alloc (.cells #[.int .i64 m, .slice B1 us.length d1] 34)) (w.heap.size + 1) 34 #[.int .i64 m, .slice B1 us.length d1] := (Has.newAt (w := (w.alloc (.cells #[.slice B0 t0.length d0] 32))) (e := 34) (cs := #[.int .i64 m, .slice B1 us.length d1]) (k := w.heap.size + 1) (by simp))
  have HE0 := Lib.hid e0
  have HI := Lib.hid (l01Is_ex B0 t0 d0 _ (hR.ex e0) hs)
  have HR := Lib.hid (hR.ex e0)
  have HX := Lib.hid (hX.ex e0)
  have HF := Lib.hid (hF.ex e0)
  clear hR hX hF
  cases hg : grpB t0 with
  | false =>
    rw [hg] at HI
    have HC : Hid (gmB t0 m us = false) := Lib.hid (by rw [gmB, hg]; rfl)
    clear hg
    have c0 := b0.cell 0
    go_enter Try.func67, Try.ntmps67
    go_wp2_with fail
    generalize ((w.alloc (.cells #[.slice B0 t0.length d0] 32)).alloc (.cells #[.int .i64 m, .slice B1 us.length d1] 34)) = W0 at *
    refine HI.out.mono ?_
    rintro e W1 ⟨rfl, he1⟩
    go_wp2_with fail
    go_ret
    exact ⟨by rw [prC_mod HC.out]; rfl, HE0.out.trans he1⟩
  | true =>
    rw [hg] at HI
    have HGB := Lib.hid hg
    have hgr := grpB_iff.1 hg
    have hn1 := hgr.n1
    have hn8 := hgr.n8
    have HM := Lib.hid (fun (w' : World) (he : Ex ((w.alloc (.cells #[.slice B0 t0.length d0] 32)).alloc (.cells #[.int .i64 m, .slice B1 us.length d1] 34)) w') => l02Is_ex B0 B1 t0 m us d0 d1 w' (HR.out.ex he) (HX.out.ex he) hgr hu)
    clear hg
    cases hmd : modB t0 m us with
    | false =>
      rw [hmd] at HM
      have HC : Hid (gmB t0 m us = false) := Lib.hid (by rw [gmB, hmd, Bool.and_false])
      clear hmd hgr
      go_enter Try.func67, Try.ntmps67
      go_wp2_with fail
      generalize ((w.alloc (.cells #[.slice B0 t0.length d0] 32)).alloc (.cells #[.int .i64 m, .slice B1 us.length d1] 34)) = W0 at *
      refine HI.out.mono ?_
      rintro e W1 ⟨rfl, he1⟩
      have c0 := (b0.ex he1).cell 0
      have c1 := (b1.ex he1).cell 0
      have c1' := (b1.ex he1).cell 1
      go_wp2_with fail
      refine (HM.out W1 he1).mono ?_
      rintro e W2 ⟨rfl, he2⟩
      go_wp2_with fail
      go_ret
      exact ⟨by rw [prC_mod HC.out]; rfl, HE0.out.trans (he1.trans he2)⟩
    | true =>
      rw [hmd] at HM
      have HC : Hid (gmB t0 m us = true) := Lib.hid (by rw [gmB, HGB.out, hmd]; rfl)
      obtain ⟨M, rfl, hMF⟩ := gmB_f HC.out
      have hm2 := hMF.m2
      have hm12 := hMF.m12
      have HQ := Lib.hid (prC_some (ps := fs) HC.out)
      obtain ⟨KM, hK⟩ : ∃ KM, M * t0.length = KM := ⟨_, rfl⟩
      have hK96 : KM ≤ 96 := by rw [← hK]; exact Nat.le_trans (Nat.mul_le_mul hm12 hn8) (by omega)
      have hp : (M : Int) * (t0.length : Int) = (KM : Int) := by rw [← hK]; simp
      have hwK : IntKind.i64.wrap (KM : Int) = (KM : Int) := IntWalk.i64_in _ (by omega)
      have hw1 : IntKind.i64.wrap ((KM : Int) - 1) = (KM : Int) - 1 := IntWalk.i64_in _ (by omega)
      rw [hp] at HQ
      clear hmd hgr hMF hK
      go_enter Try.func67, Try.ntmps67
      go_wp2_with fail
      generalize ((w.alloc (.cells #[.slice B0 t0.length d0] 32)).alloc (.cells #[.int .i64 (M : Int), .slice B1 us.length d1] 34)) = W0 at *
      refine HI.out.mono ?_
      rintro e W1 ⟨rfl, he1⟩
      have c0 := (b0.ex he1).cell 0
      have c1 := (b1.ex he1).cell 0
      have c1' := (b1.ex he1).cell 1
      go_wp2_with fail
      refine (HM.out W1 he1).mono ?_
      rintro e W2 ⟨rfl, he2⟩
      have HE2 := Lib.hid (he1.trans he2)
      have HB0 := Lib.hid b0
      have HB1 := Lib.hid b1
      clear b0 b1 c0 c1 c1' he1 he2 e0
      go_wp2_with fail
      go_loopw [7] (fun i wr => ∃ j : Nat, j ≤ fs.length ∧ i = .int .i64 (j : Int) ∧ Hid (Ex W0 wr) ∧ Hid (∀ l, l < j → inB (nth fs l) 0 ((KM : Int) - 1) = true)) (fun i _ => fs.length - (intOf i).toNat)
      case atStart => exact ⟨0, Nat.zero_le _, rfl, HE2, Lib.hid fun l hl => absurd hl (by omega)⟩
      case round =>
        obtain ⟨j, hj, rfl, HE, HS⟩ := hrel
        by_cases hlt : j < fs.length
        · obtain ⟨bx, ox, rfl, hbx, hcx⟩ := (HF.out.ex HE.out).ints.at_ hlt
          have hj0 : (0 : Int) ≤ (j : Int) := by omega
          have hjn : (j : Int) < (fs.length : Int) := by omega
          obtain ⟨bv, hbv⟩ : ∃ b, inB (nth fs j) 0 ((KM : Int) - 1) = b := ⟨_, rfl⟩
          have HBV := Lib.hid hbv
          obtain ⟨x, hxx⟩ : ∃ x, nth fs j = x := ⟨_, rfl⟩
          rw [hxx] at hcx
          have HBX : Hid (inB x 0 ((KM : Int) - 1) = bv) := Lib.hid (by rw [← hxx, hbv])
          clear hbv hxx
          have HSK := Lib.hid (fun (W' : World) (hb : Ex wr.drew W') => And.intro ((Has.ex (w := wr.drew) (HB1.out.ex HE.out.drew) hb).cell 0) (And.intro ((Has.ex (w := wr.drew) (HB0.out.ex HE.out.drew) hb).cell 0) ((Below.cell (w := wr.drew) hb (p := ⟨bx, ox + j, none⟩) hbx).trans hcx)))
          clear hcx
          go_wp2_with fail
          refine wp_region_quiet (C := fun w' => Ex wr.drew w') (by kernel_rfl) (by kernel_rfl) (Ex.refl _) ?_
          refine BigFrame.wpQuiet_want (by rfl) fun K hK => ⟨?_, fun w' hC => ?_, hK _ ?_⟩
          rotate_left
          · (obtain ⟨q0, q1, q2⟩ := HSK.out _ hC; go_simp; first | done | with_reducible rfl | exact ⟨rfl, hC⟩)
          clear hK K
          simp only [Act.put, List.setIfInBounds_toArray, List.set_cons_zero, List.set_cons_succ]
          refine BigFrame.wpQuiet_want (by rfl) fun K hK => ⟨?_, fun w' hC => ?_, hK _ ?_⟩
          rotate_left
          · (obtain ⟨q0, q1, q2⟩ := HSK.out _ hC; go_simp; first | done | with_reducible rfl | exact ⟨rfl, hC⟩)
          clear hK K
          simp only [Act.put, List.setIfInBounds_toArray, List.set_cons_zero, List.set_cons_succ]
          refine BigFrame.wpQuiet_want (by rfl) fun K hK => ⟨?_, fun w' hC => ?_, hK _ ?_⟩
          rotate_left
          · (obtain ⟨q0, q1, q2⟩ := HSK.out _ hC; go_simp; first | done | with_reducible rfl | exact ⟨rfl, hC⟩)
          clear hK K
          simp only [Act.put, List.setIfInBounds_toArray, List.set_cons_zero, List.set_cons_succ]
          refine BigFrame.wpQuiet_want (by rfl) fun K hK => ⟨?_, fun w' hC => ?_, hK _ ?_⟩
          rotate_left
          · (obtain ⟨q0, q1, q2⟩ := HSK.out _ hC; go_simp; first | done | with_reducible rfl | exact ⟨rfl, hC⟩)
          clear hK K
          simp only [Act.put, List.setIfInBounds_toArray, List.set_cons_zero, List.set_cons_succ]
          refine BigFrame.wpQuiet_want (by rfl) fun K hK => ⟨?_, fun w' hC => ?_, hK _ ?_⟩
          rotate_left
          · (obtain ⟨q0, q1, q2⟩ := HSK.out _ hC; go_simp; first | done | with_reducible rfl | exact ⟨rfl, hC⟩)
          clear hK K
          simp only [Act.put, List.setIfInBounds_toArray, List.set_cons_zero, List.set_cons_succ]
          refine BigFrame.wpQuiet_want (by rfl) fun K hK => ⟨?_, fun w' hC => ?_, hK _ ?_⟩
          rotate_left
          · (obtain ⟨q0, q1, q2⟩ := HSK.out _ hC; go_simp; first | done | with_reducible rfl | exact ⟨rfl, hC⟩)
          clear hK K
          simp only [Act.put, List.setIfInBounds_toArray, List.set_cons_zero, List.set_cons_succ]
          refine BigFrame.wpQuiet_want (by rfl) fun K hK => ⟨?_, fun w' hC => ?_, hK _ ?_⟩
          rotate_left
          · (obtain ⟨q0, q1, q2⟩ := HSK.out _ hC; go_simp; first | done | with_reducible rfl | exact ⟨rfl, hC⟩)
          clear hK K
          simp only [Act.put, List.setIfInBounds_toArray, List.set_cons_zero, List.set_cons_succ]
          refine BigFrame.wpQuiet_want (by rfl) fun K hK => ⟨.int .i64 (t0.length : Int), fun w' hC => (by go_simp; refine (l01N_ex B0 t0.length d0 w' (by omega)).mono ?_; rintro e w2 ⟨rfl, hb⟩; exact ⟨rfl, hC.trans hb⟩), hK _ ?_⟩
          clear hK K
          simp only [Act.put, List.setIfInBounds_toArray, List.set_cons_zero, List.set_cons_succ]
          refine BigFrame.wpQuiet_want (by rfl) fun K hK => ⟨?_, fun w' hC => ?_, hK _ ?_⟩
          rotate_left
          · (obtain ⟨q0, q1, q2⟩ := HSK.out _ hC; go_simp; first | done | with_reducible rfl | exact ⟨rfl, hC⟩)
          clear hK K
          simp only [Act.put, List.setIfInBounds_toArray, List.set_cons_zero, List.set_cons_succ]
          refine BigFrame.wpQuiet_want (by rfl) fun K hK => ⟨?_, fun w' hC => ?_, hK _ ?_⟩
          rotate_left
          · (obtain ⟨q0, q1, q2⟩ := HSK.out _ hC; go_simp; first | done | with_reducible rfl | exact ⟨rfl, hC⟩)
          clear hK K
          simp only [Act.put, List.setIfInBounds_toArray, List.set_cons_zero, List.set_cons_succ]
          refine BigFrame.wpQuiet_want (by rfl) fun K hK => ⟨.bool bv, fun w' hC => (by go_simp; refine ((HBX.out ▸ l01In_e x 0 ((KM : Int) - 1) w')).mono ?_; rintro e w2 ⟨rfl, hb⟩; exact ⟨rfl, hC.trans hb⟩), hK _ ?_⟩
          clear hK K
          simp only [Act.put, List.setIfInBounds_toArray, List.set_cons_zero, List.set_cons_succ]
          cases bv with
          | false =>
            refine BigFrame.wpQuiet_want (by rfl) fun K hK => ⟨?_, fun w' hC => ?_, hK _ ?_⟩
            rotate_left
            · (obtain ⟨q0, q1, q2⟩ := HSK.out _ hC; go_simp; first | done | with_reducible rfl | exact ⟨rfl, hC⟩)
            clear hK K
            simp only [Act.put, List.setIfInBounds_toArray, List.set_cons_zero, List.set_cons_succ]
            refine wpQuiet_nil ?_
            intro w2 hC2
            have HC2 := Lib.hid hC2
            clear hC2
            go_wp2_with fail
            go_ret
            exact ⟨by rw [HQ.out, belowB_at hlt HBV.out]; rfl, HE0.out.trans (HE.out.trans ((Ex.refl wr).drew.trans HC2.out))⟩
          | true =>
            refine BigFrame.wpQuiet_want (by rfl) fun K hK => ⟨?_, fun w' hC => ?_, hK _ ?_⟩
            rotate_left
            · (obtain ⟨q0, q1, q2⟩ := HSK.out _ hC; go_simp; first | done | with_reducible rfl | exact ⟨rfl, hC⟩)
            clear hK K
            simp only [Act.put, List.setIfInBounds_toArray, List.set_cons_zero, List.set_cons_succ]
            refine wpQuiet_nil ?_
            intro w2 hC2
            have HC2 := Lib.hid hC2
            clear hC2
            go_wp2_with fail
            go_roundw
            case rel => exact ⟨j + 1, by omega, by go_num, Lib.hid (HE.out.trans ((Ex.refl wr).drew.trans HC2.out)), Lib.hid fun l hl => by
              rcases Nat.lt_or_ge l j with h | h
              · exact HS.out l h
              · obtain rfl : l = j := by omega
                exact HBV.out⟩
            case measure => simp [intOf]; omega
        · obtain rfl : j = fs.length := by omega
          go_wp2_with fail
          go_ret
          exact ⟨by rw [HQ.out, belowB_iff.2 HS.out]; rfl, HE0.out.trans HE.out⟩

end Go.Proofs.Ytfafccldngekgaa
