/- Crossed maps: the model's tests. -/
import Derived.Test.YtfafccldngekgaaCr
namespace Go.Proofs.Ytfafccldngekgaa
open Go.RowKit

set_option maxRecDepth 100000 in
set_option maxHeartbeats 2000000 in
theorem l05Numbers_any (B0 B1 B2 : Option Addr) (t0 : List (List Int)) (M : Nat) (us fs : List Int) (d0 d1 d2 : Nat) (w : World) (_ : t0.length ≤ 8) (hM2 : 2 ≤ M) (hM12 : M ≤ 12) (hF : IntsW w B2 fs) (hx : fs.length ≤ 1048576) :
    Calls Try.prog 94 #[.agg #[.slice B0 t0.length d0], .agg #[.int .i64 (M : Int), .slice B1 us.length d1], .slice B2 fs.length d2] w fun e w' => e = .returned (.bool (numB t0.length (M : Int) fs)) ∧ Ex w w' := by
  have e0 : Ex w ((w.alloc (.cells #[.slice B0 t0.length d0] 32)).alloc (.cells #[.int .i64 (M : Int), .slice B1 us.length d1] 34)) := ((Ex.refl w).alloc _).alloc _
  have b0 : Has ((w.alloc (.cells #[.slice B0 t0.length d0] 32)).alloc (.cells #[.int .i64 (M : Int), .slice B1 us.length d1] 34)) (w.heap.size) 32 #[.slice B0 t0.length d0] := ((Has.newAt (w := w) (e := 32) (cs := #[.slice B0 t0.length d0]) (k := w.heap.size) (by simp)).alloc _)
  have b1 : Has ((w.alloc (.cells #[.slice B0 t0.length d0] 32)).alloc (.cells #[.int .i64 (M : Int), .slice B1 us.length d1] 34)) (w.heap.size + 1) 34 #[.int .i64 (M : Int), .slice B1 us.length d1] := (Has.newAt (w := (w.alloc (.cells #[.slice B0 t0.length d0] 32))) (e := 34) (cs := #[.int .i64 (M : Int), .slice B1 us.length d1]) (k := w.heap.size + 1) (by simp))
  have HF := Lib.hid (hF.ex e0)
  have HE0 := Lib.hid e0
  clear hF
  go_enter Try.func94, Try.ntmps94
  go_wp2_with fail
  generalize ((w.alloc (.cells #[.slice B0 t0.length d0] 32)).alloc (.cells #[.int .i64 (M : Int), .slice B1 us.length d1] 34)) = W0 at *
  have HB0 := Lib.hid b0
  have HB1 := Lib.hid b1
  clear b0 b1 e0
  go_loopw [7] (fun i wr => ∃ j : Nat, j ≤ fs.length ∧ i = .int .i64 (j : Int) ∧ Hid (Ex W0 wr) ∧ Hid (∀ l, l < j → inB (nth fs l) 0 ((M : Int) - 1) = true)) (fun i _ => fs.length - (intOf i).toNat)
  case atStart => exact ⟨0, Nat.zero_le _, rfl, Lib.hid (Ex.refl _), Lib.hid fun l hl => absurd hl (by omega)⟩
  case round =>
    obtain ⟨j, hj, rfl, HE, HS⟩ := hrel
    by_cases hlt : j < fs.length
    · obtain ⟨bx, ox, rfl, hbx, hcx⟩ := (HF.out.ex HE.out).ints.at_ hlt
      have hw : IntKind.i64.wrap ((M : Int) - 1) = (M : Int) - 1 := IntWalk.i64_in _ (by omega)
      have hj0 : (0 : Int) ≤ (j : Int) := by omega
      have hjn : (j : Int) < (fs.length : Int) := by omega
      obtain ⟨bv, hbv⟩ : ∃ b, inB (nth fs j) 0 ((M : Int) - 1) = b := ⟨_, rfl⟩
      have HBV := Lib.hid hbv
      obtain ⟨x, hxx⟩ : ∃ x, nth fs j = x := ⟨_, rfl⟩
      rw [hxx] at hcx
      have HBX : Hid (inB x 0 ((M : Int) - 1) = bv) := Lib.hid (by rw [← hxx, hbv])
      clear hbv hxx
      have HSK := Lib.hid (fun (W' : World) (hb : Ex wr.drew W') => And.intro ((Has.ex (w := wr.drew) (HB1.out.ex HE.out.drew) hb).cell 0) ((Below.cell (w := wr.drew) hb (p := ⟨bx, ox + j, none⟩) hbx).trans hcx))
      clear hcx
      go_wp2_with fail
      refine wp_region_quiet (C := fun w' => Ex wr.drew w') (by kernel_rfl) (by kernel_rfl) (Ex.refl _) ?_
      refine BigFrame.wpQuiet_want (by rfl) fun K hK => ⟨?_, fun w' hC => ?_, hK _ ?_⟩
      rotate_left
      · (obtain ⟨q0, q1⟩ := HSK.out _ hC; go_simp; first | done | with_reducible rfl | exact ⟨rfl, hC⟩)
      clear hK K
      simp only [Act.put, List.setIfInBounds_toArray, List.set_cons_zero, List.set_cons_succ]
      refine BigFrame.wpQuiet_want (by rfl) fun K hK => ⟨?_, fun w' hC => ?_, hK _ ?_⟩
      rotate_left
      · (obtain ⟨q0, q1⟩ := HSK.out _ hC; go_simp; first | done | with_reducible rfl | exact ⟨rfl, hC⟩)
      clear hK K
      simp only [Act.put, List.setIfInBounds_toArray, List.set_cons_zero, List.set_cons_succ]
      refine BigFrame.wpQuiet_want (by rfl) fun K hK => ⟨?_, fun w' hC => ?_, hK _ ?_⟩
      rotate_left
      · (obtain ⟨q0, q1⟩ := HSK.out _ hC; go_simp; first | done | with_reducible rfl | exact ⟨rfl, hC⟩)
      clear hK K
      simp only [Act.put, List.setIfInBounds_toArray, List.set_cons_zero, List.set_cons_succ]
      refine BigFrame.wpQuiet_want (by rfl) fun K hK => ⟨?_, fun w' hC => ?_, hK _ ?_⟩
      rotate_left
      · (obtain ⟨q0, q1⟩ := HSK.out _ hC; go_simp; first | done | with_reducible rfl | exact ⟨rfl, hC⟩)
      clear hK K
      simp only [Act.put, List.setIfInBounds_toArray, List.set_cons_zero, List.set_cons_succ]
      refine BigFrame.wpQuiet_want (by rfl) fun K hK => ⟨?_, fun w' hC => ?_, hK _ ?_⟩
      rotate_left
      · (obtain ⟨q0, q1⟩ := HSK.out _ hC; go_simp; first | done | with_reducible rfl | exact ⟨rfl, hC⟩)
      clear hK K
      simp only [Act.put, List.setIfInBounds_toArray, List.set_cons_zero, List.set_cons_succ]
      refine BigFrame.wpQuiet_want (by rfl) fun K hK => ⟨?_, fun w' hC => ?_, hK _ ?_⟩
      rotate_left
      · (obtain ⟨q0, q1⟩ := HSK.out _ hC; go_simp; first | done | with_reducible rfl | exact ⟨rfl, hC⟩)
      clear hK K
      simp only [Act.put, List.setIfInBounds_toArray, List.set_cons_zero, List.set_cons_succ]
      refine BigFrame.wpQuiet_want (by rfl) fun K hK => ⟨?_, fun w' hC => ?_, hK _ ?_⟩
      rotate_left
      · (obtain ⟨q0, q1⟩ := HSK.out _ hC; go_simp; first | done | with_reducible rfl | exact ⟨rfl, hC⟩)
      clear hK K
      simp only [Act.put, List.setIfInBounds_toArray, List.set_cons_zero, List.set_cons_succ]
      refine BigFrame.wpQuiet_want (by rfl) fun K hK => ⟨.bool bv, fun w' hC => (by go_simp; refine ((HBX.out ▸ l01In_e x 0 ((M : Int) - 1) w')).mono ?_; rintro e w2 ⟨rfl, hb⟩; exact ⟨rfl, hC.trans hb⟩), hK _ ?_⟩
      clear hK K
      simp only [Act.put, List.setIfInBounds_toArray, List.set_cons_zero, List.set_cons_succ]
      cases bv with
      | false =>
        refine BigFrame.wpQuiet_want (by rfl) fun K hK => ⟨?_, fun w' hC => ?_, hK _ ?_⟩
        rotate_left
        · (obtain ⟨q0, q1⟩ := HSK.out _ hC; go_simp; first | done | with_reducible rfl | exact ⟨rfl, hC⟩)
        clear hK K
        simp only [Act.put, List.setIfInBounds_toArray, List.set_cons_zero, List.set_cons_succ]
        refine wpQuiet_nil ?_
        intro w2 hC2
        have HC2 := Lib.hid hC2
        clear hC2
        go_wp2_with fail
        go_ret
        exact ⟨by rw [numB_low (belowB_at hlt HBV.out)]; rfl, HE0.out.trans (HE.out.trans ((Ex.refl wr).drew.trans HC2.out))⟩
      | true =>
        refine BigFrame.wpQuiet_want (by rfl) fun K hK => ⟨?_, fun w' hC => ?_, hK _ ?_⟩
        rotate_left
        · (obtain ⟨q0, q1⟩ := HSK.out _ hC; go_simp; first | done | with_reducible rfl | exact ⟨rfl, hC⟩)
        clear hK K
        simp only [Act.put, List.setIfInBounds_toArray, List.set_cons_zero, List.set_cons_succ]
        refine wpQuiet_nil ?_
        intro w2 hC2
        have HC2 := Lib.hid hC2
        clear hC2
        go_wp2_with fail
        go_roundw
        case rel => exact ⟨j + 1, by omega, by go_num, Lib.hid (HE.out.trans ((Ex.refl wr).drew.trans HC2.out)), Lib.hid fun l hl => by
          rcases Nat.lt_or_ge l j with h | h
          · exact HS.out l h
          · obtain rfl : l = j := by omega
            exact HBV.out⟩
        case measure => simp [intOf]; omega
    · obtain rfl : j = fs.length := by omega
      have c0 := (HB0.out.ex HE.out).cell 0
      have HQ : Hid (numB t0.length (M : Int) fs = ((fs.length : Int) == (t0.length : Int))) := Lib.hid (by
        rw [numB_eq (belowB_iff.2 HS.out), Bool.eq_iff_iff]
        simp only [beq_iff_eq, decide_eq_true_eq, Int.natCast_inj])
      obtain ⟨q, hq⟩ : ∃ q, ((fs.length : Int) == (t0.length : Int)) = q := ⟨_, rfl⟩
      rw [hq] at HQ
      go_wp2_with fail
      go_ret
      exact ⟨by rw [HQ.out]; rfl, HE0.out.trans HE.out⟩

set_option maxRecDepth 100000 in
set_option maxHeartbeats 4000000 in
theorem l05Crossed_any (B0 B1 B2 : Option Addr) (t0 : List (List Int)) (M : Nat) (us fs : List Int) (d0 d1 d2 : Nat) (w : World) (hR : RwsW w B0 t0) (hX : IntsW w B1 us) (hF : IntsW w B2 fs) (hm : ModF t0 M us) (hl : fs.length = t0.length) (hr : InR M fs) :
    Calls Try.prog 57 #[.agg #[.slice B0 t0.length d0], .agg #[.int .i64 (M : Int), .slice B1 us.length d1], .slice B2 fs.length d2] w fun e w' => e = .returned (.bool (crsB t0 M us fs)) ∧ Ex w w' := by
  obtain ⟨b, o, bb, oo, C, rfl, hQ⟩ := hR.sq hm.g
  have hN1 := hm.g.n1
  have hN8 := hm.g.n8
  have hM2 := hm.m2
  have hM12 := hm.m12
  obtain ⟨bx, ox, rfl, hbx, -⟩ := hX.ints.at_ (j := 0) (by rw [hm.len]; omega)
  obtain ⟨bf, of, rfl, hbf, -⟩ := hF.ints.at_ (j := 0) (by omega)
  have e0 : Ex w ((w.alloc (.cells #[.slice (some ⟨b, o, none⟩) t0.length d0] 32)).alloc (.cells #[.int .i64 (M : Int), .slice (some ⟨bx, ox, none⟩) us.length d1] 34)) := ((Ex.refl w).alloc _).alloc _
  have b0 : Has ((w.alloc (.cells #[.slice (some ⟨b, o, none⟩) t0.length d0] 32)).alloc (.cells #[.int .i64 (M : Int), .slice (some ⟨bx, ox, none⟩) us.length d1] 34)) (w.heap.size) 32 #[.slice (some ⟨b, o, none⟩) t0.length d0] := ((Has.newAt (w := w) (e := 32) (cs := #[.slice (some ⟨b, o, none⟩) t0.length d0]) (k := w.heap.size) (by simp)).alloc _)
  have b1 : Has ((w.alloc (.cells #[.slice (some ⟨b, o, none⟩) t0.length d0] 32)).alloc (.cells #[.int .i64 (M : Int), .slice (some ⟨bx, ox, none⟩) us.length d1] 34)) (w.heap.size + 1) 34 #[.int .i64 (M : Int), .slice (some ⟨bx, ox, none⟩) us.length d1] := (Has.newAt (w := (w.alloc (.cells #[.slice (some ⟨b, o, none⟩) t0.length d0] 32))) (e := 34) (cs := #[.int .i64 (M : Int), .slice (some ⟨bx, ox, none⟩) us.length d1]) (k := w.heap.size + 1) (by simp))
  have HA : Hid (∀ W', Ex w W' → ∀ i j, i < t0.length → j < t0.length →
      W'.cell? ⟨b, o + i, none⟩ = some (.slice (some ⟨bb i, oo i, none⟩) t0.length (C i)) ∧ W'.cell? ⟨bb i, oo i + j, none⟩ = some (.int .i64 (mul t0 i j : Int)) ∧
      W'.cell? ⟨bx, ox + i, none⟩ = some (.int .i64 (im us i : Int)) ∧ W'.cell? ⟨bf, of + i, none⟩ = some (.int .i64 (im fs i : Int)) ∧ W'.cell? ⟨bf, of + j, none⟩ = some (.int .i64 (im fs j : Int)) ∧ W'.cell? ⟨bf, of + mul t0 i j, none⟩ = some (.int .i64 (im fs (mul t0 i j) : Int))) := Lib.hid fun W' he i j hi hj => by
    have hu := im_eq hm.rng (k := i) (by rw [hm.len]; exact hi)
    have hf := fun k (hk : k < t0.length) => im_eq hr (k := k) (by rw [hl]; exact hk)
    have hmj := hm.g.mul_lt hi hj
    have hxi : ∀ k, k < us.length → W'.cell? ⟨bx, ox + k, none⟩ = some (.int .i64 (nth us k)) := fun k hk => ints_cell (hX.ex he).ints hk
    have hfi : ∀ k, k < fs.length → W'.cell? ⟨bf, of + k, none⟩ = some (.int .i64 (nth fs k)) := fun k hk => ints_cell (hF.ex he).ints hk
    refine ⟨(hQ.ex he).row_ hi, (hQ.ex he).mul_ hm.g hi hj, ?_, ?_, ?_, ?_⟩
    · rw [hxi i (by rw [hm.len]; exact hi), hu.1]
    · rw [hfi i (by rw [hl]; exact hi), (hf i hi).1]
    · rw [hfi j (by rw [hl]; exact hj), (hf j hj).1]
    · rw [hfi _ (by rw [hl]; exact hmj), (hf _ hmj).1]
  have HB : Hid (∀ i j, i < t0.length → j < t0.length → mul t0 i j < t0.length ∧ im fs i ≤ 12 ∧ im us i * im fs j ≤ 132 ∧ im fs (mul t0 i j) ≤ 12 ∧ im us i ≤ 12 ∧ im fs j ≤ 12) := Lib.hid fun i j hi hj => by
    have h1 := (im_eq hr (k := i) (by omega)).2
    have h2 := (im_eq hr (k := j) (by omega)).2
    have h3 := (im_eq hr (k := mul t0 i j) (by rw [hl]; exact hm.g.mul_lt hi hj)).2
    have h4 := (im_eq hm.rng (k := i) (by rw [hm.len]; exact hi)).2
    exact ⟨hm.g.mul_lt hi hj, by omega, (crs_sum hm.rng hr hM12 (by rw [hm.len]; exact hi) (by omega) (by omega)).2, by omega, by omega, by omega⟩
  have HE0 := Lib.hid e0
  have HL := Lib.hid hl
  have HLU := Lib.hid hm.len
  clear hR hX hF hm hr hQ hl
  go_enter Try.func57, Try.ntmps57
  go_wp2_with fail
  generalize ((w.alloc (.cells #[.slice (some ⟨b, o, none⟩) t0.length d0] 32)).alloc (.cells #[.int .i64 (M : Int), .slice (some ⟨bx, ox, none⟩) us.length d1] 34)) = W0 at *
  have HB0 := Lib.hid b0
  have HB1 := Lib.hid b1
  clear b0 b1 e0
  go_loopw [7] (fun i wr => ∃ k : Nat, k ≤ t0.length ∧ i = .int .i64 (k : Int) ∧ Hid (Ex W0 wr) ∧ Hid (∀ i, i < k → ∀ j, j < t0.length → CrsAt t0 M us fs i j)) (fun i _ => t0.length - (intOf i).toNat)
  case atStart => exact ⟨0, Nat.zero_le _, rfl, Lib.hid (Ex.refl _), Lib.hid fun l hl => absurd hl (by omega)⟩
  case round =>
    obtain ⟨k, hk, rfl, HE, HS⟩ := hrel
    have c0 := (HB0.out.ex HE.out).cell 0
    by_cases hlt : k < t0.length
    · go_wp2_with (go_at_call 78; refine (l01N_ex _ t0.length d0 _ (by omega)).mono ?_; rintro e w1 ⟨rfl, he1⟩; have HE1 := Lib.hid (HE.out.trans he1); clear he1 c0)
      go_loopw [8] (fun i wr => ∃ j : Nat, j ≤ t0.length ∧ i = .int .i64 (j : Int) ∧ Hid (Ex W0 wr) ∧ Hid (∀ j', j' < j → CrsAt t0 M us fs k j')) (fun i _ => t0.length - (intOf i).toNat)
      case atStart => exact ⟨0, Nat.zero_le _, rfl, HE1, Lib.hid fun l hl => absurd hl (by omega)⟩
      case round =>
        obtain ⟨j, hj, rfl, HF, HS2⟩ := hrel
        have c0 := (HB0.out.ex HF.out).cell 0
        by_cases hlt2 : j < t0.length
        · have hA := HA.out
          obtain ⟨g1, g2, g3, g4, g5, g6⟩ := HB.out k j hlt hlt2
          have hkf : k < fs.length := by rw [HL.out]; exact hlt
          have hjf : j < fs.length := by rw [HL.out]; exact hlt2
          have hku : k < us.length := by rw [HLU.out]; exact hlt
          have hmf : mul t0 k j < fs.length := by rw [HL.out]; exact g1
          have HAT : Hid (CrsAt t0 M us fs k j ↔ im fs (mul t0 k j) = (im fs k + im us k * im fs j) % M) := Lib.hid Iff.rfl
          have hA := fun W' he => HA.out W' he k j hlt hlt2
          obtain ⟨zz, hzz⟩ : ∃ zz, mul t0 k j = zz := ⟨_, rfl⟩
          rw [hzz] at hA g1 g4 hmf HAT
          obtain ⟨y, hy⟩ : ∃ y, im fs zz = y := ⟨_, rfl⟩
          rw [hy] at hA g4 HAT
          obtain ⟨f, hf⟩ : ∃ f, im fs k = f := ⟨_, rfl⟩
          obtain ⟨u, hu⟩ : ∃ u, im us k = u := ⟨_, rfl⟩
          obtain ⟨g, hg⟩ : ∃ g, im fs j = g := ⟨_, rfl⟩
          rw [hf, hu, hg] at HAT
          simp only [hf, hu, hg] at hA g2 g3 g5 g6
          obtain ⟨z0, hz0⟩ : ∃ z0, u * g = z0 := ⟨_, rfl⟩
          have hp : (u : Int) * (g : Int) = (z0 : Int) := by rw [← hz0]; simp
          rw [hz0] at HAT g3
          obtain ⟨v, hv⟩ : ∃ v, (f + z0) % M = v := ⟨_, rfl⟩
          have HMV := Lib.hid (fun W => (show ((f : Int) + (z0 : Int)) % (M : Int) = (v : Int) by rw [← hv]; simp) ▸ l01Mod_ex ((f : Int) + (z0 : Int)) M W (by omega) hM12 (by omega) (by omega))
          rw [hv] at HAT
          have hwm : IntKind.i64.wrap (z0 : Int) = (z0 : Int) := IntWalk.i64_in _ (by omega)
          have hws : IntKind.i64.wrap ((f : Int) + (z0 : Int)) = (f : Int) + (z0 : Int) := IntWalk.i64_in _ (by omega)
          have HHA := Lib.hid hA
          clear hA hzz hy hf hu hg hz0 hv
          obtain ⟨bv, hbv⟩ : ∃ bv, ((y : Int) != (v : Int)) = bv := ⟨_, rfl⟩
          have HBV := Lib.hid hbv
          go_wp2_with (go_at_call 78; refine (l01N_ex _ t0.length d0 _ (by omega)).mono ?_; rintro e wn ⟨rfl, he2⟩; have HE2 := Lib.hid (HF.out.trans he2); clear he2 c0)
          have HSK := Lib.hid (fun (W' : World) (hb : Ex wn.drew W') => And.intro (HHA.out W' (HE0.out.trans (HE2.out.drew.trans hb))) (And.intro ((Has.ex (w := wn.drew) (HB0.out.ex HE2.out.drew) hb).cell 0) (And.intro ((Has.ex (w := wn.drew) (HB1.out.ex HE2.out.drew) hb).cell 0) ((Has.ex (w := wn.drew) (HB1.out.ex HE2.out.drew) hb).cell 1))))
          refine wp_region_quiet (C := fun w' => Ex wn.drew w') (by kernel_rfl) (by kernel_rfl) (Ex.refl _) ?_
          refine BigFrame.wpQuiet_want (by rfl) fun K hK => ⟨?_, fun w' hC => ?_, hK _ ?_⟩
          rotate_left
          · (obtain ⟨⟨q0, q1, q2, q3, q4, q5⟩, q6, q7, q8⟩ := HSK.out _ hC; go_simp; first | done | with_reducible rfl | exact ⟨rfl, hC⟩)
          clear hK K
          simp only [Act.put, List.setIfInBounds_toArray, List.set_cons_zero, List.set_cons_succ]
          refine BigFrame.wpQuiet_want (by rfl) fun K hK => ⟨?_, fun w' hC => ?_, hK _ ?_⟩
          rotate_left
          · (obtain ⟨⟨q0, q1, q2, q3, q4, q5⟩, q6, q7, q8⟩ := HSK.out _ hC; go_simp; first | done | with_reducible rfl | exact ⟨rfl, hC⟩)
          clear hK K
          simp only [Act.put, List.setIfInBounds_toArray, List.set_cons_zero, List.set_cons_succ]
          refine BigFrame.wpQuiet_want (by rfl) fun K hK => ⟨?_, fun w' hC => ?_, hK _ ?_⟩
          rotate_left
          · (obtain ⟨⟨q0, q1, q2, q3, q4, q5⟩, q6, q7, q8⟩ := HSK.out _ hC; go_simp; first | done | with_reducible rfl | exact ⟨rfl, hC⟩)
          clear hK K
          simp only [Act.put, List.setIfInBounds_toArray, List.set_cons_zero, List.set_cons_succ]
          refine BigFrame.wpQuiet_want (by rfl) fun K hK => ⟨?_, fun w' hC => ?_, hK _ ?_⟩
          rotate_left
          · (obtain ⟨⟨q0, q1, q2, q3, q4, q5⟩, q6, q7, q8⟩ := HSK.out _ hC; go_simp; first | done | with_reducible rfl | exact ⟨rfl, hC⟩)
          clear hK K
          simp only [Act.put, List.setIfInBounds_toArray, List.set_cons_zero, List.set_cons_succ]
          refine BigFrame.wpQuiet_want (by rfl) fun K hK => ⟨?_, fun w' hC => ?_, hK _ ?_⟩
          rotate_left
          · (obtain ⟨⟨q0, q1, q2, q3, q4, q5⟩, q6, q7, q8⟩ := HSK.out _ hC; go_simp; first | done | with_reducible rfl | exact ⟨rfl, hC⟩)
          clear hK K
          simp only [Act.put, List.setIfInBounds_toArray, List.set_cons_zero, List.set_cons_succ]
          refine BigFrame.wpQuiet_want (by rfl) fun K hK => ⟨?_, fun w' hC => ?_, hK _ ?_⟩
          rotate_left
          · (obtain ⟨⟨q0, q1, q2, q3, q4, q5⟩, q6, q7, q8⟩ := HSK.out _ hC; go_simp; first | done | with_reducible rfl | exact ⟨rfl, hC⟩)
          clear hK K
          simp only [Act.put, List.setIfInBounds_toArray, List.set_cons_zero, List.set_cons_succ]
          refine BigFrame.wpQuiet_want (by rfl) fun K hK => ⟨?_, fun w' hC => ?_, hK _ ?_⟩
          rotate_left
          · (obtain ⟨⟨q0, q1, q2, q3, q4, q5⟩, q6, q7, q8⟩ := HSK.out _ hC; go_simp; first | done | with_reducible rfl | exact ⟨rfl, hC⟩)
          clear hK K
          simp only [Act.put, List.setIfInBounds_toArray, List.set_cons_zero, List.set_cons_succ]
          refine BigFrame.wpQuiet_want (by rfl) fun K hK => ⟨?_, fun w' hC => ?_, hK _ ?_⟩
          rotate_left
          · (obtain ⟨⟨q0, q1, q2, q3, q4, q5⟩, q6, q7, q8⟩ := HSK.out _ hC; go_simp; first | done | with_reducible rfl | exact ⟨rfl, hC⟩)
          clear hK K
          simp only [Act.put, List.setIfInBounds_toArray, List.set_cons_zero, List.set_cons_succ]
          refine BigFrame.wpQuiet_want (by rfl) fun K hK => ⟨?_, fun w' hC => ?_, hK _ ?_⟩
          rotate_left
          · (obtain ⟨⟨q0, q1, q2, q3, q4, q5⟩, q6, q7, q8⟩ := HSK.out _ hC; go_simp; first | done | with_reducible rfl | exact ⟨rfl, hC⟩)
          clear hK K
          simp only [Act.put, List.setIfInBounds_toArray, List.set_cons_zero, List.set_cons_succ]
          refine BigFrame.wpQuiet_want (by rfl) fun K hK => ⟨?_, fun w' hC => ?_, hK _ ?_⟩
          rotate_left
          · (obtain ⟨⟨q0, q1, q2, q3, q4, q5⟩, q6, q7, q8⟩ := HSK.out _ hC; go_simp; first | done | with_reducible rfl | exact ⟨rfl, hC⟩)
          clear hK K
          simp only [Act.put, List.setIfInBounds_toArray, List.set_cons_zero, List.set_cons_succ]
          refine BigFrame.wpQuiet_want (by rfl) fun K hK => ⟨?_, fun w' hC => ?_, hK _ ?_⟩
          rotate_left
          · (obtain ⟨⟨q0, q1, q2, q3, q4, q5⟩, q6, q7, q8⟩ := HSK.out _ hC; go_simp; first | done | with_reducible rfl | exact ⟨rfl, hC⟩)
          clear hK K
          simp only [Act.put, List.setIfInBounds_toArray, List.set_cons_zero, List.set_cons_succ]
          refine BigFrame.wpQuiet_want (by rfl) fun K hK => ⟨?_, fun w' hC => ?_, hK _ ?_⟩
          rotate_left
          · (obtain ⟨⟨q0, q1, q2, q3, q4, q5⟩, q6, q7, q8⟩ := HSK.out _ hC; go_simp; first | done | with_reducible rfl | exact ⟨rfl, hC⟩)
          clear hK K
          simp only [Act.put, List.setIfInBounds_toArray, List.set_cons_zero, List.set_cons_succ]
          refine BigFrame.wpQuiet_want (by rfl) fun K hK => ⟨?_, fun w' hC => ?_, hK _ ?_⟩
          rotate_left
          · (obtain ⟨⟨q0, q1, q2, q3, q4, q5⟩, q6, q7, q8⟩ := HSK.out _ hC; go_simp; first | done | with_reducible rfl | exact ⟨rfl, hC⟩)
          clear hK K
          simp only [Act.put, List.setIfInBounds_toArray, List.set_cons_zero, List.set_cons_succ]
          refine BigFrame.wpQuiet_want (by rfl) fun K hK => ⟨?_, fun w' hC => ?_, hK _ ?_⟩
          rotate_left
          · (obtain ⟨⟨q0, q1, q2, q3, q4, q5⟩, q6, q7, q8⟩ := HSK.out _ hC; go_simp; first | done | with_reducible rfl | exact ⟨rfl, hC⟩)
          clear hK K
          simp only [Act.put, List.setIfInBounds_toArray, List.set_cons_zero, List.set_cons_succ]
          refine BigFrame.wpQuiet_want (by rfl) fun K hK => ⟨?_, fun w' hC => ?_, hK _ ?_⟩
          rotate_left
          · (obtain ⟨⟨q0, q1, q2, q3, q4, q5⟩, q6, q7, q8⟩ := HSK.out _ hC; go_simp; first | done | with_reducible rfl | exact ⟨rfl, hC⟩)
          clear hK K
          simp only [Act.put, List.setIfInBounds_toArray, List.set_cons_zero, List.set_cons_succ]
          refine BigFrame.wpQuiet_want (by rfl) fun K hK => ⟨?_, fun w' hC => ?_, hK _ ?_⟩
          rotate_left
          · (obtain ⟨⟨q0, q1, q2, q3, q4, q5⟩, q6, q7, q8⟩ := HSK.out _ hC; go_simp; first | done | with_reducible rfl | exact ⟨rfl, hC⟩)
          clear hK K
          simp only [Act.put, List.setIfInBounds_toArray, List.set_cons_zero, List.set_cons_succ]
          refine BigFrame.wpQuiet_want (by rfl) fun K hK => ⟨?_, fun w' hC => ?_, hK _ ?_⟩
          rotate_left
          · (obtain ⟨⟨q0, q1, q2, q3, q4, q5⟩, q6, q7, q8⟩ := HSK.out _ hC; go_simp; first | done | with_reducible rfl | exact ⟨rfl, hC⟩)
          clear hK K
          simp only [Act.put, List.setIfInBounds_toArray, List.set_cons_zero, List.set_cons_succ]
          refine BigFrame.wpQuiet_want (by rfl) fun K hK => ⟨?_, fun w' hC => ?_, hK _ ?_⟩
          rotate_left
          · (obtain ⟨⟨q0, q1, q2, q3, q4, q5⟩, q6, q7, q8⟩ := HSK.out _ hC; go_simp; first | done | with_reducible rfl | exact ⟨rfl, hC⟩)
          clear hK K
          simp only [Act.put, List.setIfInBounds_toArray, List.set_cons_zero, List.set_cons_succ]
          refine BigFrame.wpQuiet_want (by rfl) fun K hK => ⟨?_, fun w' hC => ?_, hK _ ?_⟩
          rotate_left
          · (obtain ⟨⟨q0, q1, q2, q3, q4, q5⟩, q6, q7, q8⟩ := HSK.out _ hC; go_simp; first | done | with_reducible rfl | exact ⟨rfl, hC⟩)
          clear hK K
          simp only [Act.put, List.setIfInBounds_toArray, List.set_cons_zero, List.set_cons_succ]
          refine BigFrame.wpQuiet_want (by rfl) fun K hK => ⟨?_, fun w' hC => ?_, hK _ ?_⟩
          rotate_left
          · (obtain ⟨⟨q0, q1, q2, q3, q4, q5⟩, q6, q7, q8⟩ := HSK.out _ hC; go_simp; first | done | with_reducible rfl | exact ⟨rfl, hC⟩)
          clear hK K
          simp only [Act.put, List.setIfInBounds_toArray, List.set_cons_zero, List.set_cons_succ]
          refine BigFrame.wpQuiet_want (by rfl) fun K hK => ⟨?_, fun w' hC => ?_, hK _ ?_⟩
          rotate_left
          · (obtain ⟨⟨q0, q1, q2, q3, q4, q5⟩, q6, q7, q8⟩ := HSK.out _ hC; go_simp; first | done | with_reducible rfl | exact ⟨rfl, hC⟩)
          clear hK K
          simp only [Act.put, List.setIfInBounds_toArray, List.set_cons_zero, List.set_cons_succ]
          refine BigFrame.wpQuiet_want (by rfl) fun K hK => ⟨?_, fun w' hC => ?_, hK _ ?_⟩
          rotate_left
          · (obtain ⟨⟨q0, q1, q2, q3, q4, q5⟩, q6, q7, q8⟩ := HSK.out _ hC; go_simp; first | done | with_reducible rfl | exact ⟨rfl, hC⟩)
          clear hK K
          simp only [Act.put, List.setIfInBounds_toArray, List.set_cons_zero, List.set_cons_succ]
          refine BigFrame.wpQuiet_want (by rfl) fun K hK => ⟨?_, fun w' hC => ?_, hK _ ?_⟩
          rotate_left
          · (obtain ⟨⟨q0, q1, q2, q3, q4, q5⟩, q6, q7, q8⟩ := HSK.out _ hC; go_simp; first | done | with_reducible rfl | exact ⟨rfl, hC⟩)
          clear hK K
          simp only [Act.put, List.setIfInBounds_toArray, List.set_cons_zero, List.set_cons_succ]
          refine BigFrame.wpQuiet_want (by rfl) fun K hK => ⟨?_, fun w' hC => ?_, hK _ ?_⟩
          rotate_left
          · (obtain ⟨⟨q0, q1, q2, q3, q4, q5⟩, q6, q7, q8⟩ := HSK.out _ hC; go_simp; first | done | with_reducible rfl | exact ⟨rfl, hC⟩)
          clear hK K
          simp only [Act.put, List.setIfInBounds_toArray, List.set_cons_zero, List.set_cons_succ]
          refine BigFrame.wpQuiet_want (by rfl) fun K hK => ⟨?_, fun w' hC => ?_, hK _ ?_⟩
          rotate_left
          · (obtain ⟨⟨q0, q1, q2, q3, q4, q5⟩, q6, q7, q8⟩ := HSK.out _ hC; go_simp; first | done | with_reducible rfl | exact ⟨rfl, hC⟩)
          clear hK K
          simp only [Act.put, List.setIfInBounds_toArray, List.set_cons_zero, List.set_cons_succ]
          refine BigFrame.wpQuiet_want (by rfl) fun K hK => ⟨?_, fun w' hC => ?_, hK _ ?_⟩
          rotate_left
          · (obtain ⟨⟨q0, q1, q2, q3, q4, q5⟩, q6, q7, q8⟩ := HSK.out _ hC; go_simp; first | done | with_reducible rfl | exact ⟨rfl, hC⟩)
          clear hK K
          simp only [Act.put, List.setIfInBounds_toArray, List.set_cons_zero, List.set_cons_succ]
          refine BigFrame.wpQuiet_want (by rfl) fun K hK => ⟨?_, fun w' hC => ?_, hK _ ?_⟩
          rotate_left
          · (obtain ⟨⟨q0, q1, q2, q3, q4, q5⟩, q6, q7, q8⟩ := HSK.out _ hC; go_simp; first | done | with_reducible rfl | exact ⟨rfl, hC⟩)
          clear hK K
          simp only [Act.put, List.setIfInBounds_toArray, List.set_cons_zero, List.set_cons_succ]
          refine BigFrame.wpQuiet_want (by rfl) fun K hK => ⟨?_, fun w' hC => ?_, hK _ ?_⟩
          rotate_left
          · (obtain ⟨⟨q0, q1, q2, q3, q4, q5⟩, q6, q7, q8⟩ := HSK.out _ hC; go_simp; first | done | with_reducible rfl | exact ⟨rfl, hC⟩)
          clear hK K
          simp only [Act.put, List.setIfInBounds_toArray, List.set_cons_zero, List.set_cons_succ]
          refine BigFrame.wpQuiet_want (by rfl) fun K hK => ⟨.int .i64 (v : Int), fun w' hC => (by go_simp; refine (HMV.out w').mono ?_; rintro e w2 ⟨rfl, hb⟩; exact ⟨rfl, hC.trans hb⟩), hK _ ?_⟩
          clear hK K
          simp only [Act.put, List.setIfInBounds_toArray, List.set_cons_zero, List.set_cons_succ]
          refine BigFrame.wpQuiet_want (by rfl) fun K hK => ⟨?_, fun w' hC => ?_, hK _ ?_⟩
          rotate_left
          · (obtain ⟨⟨q0, q1, q2, q3, q4, q5⟩, q6, q7, q8⟩ := HSK.out _ hC; go_simp; first | done | with_reducible rfl | exact ⟨rfl, hC⟩)
          clear hK K
          simp only [Act.put, List.setIfInBounds_toArray, List.set_cons_zero, List.set_cons_succ]
          cases bv with
          | false =>
            refine wpQuiet_nil ?_
            intro w2 hC2
            have HC2 := Lib.hid hC2
            clear hC2
            go_wp2_with fail
            go_roundw
            case rel => exact ⟨j + 1, by omega, by go_num, Lib.hid (HE2.out.trans ((Ex.refl wn).drew.trans HC2.out)), Lib.hid fun l hl => by
              rcases Nat.lt_or_ge l j with h | h
              · exact HS2.out l h
              · obtain rfl : l = j := by omega
                exact HAT.out.2 (by have := HBV.out; simp at this; omega)⟩
            case measure => simp [intOf]; omega
          | true =>
            refine wpQuiet_nil ?_
            intro w2 hC2
            have HC2 := Lib.hid hC2
            clear hC2
            go_wp2_with fail
            go_ret
            exact ⟨by rw [crsB_false hlt hlt2 (fun h => by have h1 := HAT.out.1 h; have := HBV.out; simp at this; omega)]; rfl, HE0.out.trans (HE2.out.trans ((Ex.refl wn).drew.trans HC2.out))⟩
        · obtain rfl : j = t0.length := by omega
          go_wp2_with (go_at_call 78; refine (l01N_ex _ t0.length d0 _ (by omega)).mono ?_; rintro e wn ⟨rfl, he2⟩; have HE2 := Lib.hid (HF.out.trans he2); clear he2 c0)
          go_roundw
          case rel => exact ⟨k + 1, by omega, by go_num, HE2, Lib.hid fun i hi j' hj' => by
            rcases Nat.lt_or_ge i k with h | h
            · exact HS.out i h j' hj'
            · obtain rfl : i = k := by omega
              exact HS2.out j' hj'⟩
          case measure => simp [intOf]; omega
    · obtain rfl : k = t0.length := by omega
      go_wp2_with (go_at_call 78; refine (l01N_ex _ t0.length d0 _ (by omega)).mono ?_; rintro e wn ⟨rfl, he2⟩; have HE2 := Lib.hid (HE.out.trans he2); clear he2 c0)
      go_ret
      exact ⟨by rw [crsB_true HS.out]; rfl, HE0.out.trans HE2.out⟩

set_option maxRecDepth 100000 in
set_option maxHeartbeats 2000000 in
theorem l05Code_ex (B0 B1 B2 : Option Addr) (t0 : List (List Int)) (m : Int) (us fs : List Int) (d0 d1 d2 : Nat) (w : World) (hR : RwsW w B0 t0) (hX : IntsW w B1 us) (hF : IntsW w B2 fs) (hs : SmallT t0) (hu : us.length ≤ 1048576) (hf : fs.length ≤ 1048576) :
    Calls Try.prog 56 #[.agg #[.slice B0 t0.length d0], .agg #[.int .i64 m, .slice B1 us.length d1], .slice B2 fs.length d2] w fun e w' => e = .returned (.int .i64 (ncC t0 m us fs)) ∧ Ex w w' := by
  have e0 : Ex w ((w.alloc (.cells #[.slice B0 t0.length d0] 32)).alloc (.cells #[.int .i64 m, .slice B1 us.length d1] 34)) := ((Ex.refl w).alloc _).alloc _
  have b0 : Has ((w.alloc (.cells #[.slice B0 t0.length d0] 32)).alloc (.cells #[.int .i64 m, .slice B1 us.length d1] 34)) (w.heap.size) 32 #[.slice B0 t0.length d0] := ((Has.newAt (w := w) (e := 32) (cs := #[.slice B0 t0.length d0]) (k := w.heap.size) (by simp)).alloc _)
  have b1 : Has ((w.alloc (.cells #[.slice B0 t0.length d0] 32)).alloc (.cells #[.int .i64 m, .slice B1 us.length d1] 34)) (w.heap.size + 1) 34 #[.int .i64 m, .slice B1 us.length d1] := (Has.newAt (w := (w.alloc (.cells #[.slice B0 t0.length d0] 32))) (e := 34) (cs := #[.int .i64 m, .slice B1 us.length d1]) (k := w.heap.size + 1) (by simp))
  have HE0 := Lib.hid e0
  have HI := Lib.hid (l01Is_ex B0 t0 d0 _ (hR.ex e0) hs)
  have HR := Lib.hid (hR.ex e0)
  have HX := Lib.hid (hX.ex e0)
  have HF := Lib.hid (hF.ex e0)
  clear hR hX hF
  cases hg : grpB t0 with
  | false =>
    rw [hg] at HI
    have HC : Hid (gmB t0 m us = false) := Lib.hid (by rw [gmB, hg]; rfl)
    clear hg
    have c0 := b0.cell 0
    go_enter Try.func56, Try.ntmps56
    go_wp2_with fail
    generalize ((w.alloc (.cells #[.slice B0 t0.length d0] 32)).alloc (.cells #[.int .i64 m, .slice B1 us.length d1] 34)) = W0 at *
    refine HI.out.mono ?_
    rintro e W1 ⟨rfl, he1⟩
    go_wp2_with fail
    go_ret
    exact ⟨by rw [ncC_mod HC.out]; rfl, HE0.out.trans he1⟩
  | true =>
    rw [hg] at HI
    have HGB := Lib.hid hg
    have hgr := grpB_iff.1 hg
    have hn1 := hgr.n1
    have hn8 := hgr.n8
    have HM := Lib.hid (fun (w' : World) (he : Ex ((w.alloc (.cells #[.slice B0 t0.length d0] 32)).alloc (.cells #[.int .i64 m, .slice B1 us.length d1] 34)) w') => l02Is_ex B0 B1 t0 m us d0 d1 w' (HR.out.ex he) (HX.out.ex he) hgr hu)
    clear hg
    cases hmd : modB t0 m us with
    | false =>
      rw [hmd] at HM
      have HC : Hid (gmB t0 m us = false) := Lib.hid (by rw [gmB, hmd, Bool.and_false])
      clear hmd hgr
      go_enter Try.func56, Try.ntmps56
      go_wp2_with fail
      generalize ((w.alloc (.cells #[.slice B0 t0.length d0] 32)).alloc (.cells #[.int .i64 m, .slice B1 us.length d1] 34)) = W0 at *
      refine HI.out.mono ?_
      rintro e W1 ⟨rfl, he1⟩
      have c0 := (b0.ex he1).cell 0
      have c1 := (b1.ex he1).cell 0
      have c1' := (b1.ex he1).cell 1
      go_wp2_with fail
      refine (HM.out W1 he1).mono ?_
      rintro e W2 ⟨rfl, he2⟩
      go_wp2_with fail
      go_ret
      exact ⟨by rw [ncC_mod HC.out]; rfl, HE0.out.trans (he1.trans he2)⟩
    | true =>
      rw [hmd] at HM
      have HC : Hid (gmB t0 m us = true) := Lib.hid (by rw [gmB, HGB.out, hmd]; rfl)
      obtain ⟨M, rfl, hMF⟩ := gmB_f HC.out
      have hm2 := hMF.m2
      have hm12 := hMF.m12
      have HN := Lib.hid (fun (w' : World) (he : Ex _ w') => l05Numbers_any B0 B1 B2 t0 M us fs d0 d1 d2 w' hn8 hm2 hm12 (HF.out.ex he) hf)
      have HQ : Hid (ncC t0 (M : Int) us fs = if numB t0.length (M : Int) fs = true then 0 else 2) := Lib.hid (by rw [ncC, HC.out, if_pos rfl])
      obtain ⟨bv, hbv⟩ : ∃ b, numB t0.length (M : Int) fs = b := ⟨_, rfl⟩
      rw [hbv] at HN HQ
      clear hmd hgr hMF hbv
      go_enter Try.func56, Try.ntmps56
      go_wp2_with fail
      generalize ((w.alloc (.cells #[.slice B0 t0.length d0] 32)).alloc (.cells #[.int .i64 (M : Int), .slice B1 us.length d1] 34)) = W0 at *
      refine HI.out.mono ?_
      rintro e W1 ⟨rfl, he1⟩
      have c0 := (b0.ex he1).cell 0
      have c1 := (b1.ex he1).cell 0
      have c1' := (b1.ex he1).cell 1
      go_wp2_with fail
      refine (HM.out W1 he1).mono ?_
      rintro e W2 ⟨rfl, he2⟩
      have he12 := he1.trans he2
      have c02 := (b0.ex he12).cell 0
      have c12 := (b1.ex he12).cell 0
      have c12' := (b1.ex he12).cell 1
      clear c0 c1 c1'
      go_wp2_with fail
      refine (HN.out W2 he12).mono ?_
      rintro e W3 ⟨rfl, he3⟩
      have HE3 := Lib.hid (HE0.out.trans (he12.trans he3))
      clear c02 c12 c12' he1 he2 he12 he3 b0 b1 e0
      cases bv with
      | false =>
        go_wp2_with fail
        go_ret
        exact ⟨by rw [HQ.out]; rfl, HE3.out⟩
      | true =>
        go_wp2_with fail
        go_ret
        exact ⟨by rw [HQ.out]; rfl, HE3.out⟩

set_option maxRecDepth 100000 in
set_option maxHeartbeats 2000000 in
theorem l05Given_ex (B0 B1 B2 : Option Addr) (t0 : List (List Int)) (m : Int) (us fs : List Int) (d0 d1 d2 : Nat) (w : World) (hR : RwsW w B0 t0) (hX : IntsW w B1 us) (hF : IntsW w B2 fs) (hs : SmallT t0) (hu : us.length ≤ 1048576) (hf : fs.length ≤ 1048576) :
    Calls Try.prog 77 #[.agg #[.slice B0 t0.length d0], .agg #[.int .i64 m, .slice B1 us.length d1], .slice B2 fs.length d2] w fun e w' => e = .returned (.int .i64 (crC t0 m us fs)) ∧ Ex w w' := by
  have e0 : Ex w ((w.alloc (.cells #[.slice B0 t0.length d0] 32)).alloc (.cells #[.int .i64 m, .slice B1 us.length d1] 34)) := ((Ex.refl w).alloc _).alloc _
  have b0 : Has ((w.alloc (.cells #[.slice B0 t0.length d0] 32)).alloc (.cells #[.int .i64 m, .slice B1 us.length d1] 34)) (w.heap.size) 32 #[.slice B0 t0.length d0] := ((Has.newAt (w := w) (e := 32) (cs := #[.slice B0 t0.length d0]) (k := w.heap.size) (by simp)).alloc _)
  have b1 : Has ((w.alloc (.cells #[.slice B0 t0.length d0] 32)).alloc (.cells #[.int .i64 m, .slice B1 us.length d1] 34)) (w.heap.size + 1) 34 #[.int .i64 m, .slice B1 us.length d1] := (Has.newAt (w := (w.alloc (.cells #[.slice B0 t0.length d0] 32))) (e := 34) (cs := #[.int .i64 m, .slice B1 us.length d1]) (k := w.heap.size + 1) (by simp))
  have HC := Lib.hid (l05Code_ex B0 B1 B2 t0 m us fs d0 d1 d2 _ (hR.ex e0) (hX.ex e0) (hF.ex e0) hs hu hf)
  have HE0 := Lib.hid e0
  by_cases hg : ncC t0 m us fs = 0
  · obtain ⟨hg1, hg2⟩ := ncC_zero hg
    rw [hg] at HC
    obtain ⟨M, rfl, hMF⟩ := gmB_f hg1
    obtain ⟨hl, hr⟩ := numB_true hg2
    have HT := Lib.hid (fun W (he : Ex w W) => l05Crossed_any B0 B1 B2 t0 M us fs d0 d1 d2 W (hR.ex he) (hX.ex he) (hF.ex he) hMF hl hr)
    have HQ : Hid (crC t0 (M : Int) us fs = if crsB t0 M us fs = true then 0 else 5) := Lib.hid (by rw [crC, hg1, hg2, if_pos rfl, if_pos rfl, Int.toNat_natCast])
    obtain ⟨bv, hbv⟩ : ∃ b, crsB t0 M us fs = b := ⟨_, rfl⟩
    rw [hbv] at HT HQ
    clear hR hX hF hs hu hg hg1 hg2 hMF hr hbv hl
    go_enter Try.func77, Try.ntmps77
    go_wp2_with fail
    generalize ((w.alloc (.cells #[.slice B0 t0.length d0] 32)).alloc (.cells #[.int .i64 (M : Int), .slice B1 us.length d1] 34)) = W0 at *
    refine HC.out.mono ?_
    rintro e W1 ⟨rfl, he1⟩
    have c0 := (b0.ex he1).cell 0
    have c1 := (b1.ex he1).cell 0
    have c1' := (b1.ex he1).cell 1
    go_wp2_with fail
    refine (HT.out W1 (HE0.out.trans he1)).mono ?_
    rintro e W2 ⟨rfl, he2⟩
    have HE2 := Lib.hid (HE0.out.trans (he1.trans he2))
    clear b0 b1 c0 c1 c1' he1 he2 e0
    cases bv with
    | false =>
      go_wp2_with fail
      go_ret
      exact ⟨by rw [HQ.out]; rfl, HE2.out⟩
    | true =>
      go_wp2_with fail
      go_ret
      exact ⟨by rw [HQ.out]; rfl, HE2.out⟩
  · have HQ := Lib.hid (crC_nc hg)
    obtain ⟨z, hz⟩ : ∃ z, ncC t0 m us fs = z := ⟨_, rfl⟩
    rw [hz] at HC HQ hg
    have hzb : (z == 0) = false := by simpa using hg
    clear hR hX hF hg hz
    go_enter Try.func77, Try.ntmps77
    go_wp2_with fail
    generalize ((w.alloc (.cells #[.slice B0 t0.length d0] 32)).alloc (.cells #[.int .i64 m, .slice B1 us.length d1] 34)) = W0 at *
    refine HC.out.mono ?_
    rintro e W1 ⟨rfl, he1⟩
    go_wp2_with fail
    go_ret
    exact ⟨by rw [HQ.out]; rfl, HE0.out.trans he1⟩

end Go.Proofs.Ytfafccldngekgaa
