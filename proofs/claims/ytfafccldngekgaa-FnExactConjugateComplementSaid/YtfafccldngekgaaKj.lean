/- ConjugateComplement: the model's side. -/
import Derived.Test.YtfafccldngekgaaKd
import Derived.Test.YtfafccldngekgaaQt
import Derived.Test.YtfafccldngekgaaQb
namespace Go.Proofs.Ytfafccldngekgaa
open Go.RowKit

/-- The rest of -m by M. -/
def negR (M m : Nat) : Nat := (-(m : Int) % (M : Int)).toNat
theorem negR_spec {M m : Nat} (hM : 0 < M) : -(m : Int) % (M : Int) = (negR M m : Int) ∧ negR M m < M := by
  have h0 : 0 ≤ -(m : Int) % (M : Int) := Int.emod_nonneg _ (by omega)
  have h1 : -(m : Int) % (M : Int) < (M : Int) := Int.emod_lt_of_pos _ (by omega)
  unfold negR
  omega
/-- The conjugate of the pair at x. -/
def cjX (t : List (List Int)) (M m : Nat) (us ps : List Int) (x : Nat) : Int := (pairV t M us (pairV t M us m (im ps x)) (negR M m) : Int)
def cjL (t : List (List Int)) (N M m : Nat) (us ps : List Int) : List Int := (List.range N).map fun x => cjX t M m us ps x
theorem cjL_len (t : List (List Int)) (N M m : Nat) (us ps : List Int) : (cjL t N M m us ps).length = N := by simp [cjL]
theorem cjL_snoc (t : List (List Int)) (k M m : Nat) (us ps : List Int) : cjL t (k + 1) M m us ps = cjL t k M m us ps ++ [cjX t M m us ps k] := by simp [cjL, List.range_succ]
/-- The code. -/
noncomputable def cjC (t : List (List Int)) (m : Int) (us ps : List Int) (c : Int) : Int := if prC t m us ps = 0 then (if inB c 0 (m - 1) = true then (if cmB t m.toNat us ps = true then 0 else 5) else 2) else prC t m us ps
noncomputable def yConjugateComplement0 (t : List (List Int)) (m : Int) (us ps : List Int) (c : Int) : List Int := if cjC t m us ps c = 0 then cjL t ps.length m.toNat c.toNat us ps else []
noncomputable def qConjugateComplement1 (t : List (List Int)) (m : Int) (us ps : List Int) (c : Int) : Int := cjC t m us ps c
section
variable {t : List (List Int)} {m c : Int} {M C : Nat} {us ps : List Int}
theorem cj_code (h : ¬ prC t m us ps = 0) : yConjugateComplement0 t m us ps c = [] ∧ qConjugateComplement1 t m us ps c = prC t m us ps := by
  have hc : cjC t m us ps c = prC t m us ps := by rw [cjC, if_neg h]
  exact ⟨by rw [yConjugateComplement0, hc, if_neg h], hc⟩
theorem cj_out (h : prC t m us ps = 0) (h2 : inB c 0 (m - 1) = false) : yConjugateComplement0 t m us ps c = [] ∧ qConjugateComplement1 t m us ps c = 2 := by
  have hc : cjC t m us ps c = 2 := by rw [cjC, if_pos h, h2]; rfl
  exact ⟨by rw [yConjugateComplement0, hc]; rfl, hc⟩
theorem cj_no (h : prC t (M : Int) us ps = 0) (h2 : inB c 0 ((M : Int) - 1) = true) (h3 : cmB t M us ps = false) : yConjugateComplement0 t (M : Int) us ps c = [] ∧ qConjugateComplement1 t (M : Int) us ps c = 5 := by
  have hc : cjC t (M : Int) us ps c = 5 := by rw [cjC, if_pos h, if_pos h2, Int.toNat_natCast, h3]; rfl
  exact ⟨by rw [yConjugateComplement0, hc]; rfl, hc⟩
theorem cj_yes (h : prC t (M : Int) us ps = 0) (h2 : inB (C : Int) 0 ((M : Int) - 1) = true) (h3 : cmB t M us ps = true) : yConjugateComplement0 t (M : Int) us ps (C : Int) = cjL t ps.length M C us ps ∧ qConjugateComplement1 t (M : Int) us ps (C : Int) = 0 := by
  have hc : cjC t (M : Int) us ps (C : Int) = 0 := by rw [cjC, if_pos h, if_pos h2, Int.toNat_natCast, if_pos h3]
  exact ⟨by rw [yConjugateComplement0, hc, if_pos rfl, Int.toNat_natCast, Int.toNat_natCast], hc⟩
theorem cmB_length (h : cmB t M us ps = true) : ps.length = t.length := by
  simp only [cmB, Bool.and_eq_true, decide_eq_true_eq] at h
  exact h.1
theorem conjugateComplement_small0 (t : List (List Int)) (m : Int) (us ps : List Int) (c : Int) : (yConjugateComplement0 t m us ps c).length ≤ 1048576 := by
  unfold yConjugateComplement0
  split
  · rename_i h
    unfold cjC at h
    split at h
    · rename_i hp
      split at h
      · split at h
        · rename_i h3
          obtain ⟨M, _, hF⟩ := gmB_f (prC_zero hp).1
          have := hF.g.n8
          have := cmB_length h3
          rw [cjL_len]
          omega
        · cases h
      · cases h
    · rename_i hp
      exact absurd h hp
  · simp
end

set_option maxRecDepth 100000 in
set_option maxHeartbeats 8000000 in
theorem specConjugateComplement_ex (t0 : List (List Int)) (m1 : Int) (t1 : List Int) (t2 : List Int) (m3 : Int) : ∀ (B0 : Option Addr) (d0 : Nat) (B1 : Option Addr) (d1 : Nat) (B2 : Option Addr) (d2 : Nat) (W : World), RwsW W B0 t0 → IntsW W B1 t1 → IntsW W B2 t2 → SmallT t0 → t1.length ≤ 1048576 → t2.length ≤ 1048576 →
    Calls Try.prog 41 #[.agg #[.slice B0 t0.length d0], .agg #[.int .i64 m1, .slice B1 t1.length d1], .slice B2 t2.length d2, .int .i64 m3] W fun e W' => ∃ (C0 : Option Addr) (e0 : Nat), e = .returned (.tuple #[.slice C0 (yConjugateComplement0 t0 m1 t1 t2 m3).length e0, .int .i64 (qConjugateComplement1 t0 m1 t1 t2 m3)]) ∧ Ex W W' ∧ OwnL W' W.heap.size W'.heap.size C0 (yConjugateComplement0 t0 m1 t1 t2 m3) := by
  intro B0 d0 B1 d1 B2 d2 w hR hX hF hs hu hf
  obtain ⟨i0, hi, hi0, hi1, hi2⟩ := info_parts infoI
  have e0 : Ex w ((w.alloc (.cells #[.slice B0 t0.length d0] 32)).alloc (.cells #[.int .i64 m1, .slice B1 t1.length d1] 34)) := ((Ex.refl w).alloc _).alloc _
  have b0 : Has ((w.alloc (.cells #[.slice B0 t0.length d0] 32)).alloc (.cells #[.int .i64 m1, .slice B1 t1.length d1] 34)) (w.heap.size) 32 #[.slice B0 t0.length d0] := ((Has.newAt (w := w) (e := 32) (cs := #[.slice B0 t0.length d0]) (k := w.heap.size) (by simp)).alloc _)
  have b1 : Has ((w.alloc (.cells #[.slice B0 t0.length d0] 32)).alloc (.cells #[.int .i64 m1, .slice B1 t1.length d1] 34)) (w.heap.size + 1) 34 #[.int .i64 m1, .slice B1 t1.length d1] := (Has.newAt (w := (w.alloc (.cells #[.slice B0 t0.length d0] 32))) (e := 34) (cs := #[.int .i64 m1, .slice B1 t1.length d1]) (k := w.heap.size + 1) (by simp))
  have HC := Lib.hid (l05Pairs_ex B0 B1 B2 t0 m1 t1 t2 d0 d1 d2 _ (hR.ex e0) (hX.ex e0) (hF.ex e0) hs hu hf)
  have HE0 := Lib.hid e0
  by_cases hg : prC t0 m1 t1 t2 = 0
  · obtain ⟨hg1, hg2⟩ := prC_zero hg
    obtain ⟨M, rfl, hm⟩ := gmB_f hg1
    have hgz := hg
    rw [hg] at HC
    have hN1 := hm.g.n1
    have hN8 := hm.g.n8
    have hM2 := hm.m2
    have hM12 := hm.m12
    have hw : IntKind.i64.wrap ((M : Int) - 1) = (M : Int) - 1 := IntWalk.i64_in _ (by omega)
    have HIN := Lib.hid (fun W => l01In_e m3 0 ((M : Int) - 1) W)
    have hrp := below_pairs hg2
    have HT := Lib.hid (fun W (he : Ex w W) => l05Complement_any B0 B1 B2 t0 M t1 t2 d0 d1 d2 W (hR.ex he) (hX.ex he) (hF.ex he) hm hrp hf)
    cases hib : inB m3 0 ((M : Int) - 1) with
    | false =>
      rw [hib] at HIN
      have HQ := Lib.hid (cj_out hgz hib)
      clear hR hX hF hs hu hf hg hgz hg1 hg2 hm hib hrp HT
      go_enter Try.func41, Try.ntmps41
      go_wp2_with fail
      generalize ((w.alloc (.cells #[.slice B0 t0.length d0] 32)).alloc (.cells #[.int .i64 (M : Int), .slice B1 t1.length d1] 34)) = W0 at *
      refine HC.out.mono ?_
      rintro e W1 ⟨rfl, he1⟩
      have c1 := (b1.ex he1).cell 0
      go_wp2_with fail
      refine (HIN.out _).mono ?_
      rintro e W2 ⟨rfl, he2⟩
      go_wp2_with fail
      go_ret2
      exact ⟨none, 0, by rw [HQ.out.1, HQ.out.2]; rfl, HE0.out.trans (he1.trans he2), by rw [HQ.out.1]; exact OwnL.nil _ _ _ (Nat.le_refl _)⟩
    | true =>
      rw [hib] at HIN
      obtain ⟨hp0, hp1⟩ := inB_true hib
      obtain ⟨P, rfl⟩ : ∃ P : Nat, m3 = (P : Int) := ⟨m3.toNat, by omega⟩
      cases hcb : cmB t0 M t1 t2 with
      | false =>
        rw [hcb] at HT
        have HQ := Lib.hid (cj_no hgz hib hcb)
        clear hR hX hF hs hu hf hg hgz hg1 hg2 hm hib hrp hcb
        go_enter Try.func41, Try.ntmps41
        go_wp2_with fail
        generalize ((w.alloc (.cells #[.slice B0 t0.length d0] 32)).alloc (.cells #[.int .i64 (M : Int), .slice B1 t1.length d1] 34)) = W0 at *
        refine HC.out.mono ?_
        rintro e W1 ⟨rfl, he1⟩
        have c1 := (b1.ex he1).cell 0
        go_wp2_with fail
        refine (HIN.out _).mono ?_
        rintro e W2 ⟨rfl, he2⟩
        have he12 := he1.trans he2
        have c02 := (b0.ex he12).cell 0
        have c12 := (b1.ex he12).cell 0
        have c12' := (b1.ex he12).cell 1
        clear c1
        go_wp2_with fail
        refine (HT.out W2 (HE0.out.trans he12)).mono ?_
        rintro e W3 ⟨rfl, he3⟩
        go_wp2_with fail
        go_ret2
        exact ⟨none, 0, by rw [HQ.out.1, HQ.out.2]; rfl, HE0.out.trans (he12.trans he3), by rw [HQ.out.1]; exact OwnL.nil _ _ _ (Nat.le_refl _)⟩
      | true =>
        rw [hcb] at HT
        have HQ := Lib.hid (cj_yes hgz hib hcb)
        have hl8 : t2.length ≤ 8 := by rw [cmB_length hcb]; exact hN8
        have hMN : M * 1 ≤ M * t0.length := Nat.mul_le_mul_left M hN1
        have hPM : P < M * t0.length := by omega
        have hK96 : M * t0.length ≤ 96 := Nat.le_trans (Nat.mul_le_mul hM12 hN8) (by omega)
        obtain ⟨hne, hnl⟩ := negR_spec (M := M) (m := P) (by omega)
        have hnM : negR M P < M * t0.length := by omega
        obtain ⟨bf, of, rfl, hbf, -⟩ := hF.ints.at_ (j := 0) (by rw [cmB_length hcb]; omega)
        have HU := Lib.hid (fun k (hk : k < t2.length) => (⟨(im_eq hrp hk).2, by rw [← (im_eq hrp hk).1]; exact ints_cell hF.ints hk⟩ : im t2 k < M * t0.length ∧ w.cell? ⟨bf, of + k, none⟩ = some (.int .i64 (im t2 k : Int))))
        have HM1 := Lib.hid (fun k (hk : k < t2.length) W (he : Ex w W) => l05Times_any B0 B1 t0 M t1 d0 d1 P (im t2 k) W (hR.ex he) (hX.ex he) hm hPM (im_eq hrp hk).2)
        have HM2 := Lib.hid (fun k (hk : k < t2.length) W (he : Ex w W) => l05Times_any B0 B1 t0 M t1 d0 d1 (pairV t0 M t1 P (im t2 k)) (negR M P) W (hR.ex he) (hX.ex he) hm (pairV_lt hm hPM (im_eq hrp hk).2) hnM)
        have hwP : IntKind.i64.wrap (-(P : Int)) = -(P : Int) := IntWalk.i64_in _ (by omega)
        have HMD := Lib.hid (fun W => hne ▸ l01Mod_ex (-(P : Int)) M W (by omega) hM12 (by omega) (by omega))
        have HSN := Lib.hid (fun k => cjL_snoc t0 k M P t1 t2)
        have HCJ : Hid (∀ k, cjX t0 M P t1 t2 k = (pairV t0 M t1 (pairV t0 M t1 P (im t2 k)) (negR M P) : Int)) := Lib.hid fun _ => rfl
        obtain ⟨r, hre⟩ : ∃ r, negR M P = r := ⟨_, rfl⟩
        rw [hre] at HMD hnl
        simp only [hre] at HM2 HCJ
        clear hR hX hF hs hu hf hg hgz hg1 hg2 hm hib hrp hcb hre hne hnM hPM hw hp0 hp1
        have hw : IntKind.i64.wrap ((M : Int) - 1) = (M : Int) - 1 := IntWalk.i64_in _ (by omega)
        go_enter Try.func41, Try.ntmps41
        go_wp2_with fail
        generalize ((w.alloc (.cells #[.slice B0 t0.length d0] 32)).alloc (.cells #[.int .i64 (M : Int), .slice B1 t1.length d1] 34)) = W0 at *
        refine HC.out.mono ?_
        rintro e W1 ⟨rfl, he1⟩
        have c1 := (b1.ex he1).cell 0
        go_wp2_with fail
        refine (HIN.out _).mono ?_
        rintro e W2 ⟨rfl, he2⟩
        have he12 := he1.trans he2
        have c02 := (b0.ex he12).cell 0
        have c12 := (b1.ex he12).cell 0
        have c12' := (b1.ex he12).cell 1
        clear c1
        go_wp2_with fail
        refine (HT.out W2 (HE0.out.trans he12)).mono ?_
        rintro e W3 ⟨rfl, he3⟩
        have he13 := he12.trans he3
        have g0 := GrowI.empty (lo := w.heap.size) W3 (e0.trans he13).size
        have HB0 := Lib.hid ((b0.ex he13).alloc (.cells #[] 2))
        have HB1 := Lib.hid ((b1.ex he13).alloc (.cells #[] 2))
        have HE1 := Lib.hid ((e0.trans he13).alloc (.cells #[] 2))
        have HG0 := Lib.hid g0
        clear b0 b1 e0 g0 he1 he2 he3 he12 he13 c02 c12 c12'
        go_wp2_with fail
        generalize W3.alloc (.cells #[] 2) = W4 at *
        go_loopw [11, 12] (fun v i wr => ∃ k : Nat, k ≤ t2.length ∧ i = .int .i64 (k : Int) ∧ Hid (Ex w wr) ∧ Hid (Has wr w.heap.size 32 #[.slice B0 t0.length d0]) ∧ Hid (Has wr (w.heap.size + 1) 34 #[.int .i64 (M : Int), .slice B1 t1.length d1]) ∧ Hid (GrowI wr w.heap.size v k (cjL t0 k M P t1 t2))) (fun _ i _ => t2.length - (intOf i).toNat)
        case atStart => exact ⟨0, Nat.zero_le _, rfl, HE1, HB0, HB1, Lib.hid (by exact HG0.out)⟩
        case round =>
          obtain ⟨k, hk, rfl, HE', HA, HB, HG'⟩ := hrel
          by_cases hlt : k < t2.length
          · obtain ⟨hpk, hfc⟩ := HU.out k hlt
            have HPS := Lib.hid (HSN.out k)
            have HPX := Lib.hid (HCJ.out k)
            have HM1k := Lib.hid (fun W he => HM1.out k hlt W he)
            have HM2k := Lib.hid (fun W he => HM2.out k hlt W he)
            obtain ⟨p, hpe⟩ : ∃ p, im t2 k = p := ⟨_, rfl⟩
            rw [hpe] at hpk hfc HPX HM1k
            simp only [hpe] at HM2k
            obtain ⟨v1, hv1⟩ : ∃ v1, pairV t0 M t1 P p = v1 := ⟨_, rfl⟩
            rw [hv1] at HPX HM1k
            simp only [hv1] at HM2k
            obtain ⟨v2, hv2⟩ : ∃ v2, pairV t0 M t1 v1 r = v2 := ⟨_, rfl⟩
            rw [hv2] at HPX
            simp only [hv2] at HM2k
            rw [HPX.out] at HPS
            have HUC := Lib.hid hfc
            have hkz : (0 : Int) ≤ (k : Int) := by omega
            have hkn : (k : Int) < (t2.length : Int) := by omega
            have HE6' := Lib.hid HE'.out.drew
            have hA' := HA.out.ex (Ex.refl wr).drew
            have hB' := HB.out.ex (Ex.refl wr).drew
            have hC0 := And.intro (hA'.cell 0) (And.intro (hB'.cell 0) (And.intro (hB'.cell 1) ((HE6'.out.below.cell (p := ⟨bf, of + k, none⟩) hbf).trans hfc)))
            clear hpe hv1 hv2 hfc hA' hB'
            go_wp2_with fail
            refine Late.region (C := fun w' => w'.cell? ⟨w.heap.size, 0, none⟩ = some (.slice B0 t0.length d0) ∧ w'.cell? ⟨w.heap.size + 1, 0, none⟩ = some (.int .i64 (M : Int)) ∧ w'.cell? ⟨w.heap.size + 1, 1, none⟩ = some (.slice B1 t1.length d1) ∧ w'.cell? ⟨bf, of + k, none⟩ = some (.int .i64 (p : Int))) (fun j => decide (j < 19)) (by kernel_rfl) hC0 (fun hC => ?_)
            refine Late.take (i := 0) (oi := _) (v := ?_) rfl (by kernel_rfl) (by kernel_rfl) (by kernel_rfl) (by kernel_rfl) (fun _ _ _ h => h) (Or.inl ⟨by rfl, ?_⟩) hC ?_
            rotate_left
            · (intro w hSw; (try dsimp only at hSw); go_simp; first | done | with_reducible rfl)
            simp only [Act.put]
            refine Late.take (i := 1) (oi := _) (v := ?_) rfl (by kernel_rfl) (by kernel_rfl) (by kernel_rfl) (by kernel_rfl) (fun _ _ _ h => h) (Or.inl ⟨by rfl, ?_⟩) hC ?_
            rotate_left
            · (intro w hSw; (try dsimp only at hSw); go_simp; first | done | with_reducible rfl)
            simp only [Act.put]
            refine Late.take (i := 2) (oi := _) (v := ?_) rfl (by kernel_rfl) (by kernel_rfl) (by kernel_rfl) (by kernel_rfl) (fun _ _ _ h => h) (Or.inl ⟨by rfl, ?_⟩) hC ?_
            rotate_left
            · (intro w hSw; (try dsimp only at hSw); go_simp; first | done | with_reducible rfl)
            simp only [Act.put]
            refine Late.take (i := 3) (oi := _) (v := ?_) rfl (by kernel_rfl) (by kernel_rfl) (by kernel_rfl) (by kernel_rfl) (fun _ _ _ h => h) (Or.inl ⟨by rfl, ?_⟩) hC ?_
            rotate_left
            · (intro w hSw; (try dsimp only at hSw); go_simp; first | done | with_reducible rfl)
            simp only [Act.put]
            refine Late.take (i := 4) (oi := _) (v := ?_) rfl (by kernel_rfl) (by kernel_rfl) (by kernel_rfl) (by kernel_rfl) (fun _ _ _ h => h) (Or.inl ⟨by rfl, ?_⟩) hC ?_
            rotate_left
            · (intro w hSw; (try dsimp only at hSw); go_simp; first | done | with_reducible rfl)
            simp only [Act.put]
            refine Late.take (i := 5) (oi := _) (v := ?_) rfl (by kernel_rfl) (by kernel_rfl) (by kernel_rfl) (by kernel_rfl) (fun _ _ _ h => h) (Or.inl ⟨by rfl, ?_⟩) hC ?_
            rotate_left
            · (intro w hSw; (try dsimp only at hSw); go_simp; first | done | with_reducible rfl)
            simp only [Act.put]
            refine Late.take (i := 6) (oi := _) (v := ?_) rfl (by kernel_rfl) (by kernel_rfl) (by kernel_rfl) (by kernel_rfl) (fun _ _ _ h => h) (Or.inl ⟨by rfl, ?_⟩) hC ?_
            rotate_left
            · (intro w hSw; (try dsimp only at hSw); go_simp; first | done | with_reducible rfl)
            simp only [Act.put]
            refine Late.take (i := 7) (oi := _) (v := ?_) rfl (by kernel_rfl) (by kernel_rfl) (by kernel_rfl) (by kernel_rfl) (fun _ _ _ h => h) (Or.inl ⟨by rfl, ?_⟩) hC ?_
            rotate_left
            · (intro w hSw; (try dsimp only at hSw); go_simp; first | done | with_reducible rfl)
            simp only [Act.put]
            refine Late.take (i := 8) (oi := _) (v := ?_) rfl (by kernel_rfl) (by kernel_rfl) (by kernel_rfl) (by kernel_rfl) (fun _ _ _ h => h) (Or.inl ⟨by rfl, ?_⟩) hC ?_
            rotate_left
            · (intro w hSw; (try dsimp only at hSw); go_simp; first | done | with_reducible rfl)
            simp only [Act.put]
            refine Late.take (i := 9) (oi := _) (v := ?_) rfl (by kernel_rfl) (by kernel_rfl) (by kernel_rfl) (by kernel_rfl) (fun _ _ _ h => h) (Or.inl ⟨by rfl, ?_⟩) hC ?_
            rotate_left
            · (intro w hSw; (try dsimp only at hSw); go_simp; first | done | with_reducible rfl)
            simp only [Act.put]
            refine Late.take (i := 11) (oi := _) (v := ?_) rfl (by kernel_rfl) (by kernel_rfl) (by kernel_rfl) (by kernel_rfl) (fun _ _ _ h => h) (Or.inl ⟨by rfl, ?_⟩) hC ?_
            rotate_left
            · (intro w hSw; (try dsimp only at hSw); go_simp; first | done | with_reducible rfl)
            simp only [Act.put]
            refine Late.take (i := 12) (oi := _) (v := ?_) rfl (by kernel_rfl) (by kernel_rfl) (by kernel_rfl) (by kernel_rfl) (fun _ _ _ h => h) (Or.inl ⟨by rfl, ?_⟩) hC ?_
            rotate_left
            · (intro w hSw; (try dsimp only at hSw); go_simp; first | done | with_reducible rfl)
            simp only [Act.put]
            refine Late.take (i := 13) (oi := _) (v := ?_) rfl (by kernel_rfl) (by kernel_rfl) (by kernel_rfl) (by kernel_rfl) (fun _ _ _ h => h) (Or.inl ⟨by rfl, ?_⟩) hC ?_
            rotate_left
            · (intro w hSw; (try dsimp only at hSw); go_simp; first | done | with_reducible rfl)
            simp only [Act.put]
            refine Late.take (i := 14) (oi := _) (v := ?_) rfl (by kernel_rfl) (by kernel_rfl) (by kernel_rfl) (by kernel_rfl) (fun _ _ _ h => h) (Or.inl ⟨by rfl, ?_⟩) hC ?_
            rotate_left
            · (intro w hSw; (try dsimp only at hSw); go_simp; first | done | with_reducible rfl)
            simp only [Act.put]
            refine Late.one (i := 10) (o := _) (by kernel_rfl) rfl (fun K' hK' => ?_)
            go_simp
            refine (HM1k.out _ HE6'.out).mono ?_
            rintro e W6 ⟨rfl, he6⟩
            have hx6 : Ex wr W6 := (Ex.refl wr).drew.trans he6
            have hA6 := HA.out.ex hx6
            have hB6 := HB.out.ex hx6
            have hC6 := And.intro (hA6.cell 0) (And.intro (hB6.cell 0) (And.intro (hB6.cell 1) (((HE'.out.trans hx6).below.cell (p := ⟨bf, of + k, none⟩) hbf).trans HUC.out)))
            refine hK'.out _ _ (fun _ => hC6) (fun _ => ?_)
            clear hK' K' hC hC0 hA6 hB6
            try simp only [Act.put, List.setIfInBounds_toArray, List.set_cons_zero, List.set_cons_succ]
            refine Late.one (i := 15) (o := _) (by kernel_rfl) rfl (fun K' hK' => ?_)
            go_simp
            refine (HMD.out _).mono ?_
            rintro e W7 ⟨rfl, he7⟩
            have hx7 : Ex wr W7 := hx6.trans he7
            have hA7 := HA.out.ex hx7
            have hB7 := HB.out.ex hx7
            have hC7 := And.intro (hA7.cell 0) (And.intro (hB7.cell 0) (And.intro (hB7.cell 1) (((HE'.out.trans hx7).below.cell (p := ⟨bf, of + k, none⟩) hbf).trans HUC.out)))
            refine hK'.out _ _ (fun _ => hC7) (fun _ => ?_)
            clear hK' K' hC6 hA7 hB7 he6 hx6
            try simp only [Act.put, List.setIfInBounds_toArray, List.set_cons_zero, List.set_cons_succ]
            refine Late.one (i := 16) (o := _) (by kernel_rfl) rfl (fun K' hK' => ?_)
            go_simp
            refine (HM2k.out _ (HE'.out.trans hx7)).mono ?_
            rintro e W8 ⟨rfl, he8⟩
            have hx8 : Ex wr W8 := hx7.trans he8
            have HE := Lib.hid (HE'.out.trans hx8)
            have HA8 := Lib.hid (HA.out.ex hx8)
            have HB8 := Lib.hid (HB.out.ex hx8)
            have HG := Lib.hid (HG'.out.ex hx8)
            have huc8 := (HE.out.below.cell (p := ⟨bf, of + k, none⟩) hbf).trans HUC.out
            have hbx8 : bf < W8.heap.size := Nat.lt_of_lt_of_le hbf HE.out.size
            refine hK'.out _ _ (fun _ => ⟨HA8.out.cell 0, HB8.out.cell 0, HB8.out.cell 1, huc8⟩) (fun _ => ?_)
            clear hK' K' hC7 he7 hx7 he8 hx8
            try simp only [Act.put, List.setIfInBounds_toArray, List.set_cons_zero, List.set_cons_succ]
            refine Late.one (i := 17) (o := _) (by kernel_rfl) rfl (fun K' hK' => ?_)
            go_simp
            have e1 := HE.out.alloc (.cells #[.int .i64 (v2 : Int)] 2)
            have HA81 := HA8.out.alloc (.cells #[.int .i64 (v2 : Int)] 2)
            have HB81 := HB8.out.alloc (.cells #[.int .i64 (v2 : Int)] 2)
            have g1 := HG.out.ex (Ex.new W8 (.cells #[.int .i64 (v2 : Int)] 2))
            have hn1 := cell_one_new W8 (.int .i64 (v2 : Int)) 2
            have hz1 : W8.heap.size + 1 = (W8.alloc (.cells #[.int .i64 (v2 : Int)] 2)).heap.size := by simp
            have hx1 := Ex.new W8 (.cells #[.int .i64 (v2 : Int)] 2)
            refine hK'.out _ _ (fun _ => ⟨HA81.cell 0, HB81.cell 0, HB81.cell 1, (hx1.below.cell (p := ⟨bf, of + k, none⟩) hbx8).trans huc8⟩) (fun _ => ?_)
            clear hK' K'
            generalize W8.alloc (.cells #[.int .i64 (v2 : Int)] 2) = w1 at *
            try simp only [Act.put, List.setIfInBounds_toArray, List.set_cons_zero, List.set_cons_succ]
            refine Late.one (i := 18) (o := _) (by kernel_rfl) rfl (fun K' hK' => ?_)
            rw [if_pos (by rfl)]
            refine wp_append_own _ _ _ 25 rfl w.heap.size 2 i0 (.int .i64 0) 1 8 Try.underlying25 hi hi0 hi1 hi2 rfl (by decide) _ _ _ rfl g1.1 ⟨W8.heap.size, 0, none⟩ 1 1 [.int .i64 (v2 : Int)] rfl rfl hn1 (by simp [Value.oneCell']) (by unfold maxLen; omega) (by omega) (by have := e1.size; omega) ?_
            intro v' w3 hown3 hgrow3 _
            have HE3 := Lib.hid (Ex.grew e1 g1 (Nat.le_refl _) hgrow3)
            have HA83 := Lib.hid (Has.grew HA81 (by decide) g1 hgrow3)
            have HB83 := Lib.hid (Has.grew HB81 (by decide) g1 hgrow3)
            have HG3 := Lib.hid (g1.snoc hown3)
            refine hK'.out _ _ (fun _ => ⟨HA83.out.cell 0, HB83.out.cell 0, HB83.out.cell 1, (HE3.out.below.cell (p := ⟨bf, of + k, none⟩) hbf).trans HUC.out⟩) (fun _ => ?_)
            clear hK' K' hown3 hgrow3 g1 e1 hn1 hx1 HA81 HB81
            try simp only [Act.put]
            refine Late.one (i := 19) (o := _) (by kernel_rfl) rfl (fun K' hK' => ?_)
            go_simp
            refine hK'.out _ _ (fun h => by cases h) (fun _ => ?_)
            clear hK' K'
            try simp only [Act.put, List.setIfInBounds_toArray, List.set_cons_zero, List.set_cons_succ]
            refine Late.done (by kernel_rfl) ?_ _
            go_wp2_with fail
            go_roundw
            case rel => exact ⟨k + 1, by omega, by go_num, HE3, HA83, HB83, by rw [HPS.out]; exact HG3⟩
            case measure => simp [intOf]; omega
          · obtain rfl : k = t2.length := by omega
            obtain ⟨A', n', rfl, hO⟩ := HG'.out.own
            have HO := Lib.hid hO
            clear hO
            go_wp2_with fail
            go_ret2
            exact ⟨A', n', by rw [HQ.out.1, HQ.out.2]; rfl, HE'.out, by rw [HQ.out.1]; exact HO.out⟩
  · have HQ := Lib.hid (cj_code (c := m3) hg)
    obtain ⟨z, hz⟩ : ∃ z, prC t0 m1 t1 t2 = z := ⟨_, rfl⟩
    rw [hz] at HC HQ hg
    have hzb : (z != 0) = true := by simpa using hg
    have hzb2 : (z == 0) = false := by simpa using hg
    clear hR hX hF hg hz
    go_enter Try.func41, Try.ntmps41
    go_wp2_with fail
    generalize ((w.alloc (.cells #[.slice B0 t0.length d0] 32)).alloc (.cells #[.int .i64 m1, .slice B1 t1.length d1] 34)) = W0 at *
    refine HC.out.mono ?_
    rintro e W1 ⟨rfl, he1⟩
    go_wp2_with fail
    go_ret2
    exact ⟨none, 0, by rw [HQ.out.1, HQ.out.2]; rfl, HE0.out.trans he1, by rw [HQ.out.1]; exact OwnL.nil _ _ _ (Nat.le_refl _)⟩

end Go.Proofs.Ytfafccldngekgaa
