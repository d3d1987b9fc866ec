/- Complements: both sides' tests, IsComplement. -/
import Derived.Test.YtfafccldngekgaaKm
import Derived.Test.YtfafccldngekgaaQa
namespace Go.Proofs.Ytfafccldngekgaa
open Go.RowKit

/-- The numbers of the first k pairs. -/
def numL (k M : Nat) (ps : List Int) : List Int := (List.range k).map fun x => ((im ps x % M : Nat) : Int)
theorem numL_len (k M : Nat) (ps : List Int) : (numL k M ps).length = k := by simp [numL]
theorem numL_snoc (k M : Nat) (ps : List Int) : numL (k + 1) M ps = numL k M ps ++ [((im ps k % M : Nat) : Int)] := by simp [numL, List.range_succ]
theorem numL_in {k M : Nat} {ps : List Int} (hM : 0 < M) : InR M (numL k M ps) := fun i hi => by
  rw [numL_len] at hi
  have h : nth (numL k M ps) i = ((im ps i % M : Nat) : Int) := by simp [nth, numL, hi]
  rw [h]
  have := Nat.mod_lt (im ps i) hM
  omega
open Classical in
/-- Are pairs a complement? -/
noncomputable def cmB (t : List (List Int)) (M : Nat) (us ps : List Int) : Bool := decide (ps.length = t.length) && (decide (∀ x, x < t.length → im ps x / M = x) && crsB t M us (numL t.length M ps))
section
variable {t : List (List Int)} {M : Nat} {us ps : List Int}
theorem cmB_len (h : ¬ ps.length = t.length) : cmB t M us ps = false := by rw [cmB, decide_eq_false h, Bool.false_and]
theorem cmB_el {x : Nat} (hx : x < t.length) (h : ¬ im ps x / M = x) : cmB t M us ps = false := by
  simp only [cmB, Bool.and_eq_false_iff, decide_eq_false_iff_not]
  exact .inr (.inl fun k => h (k x hx))
theorem cmB_crs (h : ps.length = t.length) (h2 : ∀ x, x < t.length → im ps x / M = x) : cmB t M us ps = crsB t M us (numL t.length M ps) := by
  have e1 : cmB t M us ps = true ↔ crsB t M us (numL t.length M ps) = true := by
    simp only [cmB, Bool.and_eq_true, decide_eq_true_eq]
    exact ⟨fun k => k.2.2, fun k => ⟨h, h2, k⟩⟩
  exact Bool.eq_iff_iff.2 e1
theorem below_pairs {M : Nat} (h : belowB ((M : Int) * (t.length : Int)) ps = true) : InR (M * t.length) ps := by
  rw [show (M : Int) * (t.length : Int) = ((M * t.length : Nat) : Int) by simp] at h
  exact belowB_inR h
end

set_option maxRecDepth 100000 in
set_option maxHeartbeats 4000000 in
theorem l05Complement_any (B0 B1 B2 : Option Addr) (t0 : List (List Int)) (M : Nat) (us ps : List Int) (d0 d1 d2 : Nat) (w : World) (hR : RwsW w B0 t0) (hX : IntsW w B1 us) (hF : IntsW w B2 ps) (hm : ModF t0 M us) (hr : InR (M * t0.length) ps) (hx : ps.length ≤ 1048576) :
    Calls Try.prog 81 #[.agg #[.slice B0 t0.length d0], .agg #[.int .i64 (M : Int), .slice B1 us.length d1], .slice B2 ps.length d2] w fun e w' => e = .returned (.bool (cmB t0 M us ps)) ∧ Ex w w' := by
  obtain ⟨i0, hi, hi0, hi1, hi2⟩ := info_parts infoI
  have e0 : Ex w ((w.alloc (.cells #[.slice B0 t0.length d0] 32)).alloc (.cells #[.int .i64 (M : Int), .slice B1 us.length d1] 34)) := ((Ex.refl w).alloc _).alloc _
  have b0 : Has ((w.alloc (.cells #[.slice B0 t0.length d0] 32)).alloc (.cells #[.int .i64 (M : Int), .slice B1 us.length d1] 34)) (w.heap.size) 32 #[.slice B0 t0.length d0] := ((Has.newAt (w := w) (e := 32) (cs := #[.slice B0 t0.length d0]) (k := w.heap.size) (by simp)).alloc _)
  have b1 : Has ((w.alloc (.cells #[.slice B0 t0.length d0] 32)).alloc (.cells #[.int .i64 (M : Int), .slice B1 us.length d1] 34)) (w.heap.size + 1) 34 #[.int .i64 (M : Int), .slice B1 us.length d1] := (Has.newAt (w := (w.alloc (.cells #[.slice B0 t0.length d0] 32))) (e := 34) (cs := #[.int .i64 (M : Int), .slice B1 us.length d1]) (k := w.heap.size + 1) (by simp))
  have HE0 := Lib.hid e0
  have c0 := b0.cell 0
  by_cases hl : ps.length = t0.length
  · have hne : ((ps.length : Int) != (t0.length : Int)) = false := by simp [hl]
    have hN1 := hm.g.n1
    have hN8 := hm.g.n8
    have hM2 := hm.m2
    have hM12 := hm.m12
    have hM0 : ¬ M = 0 := by omega
    have hK96 : M * t0.length ≤ 96 := Nat.le_trans (Nat.mul_le_mul hM12 hN8) (by omega)
    obtain ⟨bf, of, rfl, hbf, -⟩ := hF.ints.at_ (j := 0) (by omega)
    have HU := Lib.hid (fun k (hk : k < t0.length) => (⟨by omega, by have := (im_eq hr (k := k) (by omega)).2; omega, by rw [← (im_eq hr (k := k) (by omega)).1]; exact ints_cell hF.ints (by omega)⟩ : k < ps.length ∧ im ps k ≤ 96 ∧ w.cell? ⟨bf, of + k, none⟩ = some (.int .i64 (im ps k : Int))))
    have HT := Lib.hid (fun (L : Option Addr) (e : Nat) W (he : Ex w W) (hL : IntsW W L (numL t0.length M ps)) => l05Crossed_any B0 B1 L t0 M us (numL t0.length M ps) d0 d1 e W (hR.ex he) (hX.ex he) hL hm (numL_len ..) (numL_in (by omega)))
    have HQ := Lib.hid (fun h2 => cmB_crs (us := us) (M := M) hl h2)
    have HQN := Lib.hid (fun x (hx : x < t0.length) h => cmB_el (us := us) (M := M) (ps := ps) hx h)
    have g0 := GrowI.empty (lo := w.heap.size) ((w.alloc (.cells #[.slice B0 t0.length d0] 32)).alloc (.cells #[.int .i64 (M : Int), .slice B1 us.length d1] 34)) e0.size
    simp only [World.size_alloc] at g0
    clear hR hX hF hr hm hl hx
    go_enter Try.func81, Try.ntmps81
    go_wp2_with fail
    generalize ((w.alloc (.cells #[.slice B0 t0.length d0] 32)).alloc (.cells #[.int .i64 (M : Int), .slice B1 us.length d1] 34)) = W0 at *
    have HB0 := Lib.hid (b0.alloc (.cells #[] 2))
    have HB1 := Lib.hid (b1.alloc (.cells #[] 2))
    have HE1 := Lib.hid (e0.alloc (.cells #[] 2))
    have HG0 := Lib.hid g0
    clear b0 b1 e0 g0 c0
    generalize W0.alloc (.cells #[] 2) = W2 at *
    go_loopw [7, 8] (fun v i wr => ∃ k : Nat, k ≤ t0.length ∧ i = .int .i64 (k : Int) ∧ Hid (Ex w wr) ∧ Hid (Has wr w.heap.size 32 #[.slice B0 t0.length d0]) ∧ Hid (Has wr (w.heap.size + 1) 34 #[.int .i64 (M : Int), .slice B1 us.length d1]) ∧ Hid (GrowI wr w.heap.size v k (numL k M ps)) ∧ Hid (∀ x, x < k → im ps x / M = x)) (fun _ i _ => t0.length - (intOf i).toNat)
    case atStart => exact ⟨0, Nat.zero_le _, rfl, HE1, HB0, HB1, Lib.hid (by exact HG0.out), Lib.hid fun x hx => absurd hx (by omega)⟩
    case round =>
      obtain ⟨k, hk, rfl, HE', HA, HB, HG', HS⟩ := hrel
      have c0 := HA.out.cell 0
      by_cases hlt : k < t0.length
      · obtain ⟨hkf, hf96, hfc⟩ := HU.out k hlt
        have HPS := Lib.hid (numL_snoc k M ps)
        have HNE := Lib.hid (HQN.out k hlt)
        have HSK : Hid (∀ h : im ps k / M = k, ∀ x, x < k + 1 → im ps x / M = x) := Lib.hid fun h x hx => by
          rcases Nat.lt_or_ge x k with h1 | h1
          · exact HS.out x h1
          · obtain rfl : x = k := by omega
            exact h
        obtain ⟨f, hfe⟩ : ∃ f, im ps k = f := ⟨_, rfl⟩
        rw [hfe] at hf96 hfc HPS HNE HSK
        have hqf : f / M ≤ f := Nat.div_le_self _ _
        have hmf : f % M < M := Nat.mod_lt _ (by omega)
        obtain ⟨q, hq⟩ : ∃ q, f / M = q := ⟨_, rfl⟩
        obtain ⟨n, hn⟩ : ∃ n, f % M = n := ⟨_, rfl⟩
        have htq : Int.tdiv (f : Int) (M : Int) = (q : Int) := by rw [← hq]; exact (Int.ofNat_tdiv f M).symm
        have htn : Int.tmod (f : Int) (M : Int) = (n : Int) := by rw [← hn]; exact tmod_nat f M
        rw [hn] at HPS hmf
        rw [hq] at HNE HSK hqf
        have hwq : IntKind.i64.wrap (q : Int) = (q : Int) := IntWalk.i64_in _ (by omega)
        have HUC := Lib.hid hfc
        have hkz : (0 : Int) ≤ (k : Int) := by omega
        have hkn : (k : Int) < (ps.length : Int) := by omega
        clear hfe hq hn hfc
        obtain ⟨bv, hbv⟩ : ∃ bv, ((q : Int) != (k : Int)) = bv := ⟨_, rfl⟩
        have HBV := Lib.hid hbv
        go_wp2_with (go_at_call 78; refine (l01N_ex _ t0.length d0 _ (by omega)).mono ?_; rintro e wn ⟨rfl, hen⟩; have HEn := Lib.hid (HE'.out.trans hen); have HAn := Lib.hid (HA.out.ex hen); have HBn := Lib.hid (HB.out.ex hen); have HGn := Lib.hid (HG'.out.ex hen); clear hen c0)
        have HSQ := Lib.hid (fun (W' : World) (hb : Ex wn.drew W') => And.intro ((HBn.out.ex ((Ex.refl wn).drew.trans hb)).cell 0) (((HEn.out.trans ((Ex.refl wn).drew.trans hb)).below.cell (p := ⟨bf, of + k, none⟩) hbf).trans HUC.out))
        refine wp_region_quiet (C := fun w' => Ex wn.drew w') (by kernel_rfl) (by kernel_rfl) (Ex.refl _) ?_
        refine BigFrame.wpQuiet_want (by rfl) fun K hK => ⟨?_, fun w' hC => ?_, hK _ ?_⟩
        rotate_left
        · (obtain ⟨q0, q1⟩ := HSQ.out _ hC; go_simp; first | done | with_reducible rfl | exact ⟨rfl, hC⟩)
        clear hK K
        simp only [Act.put, List.setIfInBounds_toArray, List.set_cons_zero, List.set_cons_succ]
        refine BigFrame.wpQuiet_want (by rfl) fun K hK => ⟨?_, fun w' hC => ?_, hK _ ?_⟩
        rotate_left
        · (obtain ⟨q0, q1⟩ := HSQ.out _ hC; go_simp; first | done | with_reducible rfl | exact ⟨rfl, hC⟩)
        clear hK K
        simp only [Act.put, List.setIfInBounds_toArray, List.set_cons_zero, List.set_cons_succ]
        refine BigFrame.wpQuiet_want (by rfl) fun K hK => ⟨?_, fun w' hC => ?_, hK _ ?_⟩
        rotate_left
        · (obtain ⟨q0, q1⟩ := HSQ.out _ hC; go_simp; first | done | with_reducible rfl | exact ⟨rfl, hC⟩)
        clear hK K
        simp only [Act.put, List.setIfInBounds_toArray, List.set_cons_zero, List.set_cons_succ]
        refine BigFrame.wpQuiet_want (by rfl) fun K hK => ⟨?_, fun w' hC => ?_, hK _ ?_⟩
        rotate_left
        · (obtain ⟨q0, q1⟩ := HSQ.out _ hC; go_simp; first | done | with_reducible rfl | exact ⟨rfl, hC⟩)
        clear hK K
        simp only [Act.put, List.setIfInBounds_toArray, List.set_cons_zero, List.set_cons_succ]
        refine BigFrame.wpQuiet_want (by rfl) fun K hK => ⟨?_, fun w' hC => ?_, hK _ ?_⟩
        rotate_left
        · (obtain ⟨q0, q1⟩ := HSQ.out _ hC; go_simp; first | done | with_reducible rfl | exact ⟨rfl, hC⟩)
        clear hK K
        simp only [Act.put, List.setIfInBounds_toArray, List.set_cons_zero, List.set_cons_succ]
        refine BigFrame.wpQuiet_want (by rfl) fun K hK => ⟨?_, fun w' hC => ?_, hK _ ?_⟩
        rotate_left
        · (obtain ⟨q0, q1⟩ := HSQ.out _ hC; go_simp; first | done | with_reducible rfl | exact ⟨rfl, hC⟩)
        clear hK K
        simp only [Act.put, List.setIfInBounds_toArray, List.set_cons_zero, List.set_cons_succ]
        refine BigFrame.wpQuiet_want (by rfl) fun K hK => ⟨?_, fun w' hC => ?_, hK _ ?_⟩
        rotate_left
        · (obtain ⟨q0, q1⟩ := HSQ.out _ hC; go_simp; first | done | with_reducible rfl | exact ⟨rfl, hC⟩)
        clear hK K
        simp only [Act.put, List.setIfInBounds_toArray, List.set_cons_zero, List.set_cons_succ]
        refine BigFrame.wpQuiet_want (by rfl) fun K hK => ⟨?_, fun w' hC => ?_, hK _ ?_⟩
        rotate_left
        · (obtain ⟨q0, q1⟩ := HSQ.out _ hC; go_simp; first | done | with_reducible rfl | exact ⟨rfl, hC⟩)
        clear hK K
        simp only [Act.put, List.setIfInBounds_toArray, List.set_cons_zero, List.set_cons_succ]
        refine BigFrame.wpQuiet_want (by rfl) fun K hK => ⟨?_, fun w' hC => ?_, hK _ ?_⟩
        rotate_left
        · (obtain ⟨q0, q1⟩ := HSQ.out _ hC; go_simp; first | done | with_reducible rfl | exact ⟨rfl, hC⟩)
        clear hK K
        simp only [Act.put, List.setIfInBounds_toArray, List.set_cons_zero, List.set_cons_succ]
        have HEn2 := Lib.hid (Ex.refl wn).drew
        cases bv with
        | true =>
          refine wpQuiet_nil ?_
          intro w2 hC2
          have HC2 := Lib.hid hC2
          clear hC2
          go_wp2_with fail
          go_ret
          exact ⟨by rw [HNE.out (fun h => by have := HBV.out; simp at this; omega)]; rfl, HEn.out.trans (HEn2.out.trans HC2.out)⟩
        | false =>
          refine wpQuiet_nil ?_
          intro w2 hC2
          have HC2 := Lib.hid hC2
          clear hC2
          go_wp2_with fail
          have hE2 := (HEn2.out.trans HC2.out).trans (Ex.refl w2).drew
          have HE := Lib.hid (HEn.out.trans hE2)
          have HA1 := Lib.hid (HAn.out.ex hE2)
          have HB1' := Lib.hid (HBn.out.ex hE2)
          have HG := Lib.hid (HGn.out.ex hE2)
          have huc6 := (HE.out.below.cell (p := ⟨bf, of + k, none⟩) hbf).trans HUC.out
          have hC0 := And.intro (HB1'.out.cell 0) huc6
          refine Late.region (C := fun w' => w'.cell? ⟨w.heap.size + 1, 0, none⟩ = some (.int .i64 (M : Int)) ∧ w'.cell? ⟨bf, of + k, none⟩ = some (.int .i64 (f : Int))) (fun j => decide (j < 10)) (by kernel_rfl) hC0 (fun hC => ?_)
          refine Late.take (i := 0) (oi := _) (v := ?_) rfl (by kernel_rfl) (by kernel_rfl) (by kernel_rfl) (by kernel_rfl) (fun _ _ _ h => h) (Or.inl ⟨by rfl, ?_⟩) hC ?_
          rotate_left
          · (intro w hSw; (try dsimp only at hSw); go_simp; first | done | with_reducible rfl)
          simp only [Act.put]
          refine Late.take (i := 1) (oi := _) (v := ?_) rfl (by kernel_rfl) (by kernel_rfl) (by kernel_rfl) (by kernel_rfl) (fun _ _ _ h => h) (Or.inl ⟨by rfl, ?_⟩) hC ?_
          rotate_left
          · (intro w hSw; (try dsimp only at hSw); go_simp; first | done | with_reducible rfl)
          simp only [Act.put]
          refine Late.take (i := 2) (oi := _) (v := ?_) rfl (by kernel_rfl) (by kernel_rfl) (by kernel_rfl) (by kernel_rfl) (fun _ _ _ h => h) (Or.inl ⟨by rfl, ?_⟩) hC ?_
          rotate_left
          · (intro w hSw; (try dsimp only at hSw); go_simp; first | done | with_reducible rfl)
          simp only [Act.put]
          refine Late.take (i := 3) (oi := _) (v := ?_) rfl (by kernel_rfl) (by kernel_rfl) (by kernel_rfl) (by kernel_rfl) (fun _ _ _ h => h) (Or.inl ⟨by rfl, ?_⟩) hC ?_
          rotate_left
          · (intro w hSw; (try dsimp only at hSw); go_simp; first | done | with_reducible rfl)
          simp only [Act.put]
          refine Late.take (i := 4) (oi := _) (v := ?_) rfl (by kernel_rfl) (by kernel_rfl) (by kernel_rfl) (by kernel_rfl) (fun _ _ _ h => h) (Or.inl ⟨by rfl, ?_⟩) hC ?_
          rotate_left
          · (intro w hSw; (try dsimp only at hSw); go_simp; first | done | with_reducible rfl)
          simp only [Act.put]
          refine Late.take (i := 5) (oi := _) (v := ?_) rfl (by kernel_rfl) (by kernel_rfl) (by kernel_rfl) (by kernel_rfl) (fun _ _ _ h => h) (Or.inl ⟨by rfl, ?_⟩) hC ?_
          rotate_left
          · (intro w hSw; (try dsimp only at hSw); go_simp; first | done | with_reducible rfl)
          simp only [Act.put]
          refine Late.take (i := 6) (oi := _) (v := ?_) rfl (by kernel_rfl) (by kernel_rfl) (by kernel_rfl) (by kernel_rfl) (fun _ _ _ h => h) (Or.inl ⟨by rfl, ?_⟩) hC ?_
          rotate_left
          · (intro w hSw; (try dsimp only at hSw); go_simp; first | done | with_reducible rfl)
          simp only [Act.put]
          refine Late.take (i := 7) (oi := _) (v := ?_) rfl (by kernel_rfl) (by kernel_rfl) (by kernel_rfl) (by kernel_rfl) (fun _ _ _ h => h) (Or.inl ⟨by rfl, ?_⟩) hC ?_
          rotate_left
          · (intro w hSw; (try dsimp only at hSw); go_simp; first | done | with_reducible rfl)
          simp only [Act.put]
          have hbx6 : bf < w2.drew.heap.size := Nat.lt_of_lt_of_le hbf HE.out.size
          clear hC hC0 hE2 HC2
          generalize w2.drew = X at *
          refine Late.one (i := 8) (o := _) (by kernel_rfl) rfl (fun K' hK' => ?_)
          go_simp
          have e1 := HE.out.alloc (.cells #[.int .i64 (n : Int)] 2)
          have HA11 := HA1.out.alloc (.cells #[.int .i64 (n : Int)] 2)
          have HB1'1 := HB1'.out.alloc (.cells #[.int .i64 (n : Int)] 2)
          have g1 := HG.out.ex (Ex.new X (.cells #[.int .i64 (n : Int)] 2))
          have hn1 := cell_one_new X (.int .i64 (n : Int)) 2
          have hz1 : X.heap.size + 1 = (X.alloc (.cells #[.int .i64 (n : Int)] 2)).heap.size := by simp
          have hx1 := Ex.new X (.cells #[.int .i64 (n : Int)] 2)
          refine hK'.out _ _ (fun _ => ⟨HB1'1.cell 0, (hx1.below.cell (p := ⟨bf, of + k, none⟩) hbx6).trans huc6⟩) (fun _ => ?_)
          clear hK' K'
          generalize X.alloc (.cells #[.int .i64 (n : Int)] 2) = w1 at *
          try simp only [Act.put, List.setIfInBounds_toArray, List.set_cons_zero, List.set_cons_succ]
          refine Late.one (i := 9) (o := _) (by kernel_rfl) rfl (fun K' hK' => ?_)
          rw [if_pos (by rfl)]
          refine wp_append_own _ _ _ 25 rfl w.heap.size 2 i0 (.int .i64 0) 1 8 Try.underlying25 hi hi0 hi1 hi2 rfl (by decide) _ _ _ rfl g1.1 ⟨X.heap.size, 0, none⟩ 1 1 [.int .i64 (n : Int)] rfl rfl hn1 (by simp [Value.oneCell']) (by unfold maxLen; omega) (by omega) (by have := e1.size; omega) ?_
          intro v' w3 hown3 hgrow3 _
          have HE3 := Lib.hid (Ex.grew e1 g1 (Nat.le_refl _) hgrow3)
          have HA13 := Lib.hid (Has.grew HA11 (by decide) g1 hgrow3)
          have HB1'3 := Lib.hid (Has.grew HB1'1 (by decide) g1 hgrow3)
          have HG3 := Lib.hid (g1.snoc hown3)
          refine hK'.out _ _ (fun _ => ⟨HB1'3.out.cell 0, (HE3.out.below.cell (p := ⟨bf, of + k, none⟩) hbf).trans HUC.out⟩) (fun _ => ?_)
          clear hK' K' hown3 hgrow3 g1 e1 hn1 hx1 HA11 HB1'1
          try simp only [Act.put]
          refine Late.one (i := 10) (o := _) (by kernel_rfl) rfl (fun K' hK' => ?_)
          go_simp
          refine hK'.out _ _ (fun h => by cases h) (fun _ => ?_)
          clear hK' K'
          try simp only [Act.put, List.setIfInBounds_toArray, List.set_cons_zero, List.set_cons_succ]
          refine Late.done (by kernel_rfl) ?_ _
          go_wp2_with fail
          go_roundw
          case rel => exact ⟨k + 1, by omega, by go_num, HE3, HA13, HB1'3, by rw [HPS.out]; exact HG3, Lib.hid (HSK.out (by have := HBV.out; simp at this; omega))⟩
          case measure => simp [intOf]; omega
      · obtain rfl : k = t0.length := by omega
        have HQ2 := Lib.hid (HQ.out HS.out)
        obtain ⟨A', n', rfl, hO⟩ := HG'.out.own
        rw [numL_len]
        have HT2 := Lib.hid (fun W (he : Ex _ W) => HT.out A' n' W (HE'.out.trans he) (hO.ints.ex he))
        rw [numL_len] at HT2
        have HAB := Lib.hid (fun W (he : Ex _ W) => And.intro ((HA.out.ex he).cell 0) (And.intro ((HB.out.ex he).cell 0) ((HB.out.ex he).cell 1)))
        obtain ⟨bv, hbv⟩ : ∃ bv, crsB t0 M us (numL t0.length M ps) = bv := ⟨_, rfl⟩
        rw [hbv] at HQ2 HT2
        clear hO hbv
        go_wp2_with (go_at_call 78; refine (l01N_ex _ t0.length d0 _ (by omega)).mono ?_; rintro e wn ⟨rfl, hen⟩; have HEN := Lib.hid hen; obtain ⟨ca, cb, cc⟩ := HAB.out wn hen; clear hen c0)
        refine (HT2.out wn HEN.out).mono ?_
        rintro e wz ⟨rfl, hez⟩
        go_wp2_with fail
        go_ret
        exact ⟨by rw [HQ2.out]; rfl, HE'.out.trans (HEN.out.trans hez)⟩
  · have hne : ((ps.length : Int) != (t0.length : Int)) = true := by simp; omega
    have HQ := Lib.hid (cmB_len (us := us) (M := M) hl)
    have hN8 := hm.g.n8
    clear hR hX hF hr hm hl
    go_enter Try.func81, Try.ntmps81
    go_wp2_with fail
    go_ret
    exact ⟨by rw [HQ.out]; rfl, HE0.out⟩

end Go.Proofs.Ytfafccldngekgaa
