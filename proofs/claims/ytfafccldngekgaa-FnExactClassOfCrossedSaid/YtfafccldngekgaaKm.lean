/- ComplementOf: both contracts. -/
import Derived.Test.YtfafccldngekgaaCa
import Derived.Test.YtfafccldngekgaaCb
import Derived.Test.YtfafccldngekgaaQb
namespace Go.Proofs.Ytfafccldngekgaa
open Go.RowKit Go.Shelf

attribute [local go_sem] Oper.semAt_some

/-- The pairs of a list of numbers. -/
def cmpX (M : Nat) (fs : List Int) (x : Nat) : Int := ((M * x + im fs x : Nat) : Int)
def cmpL (N M : Nat) (fs : List Int) : List Int := (List.range N).map fun x => cmpX M fs x
theorem cmpL_len (N M : Nat) (fs : List Int) : (cmpL N M fs).length = N := by simp [cmpL]
theorem cmpL_snoc (k M : Nat) (fs : List Int) : cmpL (k + 1) M fs = cmpL k M fs ++ [cmpX M fs k] := by simp [cmpL, List.range_succ]
noncomputable def yComplementOf0 (t : List (List Int)) (m : Int) (us fs : List Int) : List Int := if crC t m us fs = 0 then cmpL t.length m.toNat fs else []
noncomputable def qComplementOf1 (t : List (List Int)) (m : Int) (us fs : List Int) : Int := crC t m us fs
theorem crC_zero {t : List (List Int)} {m : Int} {us fs : List Int} (h : crC t m us fs = 0) : ∃ M : Nat, m = (M : Int) ∧ ModF t M us ∧ fs.length = t.length ∧ InR M fs := by
  by_cases hn : ncC t m us fs = 0
  · obtain ⟨h1, h2⟩ := ncC_zero hn
    obtain ⟨M, rfl, hm⟩ := gmB_f h1
    exact ⟨M, rfl, hm, numB_true h2⟩
  · rw [crC_nc hn] at h
    exact absurd h hn
theorem complementOf_small0 (t : List (List Int)) (m : Int) (us fs : List Int) : (yComplementOf0 t m us fs).length ≤ 1048576 := by
  unfold yComplementOf0
  split
  · rename_i h
    obtain ⟨M, _, hF, _⟩ := crC_zero h
    have := hF.g.n8
    rw [cmpL_len]
    omega
  · simp

/-- The numbers at those that were met, 0 elsewhere. -/
noncomputable def metA (N : Nat) (f : Nat → Int) (pre : List (Fin N)) : Array Value := tab N fun j => .int .i64 (if ∃ x ∈ pre, x.val = j then f j else 0)
theorem metA_nil (N : Nat) (f : Nat → Int) : metA N f [] = tab N fun _ => .int .i64 0 := by simp [metA]
theorem metA_get (N : Nat) (f : Nat → Int) (pre : List (Fin N)) {k : Nat} (h : k < N) : ∃ v, (metA N f pre)[k]? = some (.int .i64 v) := ⟨_, tab_get h⟩
theorem metA_put (N : Nat) (f : Nat → Int) (pre : List (Fin N)) {k : Nat} (h : k < N) : (metA N f pre).setIfInBounds k (.int .i64 (f k)) = metA N f (pre ++ [⟨k, h⟩]) := by
  unfold metA
  rw [tab_set h]
  refine tab_congr fun j hj => ?_
  by_cases hjk : j = k
  · subst hjk
    simp
  · have hkj : k ≠ j := fun e => hjk e.symm
    have : (∃ x ∈ pre ++ [⟨k, h⟩], x.val = j) ↔ ∃ x ∈ pre, x.val = j := by
      constructor
      · rintro ⟨x, hx, rfl⟩
        rcases List.mem_append.1 hx with hx | hx
        · exact ⟨x, hx, rfl⟩
        · simp at hx
          subst hx
          exact absurd rfl hjk
      · rintro ⟨x, hx, rfl⟩
        exact ⟨x, List.mem_append.2 (.inl hx), rfl⟩
    simp only [hjk, if_false, this]
theorem metA_all (N : Nat) (f : Nat → Int) : metA N f (List.finRange N) = tab N fun j => .int .i64 (f j) := by
  unfold metA
  refine tab_congr fun j hj => ?_
  rw [if_pos ⟨⟨j, hj⟩, List.mem_finRange _, rfl⟩]

set_option maxRecDepth 100000 in
set_option maxHeartbeats 4000000 in
theorem specComplementOf_ex (t0 : List (List Int)) (m1 : Int) (t1 : List Int) (t2 : List Int) : ∀ (B0 : Option Addr) (d0 : Nat) (B1 : Option Addr) (d1 : Nat) (B2 : Option Addr) (d2 : Nat) (W : World), RwsW W B0 t0 → IntsW W B1 t1 → IntsW W B2 t2 → SmallT t0 → t1.length ≤ 1048576 → t2.length ≤ 1048576 →
    Calls Try.prog 37 #[.agg #[.slice B0 t0.length d0], .agg #[.int .i64 m1, .slice B1 t1.length d1], .slice B2 t2.length d2] W fun e W' => ∃ (C0 : Option Addr) (e0 : Nat), e = .returned (.tuple #[.slice C0 (yComplementOf0 t0 m1 t1 t2).length e0, .int .i64 (qComplementOf1 t0 m1 t1 t2)]) ∧ Ex W W' ∧ OwnL W' W.heap.size W'.heap.size C0 (yComplementOf0 t0 m1 t1 t2) := by
  intro B0 d0 B1 d1 B2 d2 w hR hX hF hs hu hf
  obtain ⟨i0, hi, hi0, hi1, hi2⟩ := info_parts infoI
  have e0 : Ex w ((w.alloc (.cells #[.slice B0 t0.length d0] 32)).alloc (.cells #[.int .i64 m1, .slice B1 t1.length d1] 34)) := ((Ex.refl w).alloc _).alloc _
  have b0 : Has ((w.alloc (.cells #[.slice B0 t0.length d0] 32)).alloc (.cells #[.int .i64 m1, .slice B1 t1.length d1] 34)) (w.heap.size) 32 #[.slice B0 t0.length d0] := ((Has.newAt (w := w) (e := 32) (cs := #[.slice B0 t0.length d0]) (k := w.heap.size) (by simp)).alloc _)
  have b1 : Has ((w.alloc (.cells #[.slice B0 t0.length d0] 32)).alloc (.cells #[.int .i64 m1, .slice B1 t1.length d1] 34)) (w.heap.size + 1) 34 #[.int .i64 m1, .slice B1 t1.length d1] := (Has.newAt (w := (w.alloc (.cells #[.slice B0 t0.length d0] 32))) (e := 34) (cs := #[.int .i64 m1, .slice B1 t1.length d1]) (k := w.heap.size + 1) (by simp))
  have HC := Lib.hid (l05Given_ex B0 B1 B2 t0 m1 t1 t2 d0 d1 d2 _ (hR.ex e0) (hX.ex e0) (hF.ex e0) hs hu hf)
  have HE0 := Lib.hid e0
  by_cases hg : crC t0 m1 t1 t2 = 0
  · obtain ⟨M, rfl, hm, hl, hr⟩ := crC_zero hg
    have HQ : Hid (yComplementOf0 t0 (M : Int) t1 t2 = cmpL t0.length M t2 ∧ qComplementOf1 t0 (M : Int) t1 t2 = 0) := Lib.hid ⟨by rw [yComplementOf0, if_pos hg, Int.toNat_natCast], hg⟩
    rw [hg] at HC
    have hN1 := hm.g.n1
    have hN8 := hm.g.n8
    have hM2 := hm.m2
    have hM12 := hm.m12
    obtain ⟨bf, of, rfl, hbf, -⟩ := hF.ints.at_ (j := 0) (by omega)
    have HU := Lib.hid (fun k (hk : k < t0.length) => (⟨by omega, (im_eq hr (k := k) (by omega)).2, by rw [← (im_eq hr (k := k) (by omega)).1]; exact ints_cell hF.ints (by omega)⟩ : k < t2.length ∧ im t2 k < M ∧ w.cell? ⟨bf, of + k, none⟩ = some (.int .i64 (im t2 k : Int))))
    clear hR hX hF hs hu hg hr hm hl
    go_enter Try.func37, Try.ntmps37
    go_wp2_with fail
    generalize ((w.alloc (.cells #[.slice B0 t0.length d0] 32)).alloc (.cells #[.int .i64 (M : Int), .slice B1 t1.length d1] 34)) = W0 at *
    refine HC.out.mono ?_
    rintro e W1 ⟨rfl, he1⟩
    have g0 := GrowI.empty (lo := w.heap.size) W1 (e0.trans he1).size
    have HB0 := Lib.hid ((b0.ex he1).alloc (.cells #[] 2))
    have HB1 := Lib.hid ((b1.ex he1).alloc (.cells #[] 2))
    have HE1 := Lib.hid ((e0.trans he1).alloc (.cells #[] 2))
    have HG0 := Lib.hid g0
    clear b0 b1 e0 g0 he1
    go_wp2_with fail
    generalize W1.alloc (.cells #[] 2) = W2 at *
    go_loopw [9, 10] (fun v i wr => ∃ k : Nat, k ≤ t0.length ∧ i = .int .i64 (k : Int) ∧ Hid (Ex w wr) ∧ Hid (Has wr w.heap.size 32 #[.slice B0 t0.length d0]) ∧ Hid (Has wr (w.heap.size + 1) 34 #[.int .i64 (M : Int), .slice B1 t1.length d1]) ∧ Hid (GrowI wr w.heap.size v k (cmpL k M t2))) (fun _ i _ => t0.length - (intOf i).toNat)
    case atStart => exact ⟨0, Nat.zero_le _, rfl, HE1, HB0, HB1, Lib.hid (by exact HG0.out)⟩
    case round =>
      obtain ⟨k, hk, rfl, HE', HA, HB, HG'⟩ := hrel
      have c0 := HA.out.cell 0
      by_cases hlt : k < t0.length
      · obtain ⟨hkf, hfM, hfc⟩ := HU.out k hlt
        have HPS := Lib.hid (cmpL_snoc k M t2)
        have HPX : Hid (cmpX M t2 k = ((M * k + im t2 k : Nat) : Int)) := Lib.hid rfl
        obtain ⟨f, hfe⟩ : ∃ f, im t2 k = f := ⟨_, rfl⟩
        rw [hfe] at hfM hfc HPX
        obtain ⟨k0, hk0⟩ : ∃ k0, M * k = k0 := ⟨_, rfl⟩
        have hk96 : k0 ≤ 96 := by rw [← hk0]; exact Nat.le_trans (Nat.mul_le_mul hM12 (show k ≤ 8 by omega)) (by omega)
        have hpk : (M : Int) * (k : Int) = (k0 : Int) := by rw [← hk0]; simp
        obtain ⟨s, hse⟩ : ∃ s, k0 + f = s := ⟨_, rfl⟩
        have hps : (k0 : Int) + (f : Int) = (s : Int) := by rw [← hse]; simp
        rw [hk0, hse] at HPX
        rw [HPX.out] at HPS
        have hs144 : s ≤ 144 := by omega
        have hw1 : IntKind.i64.wrap (k0 : Int) = (k0 : Int) := IntWalk.i64_in _ (by omega)
        have hw2 : IntKind.i64.wrap (s : Int) = (s : Int) := IntWalk.i64_in _ (by omega)
        have HUC := Lib.hid hfc
        have hkz : (0 : Int) ≤ (k : Int) := by omega
        have hkn : (k : Int) < (t2.length : Int) := by omega
        clear hfe hk0 hfc hse
        go_wp2_with (go_at_call 78; refine (l01N_ex _ t0.length d0 _ (by omega)).mono ?_; rintro e wn ⟨rfl, hen⟩; have HE := Lib.hid (HE'.out.trans hen).drew; have HA1 := Lib.hid (HA.out.ex (hen.trans (Ex.refl wn).drew)); have HB1' := Lib.hid (HB.out.ex (hen.trans (Ex.refl wn).drew)); have HG := Lib.hid (HG'.out.ex (hen.trans (Ex.refl wn).drew)); clear hen c0)
        have huc6 := (HE.out.below.cell (p := ⟨bf, of + k, none⟩) hbf).trans HUC.out
        have hC0 := And.intro (HB1'.out.cell 0) huc6
        refine Late.region (C := fun w' => w'.cell? ⟨w.heap.size + 1, 0, none⟩ = some (.int .i64 (M : Int)) ∧ w'.cell? ⟨bf, of + k, none⟩ = some (.int .i64 (f : Int))) (fun j => decide (j < 12)) (by kernel_rfl) hC0 (fun hC => ?_)
        refine Late.take (i := 0) (oi := _) (v := ?_) rfl (by kernel_rfl) (by kernel_rfl) (by kernel_rfl) (by kernel_rfl) (fun _ _ _ h => h) (Or.inl ⟨by rfl, ?_⟩) hC ?_
        rotate_left
        · (intro w hSw; (try dsimp only at hSw); go_simp; first | done | with_reducible rfl)
        simp only [Act.put]
        refine Late.take (i := 1) (oi := _) (v := ?_) rfl (by kernel_rfl) (by kernel_rfl) (by kernel_rfl) (by kernel_rfl) (fun _ _ _ h => h) (Or.inl ⟨by rfl, ?_⟩) hC ?_
        rotate_left
        · (intro w hSw; (try dsimp only at hSw); go_simp; first | done | with_reducible rfl)
        simp only [Act.put]
        refine Late.take (i := 2) (oi := _) (v := ?_) rfl (by kernel_rfl) (by kernel_rfl) (by kernel_rfl) (by kernel_rfl) (fun _ _ _ h => h) (Or.inl ⟨by rfl, ?_⟩) hC ?_
        rotate_left
        · (intro w hSw; (try dsimp only at hSw); go_simp; first | done | with_reducible rfl)
        simp only [Act.put]
        refine Late.take (i := 3) (oi := _) (v := ?_) rfl (by kernel_rfl) (by kernel_rfl) (by kernel_rfl) (by kernel_rfl) (fun _ _ _ h => h) (Or.inl ⟨by rfl, ?_⟩) hC ?_
        rotate_left
        · (intro w hSw; (try dsimp only at hSw); go_simp; first | done | with_reducible rfl)
        simp only [Act.put]
        refine Late.take (i := 4) (oi := _) (v := ?_) rfl (by kernel_rfl) (by kernel_rfl) (by kernel_rfl) (by kernel_rfl) (fun _ _ _ h => h) (Or.inl ⟨by rfl, ?_⟩) hC ?_
        rotate_left
        · (intro w hSw; (try dsimp only at hSw); go_simp; first | done | with_reducible rfl)
        simp only [Act.put]
        refine Late.take (i := 5) (oi := _) (v := ?_) rfl (by kernel_rfl) (by kernel_rfl) (by kernel_rfl) (by kernel_rfl) (fun _ _ _ h => h) (Or.inl ⟨by rfl, ?_⟩) hC ?_
        rotate_left
        · (intro w hSw; (try dsimp only at hSw); go_simp; first | done | with_reducible rfl)
        simp only [Act.put]
        refine Late.take (i := 6) (oi := _) (v := ?_) rfl (by kernel_rfl) (by kernel_rfl) (by kernel_rfl) (by kernel_rfl) (fun _ _ _ h => h) (Or.inl ⟨by rfl, ?_⟩) hC ?_
        rotate_left
        · (intro w hSw; (try dsimp only at hSw); go_simp; first | done | with_reducible rfl)
        simp only [Act.put]
        refine Late.take (i := 7) (oi := _) (v := ?_) rfl (by kernel_rfl) (by kernel_rfl) (by kernel_rfl) (by kernel_rfl) (fun _ _ _ h => h) (Or.inl ⟨by rfl, ?_⟩) hC ?_
        rotate_left
        · (intro w hSw; (try dsimp only at hSw); go_simp; first | done | with_reducible rfl)
        simp only [Act.put]
        refine Late.take (i := 8) (oi := _) (v := ?_) rfl (by kernel_rfl) (by kernel_rfl) (by kernel_rfl) (by kernel_rfl) (fun _ _ _ h => h) (Or.inl ⟨by rfl, ?_⟩) hC ?_
        rotate_left
        · (intro w hSw; (try dsimp only at hSw); go_simp; first | done | with_reducible rfl)
        simp only [Act.put]
        refine Late.take (i := 9) (oi := _) (v := ?_) rfl (by kernel_rfl) (by kernel_rfl) (by kernel_rfl) (by kernel_rfl) (fun _ _ _ h => h) (Or.inl ⟨by rfl, ?_⟩) hC ?_
        rotate_left
        · (intro w hSw; (try dsimp only at hSw); go_simp; first | done | with_reducible rfl)
        simp only [Act.put]
        have hbx6 : bf < wn.drew.heap.size := Nat.lt_of_lt_of_le hbf HE.out.size
        clear hC hC0
        generalize wn.drew = X at *
        refine Late.one (i := 10) (o := _) (by kernel_rfl) rfl (fun K' hK' => ?_)
        go_simp
        have e1 := HE.out.alloc (.cells #[.int .i64 (s : Int)] 2)
        have HA11 := HA1.out.alloc (.cells #[.int .i64 (s : Int)] 2)
        have HB1'1 := HB1'.out.alloc (.cells #[.int .i64 (s : Int)] 2)
        have g1 := HG.out.ex (Ex.new X (.cells #[.int .i64 (s : Int)] 2))
        have hn1 := cell_one_new X (.int .i64 (s : Int)) 2
        have hz1 : X.heap.size + 1 = (X.alloc (.cells #[.int .i64 (s : Int)] 2)).heap.size := by simp
        have hx1 := Ex.new X (.cells #[.int .i64 (s : Int)] 2)
        refine hK'.out _ _ (fun _ => ⟨HB1'1.cell 0, (hx1.below.cell (p := ⟨bf, of + k, none⟩) hbx6).trans huc6⟩) (fun _ => ?_)
        clear hK' K'
        generalize X.alloc (.cells #[.int .i64 (s : Int)] 2) = w1 at *
        try simp only [Act.put, List.setIfInBounds_toArray, List.set_cons_zero, List.set_cons_succ]
        refine Late.one (i := 11) (o := _) (by kernel_rfl) rfl (fun K' hK' => ?_)
        rw [if_pos (by rfl)]
        refine wp_append_own _ _ _ 25 rfl w.heap.size 2 i0 (.int .i64 0) 1 8 Try.underlying25 hi hi0 hi1 hi2 rfl (by decide) _ _ _ rfl g1.1 ⟨X.heap.size, 0, none⟩ 1 1 [.int .i64 (s : Int)] rfl rfl hn1 (by simp [Value.oneCell']) (by unfold maxLen; omega) (by omega) (by have := e1.size; omega) ?_
        intro v' w3 hown3 hgrow3 _
        have HE3 := Lib.hid (Ex.grew e1 g1 (Nat.le_refl _) hgrow3)
        have HA13 := Lib.hid (Has.grew HA11 (by decide) g1 hgrow3)
        have HB1'3 := Lib.hid (Has.grew HB1'1 (by decide) g1 hgrow3)
        have HG3 := Lib.hid (g1.snoc hown3)
        refine hK'.out _ _ (fun _ => ⟨HB1'3.out.cell 0, (HE3.out.below.cell (p := ⟨bf, of + k, none⟩) hbf).trans HUC.out⟩) (fun _ => ?_)
        clear hK' K' hown3 hgrow3 g1 e1 hn1 hx1 HA11 HB1'1
        try simp only [Act.put]
        refine Late.one (i := 12) (o := _) (by kernel_rfl) rfl (fun K' hK' => ?_)
        go_simp
        refine hK'.out _ _ (fun h => by cases h) (fun _ => ?_)
        clear hK' K'
        try simp only [Act.put, List.setIfInBounds_toArray, List.set_cons_zero, List.set_cons_succ]
        refine Late.done (by kernel_rfl) ?_ _
        go_wp2_with fail
        go_roundw
        case rel => exact ⟨k + 1, by omega, by go_num, HE3, HA13, HB1'3, by rw [HPS.out]; exact HG3⟩
        case measure => simp [intOf]; omega
      · obtain rfl : k = t0.length := by omega
        go_wp2_with (go_at_call 78; refine (l01N_ex _ t0.length d0 _ (by omega)).mono ?_; rintro e wn ⟨rfl, hen⟩; have HE1' := Lib.hid (HE'.out.trans hen); have HG1 := Lib.hid (HG'.out.ex hen); clear hen c0)
        obtain ⟨A', n', rfl, hO⟩ := HG1.out.own
        have HO := Lib.hid hO
        clear hO
        go_ret2
        exact ⟨A', n', by rw [HQ.out.1, HQ.out.2]; rfl, HE1'.out, by rw [HQ.out.1]; exact HO.out⟩
  · have HQ : Hid (yComplementOf0 t0 m1 t1 t2 = [] ∧ qComplementOf1 t0 m1 t1 t2 = crC t0 m1 t1 t2) := Lib.hid ⟨by rw [yComplementOf0, if_neg hg], rfl⟩
    obtain ⟨z, hz⟩ : ∃ z, crC t0 m1 t1 t2 = z := ⟨_, rfl⟩
    rw [hz] at HC HQ hg
    have hzb : (z != 0) = true := by simpa using hg
    clear hR hX hF hg hz
    go_enter Try.func37, Try.ntmps37
    go_wp2_with fail
    generalize ((w.alloc (.cells #[.slice B0 t0.length d0] 32)).alloc (.cells #[.int .i64 m1, .slice B1 t1.length d1] 34)) = W0 at *
    refine HC.out.mono ?_
    rintro e W1 ⟨rfl, he1⟩
    go_wp2_with fail
    go_ret2
    exact ⟨none, 0, by rw [HQ.out.1, HQ.out.2]; rfl, HE0.out.trans he1, by rw [HQ.out.1]; exact OwnL.nil _ _ _ (Nat.le_refl _)⟩

set_option maxRecDepth 100000 in
set_option maxHeartbeats 4000000 in
theorem implComplementOf_ex (t0 : List (List Int)) (m1 : Int) (t1 : List Int) (t2 : List Int) : ∀ (B0 : Option Addr) (d0 : Nat) (B1 : Option Addr) (d1 : Nat) (B2 : Option Addr) (d2 : Nat) (W : World), RwsW W B0 t0 → IntsW W B1 t1 → IntsW W B2 t2 → SmallT t0 → t1.length ≤ 1048576 → t2.length ≤ 1048576 →
    Calls Try.prog 38 #[.agg #[.slice B0 t0.length d0], .agg #[.int .i64 m1, .slice B1 t1.length d1], .slice B2 t2.length d2] W fun e W' => ∃ (C0 : Option Addr) (e0 : Nat), e = .returned (.tuple #[.slice C0 (yComplementOf0 t0 m1 t1 t2).length e0, .int .i64 (qComplementOf1 t0 m1 t1 t2)]) ∧ Ex W W' ∧ OwnL W' W.heap.size W'.heap.size C0 (yComplementOf0 t0 m1 t1 t2) := by
  intro B0 d0 B1 d1 B2 d2 w hR hX hF hs hu hf
  by_cases hg : crC t0 m1 t1 t2 = 0
  · obtain ⟨M, rfl, hm, hl, hr⟩ := crC_zero hg
    have HQ : Hid (yComplementOf0 t0 (M : Int) t1 t2 = cmpL t0.length M t2 ∧ qComplementOf1 t0 (M : Int) t1 t2 = 0) := Lib.hid ⟨by rw [yComplementOf0, if_pos hg, Int.toNat_natCast], hg⟩
    have hHC := fun W hR hX hF => crossedCode_ex B0 B1 B2 t0 (M : Int) t1 t2 d0 d1 d2 W hR hX hF hs hu hf
    rw [hl] at hHC ⊢
    have e0 : Ex w (((w.alloc (.cells #[.slice B0 t0.length d0] 32)).alloc (.cells #[.int .i64 (M : Int), .slice B1 t1.length d1] 34)).alloc (.cells #[.slice B2 t0.length d2] 25)) := (((Ex.refl w).alloc _).alloc _).alloc _
    have b0 : Has (((w.alloc (.cells #[.slice B0 t0.length d0] 32)).alloc (.cells #[.int .i64 (M : Int), .slice B1 t1.length d1] 34)).alloc (.cells #[.slice B2 t0.length d2] 25)) (w.heap.size) 32 #[.slice B0 t0.length d0] := (((Has.newAt (w := w) (e := 32) (cs := #[.slice B0 t0.length d0]) (k := w.heap.size) (by simp)).alloc _).alloc _)
    have b1 : Has (((w.alloc (.cells #[.slice B0 t0.length d0] 32)).alloc (.cells #[.int .i64 (M : Int), .slice B1 t1.length d1] 34)).alloc (.cells #[.slice B2 t0.length d2] 25)) (w.heap.size + 1) 34 #[.int .i64 (M : Int), .slice B1 t1.length d1] := ((Has.newAt (w := (w.alloc (.cells #[.slice B0 t0.length d0] 32))) (e := 34) (cs := #[.int .i64 (M : Int), .slice B1 t1.length d1]) (k := w.heap.size + 1) (by simp)).alloc _)
    have b2 : Has (((w.alloc (.cells #[.slice B0 t0.length d0] 32)).alloc (.cells #[.int .i64 (M : Int), .slice B1 t1.length d1] 34)).alloc (.cells #[.slice B2 t0.length d2] 25)) (w.heap.size + 1 + 1) 25 #[.slice B2 t0.length d2] := (Has.newAt (w := ((w.alloc (.cells #[.slice B0 t0.length d0] 32)).alloc (.cells #[.int .i64 (M : Int), .slice B1 t1.length d1] 34))) (e := 25) (cs := #[.slice B2 t0.length d2]) (k := w.heap.size + 1 + 1) (by simp))
    have HC := Lib.hid (hHC _ (hR.ex e0) (hX.ex e0) (hF.ex e0))
    rw [hg] at HC
    have hN1 := hm.g.n1
    have hN8 := hm.g.n8
    have hM2 := hm.m2
    have hM12 := hm.m12
    obtain ⟨bf, of, rfl, hbf, -⟩ := hF.ints.at_ (j := 0) (by omega)
    have HU := Lib.hid (fun k (hk : k < t0.length) => (⟨(im_eq hr (k := k) (by omega)).2, by rw [← (im_eq hr (k := k) (by omega)).1]; exact ints_cell hF.ints (by omega)⟩ : im t2 k < M ∧ w.cell? ⟨bf, of + k, none⟩ = some (.int .i64 (im t2 k : Int))))
    have hmk := makeI t0.length (by omega)
    clear hR hX hF hs hu hg hr hm hl hHC
    refine (callsIn_wide (n := 8)).1 ?_
    refine callsIn_of_wp_marks Try.func38 rfl trivial ?_ rfl
    simp only [Try.ntmps38, List.size_toArray, List.length_cons, List.length_nil, Nat.reduceAdd, Nat.reduceSub, Array.replicate_succ, Array.replicate_zero, List.push_toArray, List.append_toArray, List.nil_append, List.cons_append]
    gi_wp2_with fail
    generalize (((w.alloc (.cells #[.slice B0 t0.length d0] 32)).alloc (.cells #[.int .i64 (M : Int), .slice B1 t1.length d1] 34)).alloc (.cells #[.slice (some ⟨bf, of, none⟩) t0.length d2] 25)) = W0 at *
    refine ⟨trivial, (callsIn_wide.2 HC.out).mono ?_⟩
    rintro e W1 ⟨rfl, he1⟩
    have hz1 := (b2.ex he1).lt
    have HE1 := Lib.hid (e0.trans he1)
    have HB0 := Lib.hid (b0.ex he1)
    have HB1 := Lib.hid (b1.ex he1)
    have HB2 := Lib.hid (b2.ex he1)
    have c2 := HB2.out.cell 0
    clear b0 b1 b2 e0 he1
    have e3 := (Ex.new W1 (.cells (tab t0.length fun _ => .int .i64 0) 2)).alloc (.cells #[.slice (some ⟨W1.heap.size, 0, none⟩) t0.length t0.length] 25)
    have c0 := (HB0.out.ex e3).cell 0
    gi_wp2_with (refine ⟨trivial, ?_⟩; gi_at_call 80; refine (callsIn_wide.2 (elementsOf_any _ t0.length d0 _)).mono ?_; rintro e w' ⟨rfl, rfl⟩)
    obtain ⟨D, hD⟩ : ∃ D, W1.heap.size = D := ⟨_, rfl⟩
    have e4 := HE1.out.trans (e3.alloc (.cells #[.slice B0 t0.length d0] 32))
    have bA := ((Has.new W1 2 (tab t0.length fun _ => .int .i64 0)).alloc (.cells #[.slice (some ⟨W1.heap.size, 0, none⟩) t0.length t0.length] 25)).alloc (.cells #[.slice B0 t0.length d0] 32)
    have bO := (Has.newAt (w := W1.alloc (.cells (tab t0.length fun _ => .int .i64 0) 2)) (e := 25) (cs := #[.slice (some ⟨W1.heap.size, 0, none⟩) t0.length t0.length]) (k := W1.heap.size + 1) (by simp)).alloc (.cells #[.slice B0 t0.length d0] 32)
    have bE := Has.newAt (w := (W1.alloc (.cells (tab t0.length fun _ => .int .i64 0) 2)).alloc (.cells #[.slice (some ⟨W1.heap.size, 0, none⟩) t0.length t0.length] 25)) (e := 32) (cs := #[.slice B0 t0.length d0]) (k := W1.heap.size + 1 + 1) (by simp)
    have hz4 : (((W1.alloc (.cells (tab t0.length fun _ => .int .i64 0) 2)).alloc (.cells #[.slice (some ⟨W1.heap.size, 0, none⟩) t0.length t0.length] 25)).alloc (.cells #[.slice B0 t0.length d0] 32)).heap.size = D + 1 + 1 + 1 := by simp [hD]
    have hb1 := (HB1.out.ex e3).alloc (.cells #[.slice B0 t0.length d0] 32)
    have hb2 := (HB2.out.ex e3).alloc (.cells #[.slice B0 t0.length d0] 32)
    clear HB0 HB1 HB2 e3 c0 c2 HE1
    rw [hD] at bA bO bE hz1 hz4 hb1 hb2 e4 ⊢
    generalize (((W1.alloc (.cells (tab t0.length fun _ => .int .i64 0) 2)).alloc (.cells #[.slice (some ⟨D, 0, none⟩) t0.length t0.length] 25)).alloc (.cells #[.slice B0 t0.length d0] 32)) = W4 at *
    have HE4 := Lib.hid e4
    have HB1 := Lib.hid hb1
    have HB2 := Lib.hid hb2
    clear e4 hb1 hb2 hD hmk
    refine range_top (n := 8) (n₀ := w.heap.size + 1 + 1 + 1) (by omega) (gf := 107) (lb := #[.pointer (some ⟨D + 1 + 1, 0, none⟩)]) rfl (enters_of Try.func107 (by kernel_rfl) rfl)
      (elements_stops 7 (by omega) (D + 1 + 1) (w.heap.size + 1 + 1 + 1) t0.length d0 _ W4 (by omega) (bE.cell 0) (by omega)) (by omega) (fun _ => rfl)
      (fun pre W => Has W D 2 (metA t0.length (cmpX M t2) pre) ∧ Has W (D + 1) 25 #[.slice (some ⟨D, 0, none⟩) t0.length t0.length])
      (fun c' _ W => False)
      (OwnFrom.and (Own.from (has_own _ _ _) _) (Own.from (has_own _ _ _) _))
      (fun _ => ownFrom_pure _ _)
      ⟨by rw [metA_nil]; exact bA, bO⟩ ?round ?done ?stop
    case round =>
      clear bA bO bE
      intro l x W K hK
      have HK := Lib.hid hK
      clear hK
      gi_wp2
      refine HK.out _ ?_
      clear HK
      rintro l pre W hr ⟨bA1, bO1⟩ hKW _
      obtain ⟨k, hlt⟩ := x
      have hEW : Ex w W := HE4.out.trans' hKW.1 (by omega)
      obtain ⟨hfM, hfc⟩ := HU.out k hlt
      have HPT := Lib.hid (metA_put t0.length (cmpX M t2) pre hlt)
      have HPX : Hid (cmpX M t2 k = ((M * k + im t2 k : Nat) : Int)) := Lib.hid rfl
      obtain ⟨v0, hv0⟩ := metA_get t0.length (cmpX M t2) pre hlt
      obtain ⟨f, hfe⟩ : ∃ f, im t2 k = f := ⟨_, rfl⟩
      rw [hfe] at hfM hfc HPX
      have HUC := Lib.hid hfc
      rw [HPX.out] at HPT
      have m1 := HB1.out.below hKW.1 (by omega)
      have m2 := HB2.out.below hKW.1 (by omega)
      have hC0 := And.intro (bO1.cell 0) (And.intro (m1.cell 0) (And.intro (m1.cell 1) (And.intro (m2.cell 0) ((hEW.below.cell (p := ⟨bf, of + k, none⟩) hbf).trans hfc))))
      have HM1 := Lib.hid m1
      have HM2 := Lib.hid m2
      have HEW := Lib.hid hEW
      have HBA := Lib.hid bA1
      have HBO := Lib.hid bO1
      have hkz : (0 : Int) ≤ (k : Int) := by omega
      have hkn : (k : Int) < (t0.length : Int) := by omega
      have hzW : w.heap.size + 1 + 1 + 1 ≤ W.heap.size := by have := hKW.1.size; omega
      have HPO := Lib.hid (fun W => pairOf_any B1 M t1.length d1 f k W hM12 (by omega) (by omega))
      have hC0' : (fun w' : World => w'.cell? ⟨D + 1, 0, none⟩ = some (.slice (some ⟨D, 0, none⟩) t0.length t0.length) ∧ w'.cell? ⟨w.heap.size + 1, 0, none⟩ = some (.int .i64 (M : Int)) ∧ w'.cell? ⟨w.heap.size + 1, 1, none⟩ = some (.slice B1 t1.length d1) ∧ w'.cell? ⟨w.heap.size + 1 + 1, 0, none⟩ = some (.slice (some ⟨bf, of, none⟩) t0.length d2) ∧ w'.cell? ⟨bf, of + k, none⟩ = some (.int .i64 (f : Int))) W.drew := hC0
      clear hKW bA1 bO1 m1 m2 hEW hfc hfe hC0
      gi_wp2_with fail
      refine Late.round (C := fun w' : World => w'.cell? ⟨D + 1, 0, none⟩ = some (.slice (some ⟨D, 0, none⟩) t0.length t0.length) ∧ w'.cell? ⟨w.heap.size + 1, 0, none⟩ = some (.int .i64 (M : Int)) ∧ w'.cell? ⟨w.heap.size + 1, 1, none⟩ = some (.slice B1 t1.length d1) ∧ w'.cell? ⟨w.heap.size + 1 + 1, 0, none⟩ = some (.slice (some ⟨bf, of, none⟩) t0.length d2) ∧ w'.cell? ⟨bf, of + k, none⟩ = some (.int .i64 (f : Int)))
        (fun j => j != 10) (by kernel_rfl) (by rfl) (by rintro ⟨_, _, h⟩; exact h) hC0' ?_
      intro hS
      refine Late.take (i := 0) (oi := _) (v := ?_) rfl (by kernel_rfl) (by kernel_rfl) (by kernel_rfl) (by kernel_rfl) (fun _ _ _ h => h) (Or.inl ⟨by rfl, ?_⟩) hS ?_
      rotate_left
      · (intro w hSw; (try dsimp only at hSw); go_simp; first | done | with_reducible rfl)
      simp only [Act.put]
      refine Late.take (i := 1) (oi := _) (v := ?_) rfl (by kernel_rfl) (by kernel_rfl) (by kernel_rfl) (by kernel_rfl) (fun _ _ _ h => h) (Or.inl ⟨by rfl, ?_⟩) hS ?_
      rotate_left
      · (intro w hSw; (try dsimp only at hSw); go_simp; first | done | with_reducible rfl)
      simp only [Act.put]
      refine Late.take (i := 2) (oi := _) (v := ?_) rfl (by kernel_rfl) (by kernel_rfl) (by kernel_rfl) (by kernel_rfl) (fun _ _ _ h => h) (Or.inl ⟨by rfl, ?_⟩) hS ?_
      rotate_left
      · (intro w hSw; (try dsimp only at hSw); go_simp; first | done | with_reducible rfl)
      simp only [Act.put]
      refine Late.take (i := 3) (oi := _) (v := ?_) rfl (by kernel_rfl) (by kernel_rfl) (by kernel_rfl) (by kernel_rfl) (fun _ _ _ h => h) (Or.inl ⟨by rfl, ?_⟩) hS ?_
      rotate_left
      · (intro w hSw; (try dsimp only at hSw); go_simp; first | done | with_reducible rfl)
      simp only [Act.put]
      refine Late.take (i := 4) (oi := _) (v := ?_) rfl (by kernel_rfl) (by kernel_rfl) (by kernel_rfl) (by kernel_rfl) (fun _ _ _ h => h) (Or.inl ⟨by rfl, ?_⟩) hS ?_
      rotate_left
      · (intro w hSw; (try dsimp only at hSw); go_simp; first | done | with_reducible rfl)
      simp only [Act.put]
      refine Late.take (i := 5) (oi := _) (v := ?_) rfl (by kernel_rfl) (by kernel_rfl) (by kernel_rfl) (by kernel_rfl) (fun _ _ _ h => h) (Or.inl ⟨by rfl, ?_⟩) hS ?_
      rotate_left
      · (intro w hSw; (try dsimp only at hSw); go_simp; first | done | with_reducible rfl)
      simp only [Act.put]
      refine Late.take (i := 6) (oi := _) (v := ?_) rfl (by kernel_rfl) (by kernel_rfl) (by kernel_rfl) (by kernel_rfl) (fun _ _ _ h => h) (Or.inl ⟨by rfl, ?_⟩) hS ?_
      rotate_left
      · (intro w hSw; (try dsimp only at hSw); go_simp; first | done | with_reducible rfl)
      simp only [Act.put]
      refine Late.take (i := 7) (oi := _) (v := ?_) rfl (by kernel_rfl) (by kernel_rfl) (by kernel_rfl) (by kernel_rfl) (fun _ _ _ h => h) (Or.inl ⟨by rfl, ?_⟩) hS ?_
      rotate_left
      · (intro w hSw; (try dsimp only at hSw); go_simp; first | done | with_reducible rfl)
      simp only [Act.put]
      refine Late.one (i := 8) (o := _) (by kernel_rfl) rfl (fun K' hK' => ?_)
      rw [if_pos (by rfl)]
      go_simp
      refine (HPO.out W.drew).mono ?_
      rintro e W6 ⟨rfl, he6⟩
      have hx6 : Ex W W6 := (Ex.refl W).drew.trans he6
      have hA6 := HBA.out.ex hx6
      have hO6 := HBO.out.ex hx6
      have hC6 := And.intro (hO6.cell 0) (And.intro ((HM1.out.ex hx6).cell 0) (And.intro ((HM1.out.ex hx6).cell 1) (And.intro ((HM2.out.ex hx6).cell 0) (((HEW.out.trans hx6).below.cell (p := ⟨bf, of + k, none⟩) hbf).trans HUC.out))))
      have hcell := hA6.cell k
      rw [hv0] at hcell
      have hfree := hA6.free k
      refine hK'.out _ _ (fun _ => hC6) (fun _ => ?_)
      clear hK' K'
      try simp only [Act.put, List.setIfInBounds_toArray, List.set_cons_zero, List.set_cons_succ]
      refine Late.take (i := 9) (oi := _) (v := ?_) rfl (by kernel_rfl) (by kernel_rfl) (by kernel_rfl) (by kernel_rfl) (fun _ _ _ h => h) (Or.inl ⟨by rfl, ?_⟩) hC6 ?_
      rotate_left
      · (intro w hSw; (try dsimp only at hSw); go_simp; first | done | with_reducible rfl)
      simp only [Act.put]
      refine Late.one (i := 10) (o := _) (by kernel_rfl) rfl (fun K' hK' => ?_)
      go_simp
      refine hK'.out _ _ (fun h => by cases h) (fun _ => ?_)
      clear hK' K'
      refine Late.done (by kernel_rfl) ?_ _
      have hA7 := hA6.put k (.int .i64 ((M * k + f : Nat) : Int))
      rw [HPT.out] at hA7
      exact ⟨(Keeps.of_below hx6 hzW).setCell (p := ⟨D, k, none⟩) (by show _ ≤ D; omega) _, hA7, Has.far hO6 (by show D + 1 ≠ D; omega) _⟩
    case done =>
      rintro D' xs W hD' rfl ⟨bA1, bO1⟩ hKW hK
      rw [metA_all] at bA1
      have hord := bO1.cell 0
      have HKW := Lib.hid hKW
      have HBA := Lib.hid bA1
      clear hKW bA1
      gi_wp2
      refine ⟨by simp, .inl ⟨_, _, rfl, run_takeDeferred hK, ?_⟩⟩
      have hne : D ≠ D' := fun e => by
        subst e
        rw [show W.heap[D]? = _ from HBA.out] at hK
        cases hK
      have hA8 : Has (W.putObj D' (.deferred none)) D 2 _ := ((grownBy_putObj' W D' (.deferred none)).block D HBA.out.lt (fun e => hne (by cases e; rfl))).trans HBA.out
      have hbz := belowK_b (w := w) (Nat.le_refl _) W D' _ (.deferred none) (by omega) hK rfl rfl
      refine ⟨_, results_tmp2 rfl _ _ _, some ⟨D, 0, none⟩, t0.length, by rw [HQ.out.1, HQ.out.2, cmpL_len]; rfl, (HE4.out.trans' HKW.out.1 (by omega)).below.trans hbz, ?_⟩
      rw [HQ.out.1]
      exact OwnL.of_has (n := t0.length) (e := 2) (by rw [tab_congr (g := fun j => .int .i64 (cmpX M t2 j)) (fun j hj => by simp [nth, cmpL, hj])]; exact hA8) (by rw [cmpL_len]) (by omega)
    case stop =>
      rintro D c' pre W hD hpre h
      exact h.elim
  · skip
    have e0 : Ex w (((w.alloc (.cells #[.slice B0 t0.length d0] 32)).alloc (.cells #[.int .i64 m1, .slice B1 t1.length d1] 34)).alloc (.cells #[.slice B2 t2.length d2] 25)) := (((Ex.refl w).alloc _).alloc _).alloc _
    have b0 : Has (((w.alloc (.cells #[.slice B0 t0.length d0] 32)).alloc (.cells #[.int .i64 m1, .slice B1 t1.length d1] 34)).alloc (.cells #[.slice B2 t2.length d2] 25)) (w.heap.size) 32 #[.slice B0 t0.length d0] := (((Has.newAt (w := w) (e := 32) (cs := #[.slice B0 t0.length d0]) (k := w.heap.size) (by simp)).alloc _).alloc _)
    have b1 : Has (((w.alloc (.cells #[.slice B0 t0.length d0] 32)).alloc (.cells #[.int .i64 m1, .slice B1 t1.length d1] 34)).alloc (.cells #[.slice B2 t2.length d2] 25)) (w.heap.size + 1) 34 #[.int .i64 m1, .slice B1 t1.length d1] := ((Has.newAt (w := (w.alloc (.cells #[.slice B0 t0.length d0] 32))) (e := 34) (cs := #[.int .i64 m1, .slice B1 t1.length d1]) (k := w.heap.size + 1) (by simp)).alloc _)
    have b2 : Has (((w.alloc (.cells #[.slice B0 t0.length d0] 32)).alloc (.cells #[.int .i64 m1, .slice B1 t1.length d1] 34)).alloc (.cells #[.slice B2 t2.length d2] 25)) (w.heap.size + 1 + 1) 25 #[.slice B2 t2.length d2] := (Has.newAt (w := ((w.alloc (.cells #[.slice B0 t0.length d0] 32)).alloc (.cells #[.int .i64 m1, .slice B1 t1.length d1] 34))) (e := 25) (cs := #[.slice B2 t2.length d2]) (k := w.heap.size + 1 + 1) (by simp))
    have HC := Lib.hid (crossedCode_ex B0 B1 B2 t0 m1 t1 t2 d0 d1 d2 _ (hR.ex e0) (hX.ex e0) (hF.ex e0) hs hu hf)
    have HE0 := Lib.hid e0
    have HQ : Hid (yComplementOf0 t0 m1 t1 t2 = [] ∧ qComplementOf1 t0 m1 t1 t2 = crC t0 m1 t1 t2) := Lib.hid ⟨by rw [yComplementOf0, if_neg hg], rfl⟩
    obtain ⟨z, hz⟩ : ∃ z, crC t0 m1 t1 t2 = z := ⟨_, rfl⟩
    rw [hz] at HC HQ hg
    have hzb : (z != 0) = true := by simpa using hg
    clear hR hX hF hg hz
    refine (callsIn_wide (n := 8)).1 ?_
    refine callsIn_of_wp_marks Try.func38 rfl trivial ?_ rfl
    simp only [Try.ntmps38, List.size_toArray, List.length_cons, List.length_nil, Nat.reduceAdd, Nat.reduceSub, Array.replicate_succ, Array.replicate_zero, List.push_toArray, List.append_toArray, List.nil_append, List.cons_append]
    gi_wp2_with fail
    generalize (((w.alloc (.cells #[.slice B0 t0.length d0] 32)).alloc (.cells #[.int .i64 m1, .slice B1 t1.length d1] 34)).alloc (.cells #[.slice B2 t2.length d2] 25)) = W0 at *
    refine ⟨trivial, (callsIn_wide.2 HC.out).mono ?_⟩
    rintro e W1 ⟨rfl, he1⟩
    have HE1 := Lib.hid (HE0.out.trans he1)
    clear b0 b1 b2 e0 he1
    gi_wp2_with fail
    exact ⟨_, results_tmp2 rfl _ _ _, none, 0, by rw [HQ.out.1, HQ.out.2]; rfl, HE1.out, by rw [HQ.out.1]; exact OwnL.nil _ _ _ (Nat.le_refl _)⟩

end Go.Proofs.Ytfafccldngekgaa
