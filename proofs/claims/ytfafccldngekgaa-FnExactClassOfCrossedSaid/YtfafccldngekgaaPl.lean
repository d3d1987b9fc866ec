/- Principal maps: both sides. -/
import Derived.Test.YtfafccldngekgaaCr
namespace Go.Proofs.Ytfafccldngekgaa
open Go.RowKit

/-- The principal map of m, at x, of the first N elements. -/
def prinX (M : Nat) (us : List Int) (m x : Nat) : Int := ((im us x : Int) * (m : Int) - (m : Int)) % (M : Int)
def prinL (N M : Nat) (us : List Int) (m : Nat) : List Int := (List.range N).map fun x => prinX M us m x
theorem prinL_len (N M : Nat) (us : List Int) (m : Nat) : (prinL N M us m).length = N := by simp [prinL]
theorem prinL_snoc (k M : Nat) (us : List Int) (m : Nat) : prinL (k + 1) M us m = prinL k M us m ++ [prinX M us m k] := by simp [prinL, List.range_succ]

set_option maxRecDepth 100000 in
set_option maxHeartbeats 4000000 in
theorem l05Principal_any (B0 B1 : Option Addr) (t0 : List (List Int)) (M m : Nat) (us : List Int) (d0 d1 : Nat) (w : World) (hX : IntsW w B1 us) (hm : ModF t0 M us) (hmM : m < M) :
    Calls Try.prog 64 #[.agg #[.slice B0 t0.length d0], .agg #[.int .i64 (M : Int), .slice B1 us.length d1], .int .i64 (m : Int)] w fun e w' => ∃ A' n', e = .returned (.slice A' (prinL t0.length M us m).length n') ∧ Ex w w' ∧ OwnL w' w.heap.size w'.heap.size A' (prinL t0.length M us m) := by
  obtain ⟨i0, hi, hi0, hi1, hi2⟩ := info_parts infoI
  have hN1 := hm.g.n1
  have hN8 := hm.g.n8
  have hM2 := hm.m2
  have hM12 := hm.m12
  obtain ⟨bx, ox, rfl, hbx, -⟩ := hX.ints.at_ (j := 0) (by rw [hm.len]; omega)
  have e0 : Ex w ((w.alloc (.cells #[.slice B0 t0.length d0] 32)).alloc (.cells #[.int .i64 (M : Int), .slice (some ⟨bx, ox, none⟩) us.length d1] 34)) := ((Ex.refl w).alloc _).alloc _
  have b0 : Has ((w.alloc (.cells #[.slice B0 t0.length d0] 32)).alloc (.cells #[.int .i64 (M : Int), .slice (some ⟨bx, ox, none⟩) us.length d1] 34)) (w.heap.size) 32 #[.slice B0 t0.length d0] := ((Has.newAt (w := w) (e := 32) (cs := #[.slice B0 t0.length d0]) (k := w.heap.size) (by simp)).alloc _)
  have b1 : Has ((w.alloc (.cells #[.slice B0 t0.length d0] 32)).alloc (.cells #[.int .i64 (M : Int), .slice (some ⟨bx, ox, none⟩) us.length d1] 34)) (w.heap.size + 1) 34 #[.int .i64 (M : Int), .slice (some ⟨bx, ox, none⟩) us.length d1] := (Has.newAt (w := (w.alloc (.cells #[.slice B0 t0.length d0] 32))) (e := 34) (cs := #[.int .i64 (M : Int), .slice (some ⟨bx, ox, none⟩) us.length d1]) (k := w.heap.size + 1) (by simp))
  have HU := Lib.hid (fun k (hk : k < t0.length) => (⟨by rw [hm.len]; exact hk, (im_eq hm.rng (k := k) (by rw [hm.len]; exact hk)).2, by rw [← (im_eq hm.rng (k := k) (by rw [hm.len]; exact hk)).1]; exact ints_cell hX.ints (by rw [hm.len]; exact hk)⟩ : k < us.length ∧ im us k < M ∧ w.cell? ⟨bx, ox + k, none⟩ = some (.int .i64 (im us k : Int))))
  have g0 := GrowI.empty (lo := w.heap.size) ((w.alloc (.cells #[.slice B0 t0.length d0] 32)).alloc (.cells #[.int .i64 (M : Int), .slice (some ⟨bx, ox, none⟩) us.length d1] 34)) e0.size
  simp only [World.size_alloc] at g0
  have HE0 := Lib.hid e0
  clear hX hm
  go_enter Try.func64, Try.ntmps64
  go_wp2_with fail
  generalize ((w.alloc (.cells #[.slice B0 t0.length d0] 32)).alloc (.cells #[.int .i64 (M : Int), .slice (some ⟨bx, ox, none⟩) us.length d1] 34)) = W0 at *
  have HB0 := Lib.hid (b0.alloc (.cells #[] 2))
  have HB1 := Lib.hid (b1.alloc (.cells #[] 2))
  have HE1 := Lib.hid (e0.alloc (.cells #[] 2))
  have HG0 := Lib.hid g0
  clear b0 b1 e0 g0
  generalize W0.alloc (.cells #[] 2) = W1 at *
  go_loopw [7, 8] (fun v i wr => ∃ k : Nat, k ≤ t0.length ∧ i = .int .i64 (k : Int) ∧ Hid (Ex w wr) ∧ Hid (Has wr w.heap.size 32 #[.slice B0 t0.length d0]) ∧ Hid (Has wr (w.heap.size + 1) 34 #[.int .i64 (M : Int), .slice (some ⟨bx, ox, none⟩) us.length d1]) ∧ Hid (GrowI wr w.heap.size v k (prinL k M us m))) (fun _ i _ => t0.length - (intOf i).toNat)
  case atStart => exact ⟨0, Nat.zero_le _, rfl, HE1, HB0, HB1, Lib.hid (by exact HG0.out)⟩
  case round =>
    obtain ⟨k, hk, rfl, HE', HA, HB, HG'⟩ := hrel
    have c0 := HA.out.cell 0
    by_cases hlt : k < t0.length
    · obtain ⟨hku, huM, huc⟩ := HU.out k hlt
      have HPS := Lib.hid (prinL_snoc k M us m)
      have HPX : Hid (prinX M us m k = ((im us k : Int) * (m : Int) - (m : Int)) % (M : Int)) := Lib.hid rfl
      obtain ⟨x, hx⟩ : ∃ x, prinX M us m k = x := ⟨_, rfl⟩
      rw [hx] at HPS HPX
      obtain ⟨u, hu⟩ : ∃ u, im us k = u := ⟨_, rfl⟩
      rw [hu] at huM huc HPX
      obtain ⟨z0, hz0⟩ : ∃ z0, u * m = z0 := ⟨_, rfl⟩
      have hz144 : z0 ≤ 144 := by rw [← hz0]; exact Nat.le_trans (Nat.mul_le_mul (show u ≤ 12 by omega) (show m ≤ 12 by omega)) (by omega)
      have hpz : (u : Int) * (m : Int) = (z0 : Int) := by rw [← hz0]; simp
      rw [hpz] at HPX
      have hw1 : IntKind.i64.wrap (z0 : Int) = (z0 : Int) := IntWalk.i64_in _ (by omega)
      have hw2 : IntKind.i64.wrap ((z0 : Int) - (m : Int)) = (z0 : Int) - (m : Int) := IntWalk.i64_in _ (by omega)
      have HMV := Lib.hid (fun W => HPX.out ▸ l01Mod_ex ((z0 : Int) - (m : Int)) M W (by omega) hM12 (by omega) (by omega))
      have HUC := Lib.hid huc
      have hk0 : (0 : Int) ≤ (k : Int) := by omega
      have hkn : (k : Int) < (us.length : Int) := by omega
      clear hx hu hz0 huc
      go_wp2_with (go_at_call 78; refine (l01N_ex _ t0.length d0 _ (by omega)).mono ?_; rintro e wn ⟨rfl, hen⟩; have HE1' := Lib.hid (HE'.out.trans hen); have HA1 := Lib.hid (HA.out.ex hen); have HB1' := Lib.hid (HB.out.ex hen); have HG1 := Lib.hid (HG'.out.ex hen); clear hen c0)
      have hC0 := And.intro (HB1'.out.cell 0) (And.intro (HB1'.out.cell 1) ((HE1'.out.below.cell (p := ⟨bx, ox + k, none⟩) hbx).trans HUC.out))
      refine Late.region (C := fun w' => w'.cell? ⟨w.heap.size + 1, 0, none⟩ = some (.int .i64 (M : Int)) ∧ w'.cell? ⟨w.heap.size + 1, 1, none⟩ = some (.slice (some ⟨bx, ox, none⟩) us.length d1) ∧ w'.cell? ⟨bx, ox + k, none⟩ = some (.int .i64 (u : Int))) (fun j => decide (j < 15)) (by kernel_rfl) hC0 (fun hC => ?_)
      refine Late.take (i := 0) (oi := _) (v := ?_) rfl (by kernel_rfl) (by kernel_rfl) (by kernel_rfl) (by kernel_rfl) (fun _ _ _ h => h) (Or.inl ⟨by rfl, ?_⟩) hC ?_
      rotate_left
      · (intro w hSw; (try dsimp only at hSw); go_simp; first | done | with_reducible rfl)
      simp only [Act.put]
      refine Late.take (i := 1) (oi := _) (v := ?_) rfl (by kernel_rfl) (by kernel_rfl) (by kernel_rfl) (by kernel_rfl) (fun _ _ _ h => h) (Or.inl ⟨by rfl, ?_⟩) hC ?_
      rotate_left
      · (intro w hSw; (try dsimp only at hSw); go_simp; first | done | with_reducible rfl)
      simp only [Act.put]
      refine Late.take (i := 2) (oi := _) (v := ?_) rfl (by kernel_rfl) (by kernel_rfl) (by kernel_rfl) (by kernel_rfl) (fun _ _ _ h => h) (Or.inl ⟨by rfl, ?_⟩) hC ?_
      rotate_left
      · (intro w hSw; (try dsimp only at hSw); go_simp; first | done | with_reducible rfl)
      simp only [Act.put]
      refine Late.take (i := 3) (oi := _) (v := ?_) rfl (by kernel_rfl) (by kernel_rfl) (by kernel_rfl) (by kernel_rfl) (fun _ _ _ h => h) (Or.inl ⟨by rfl, ?_⟩) hC ?_
      rotate_left
      · (intro w hSw; (try dsimp only at hSw); go_simp; first | done | with_reducible rfl)
      simp only [Act.put]
      refine Late.take (i := 4) (oi := _) (v := ?_) rfl (by kernel_rfl) (by kernel_rfl) (by kernel_rfl) (by kernel_rfl) (fun _ _ _ h => h) (Or.inl ⟨by rfl, ?_⟩) hC ?_
      rotate_left
      · (intro w hSw; (try dsimp only at hSw); go_simp; first | done | with_reducible rfl)
      simp only [Act.put]
      refine Late.take (i := 5) (oi := _) (v := ?_) rfl (by kernel_rfl) (by kernel_rfl) (by kernel_rfl) (by kernel_rfl) (fun _ _ _ h => h) (Or.inl ⟨by rfl, ?_⟩) hC ?_
      rotate_left
      · (intro w hSw; (try dsimp only at hSw); go_simp; first | done | with_reducible rfl)
      simp only [Act.put]
      refine Late.take (i := 6) (oi := _) (v := ?_) rfl (by kernel_rfl) (by kernel_rfl) (by kernel_rfl) (by kernel_rfl) (fun _ _ _ h => h) (Or.inl ⟨by rfl, ?_⟩) hC ?_
      rotate_left
      · (intro w hSw; (try dsimp only at hSw); go_simp; first | done | with_reducible rfl)
      simp only [Act.put]
      refine Late.take (i := 7) (oi := _) (v := ?_) rfl (by kernel_rfl) (by kernel_rfl) (by kernel_rfl) (by kernel_rfl) (fun _ _ _ h => h) (Or.inl ⟨by rfl, ?_⟩) hC ?_
      rotate_left
      · (intro w hSw; (try dsimp only at hSw); go_simp; first | done | with_reducible rfl)
      simp only [Act.put]
      refine Late.take (i := 8) (oi := _) (v := ?_) rfl (by kernel_rfl) (by kernel_rfl) (by kernel_rfl) (by kernel_rfl) (fun _ _ _ h => h) (Or.inl ⟨by rfl, ?_⟩) hC ?_
      rotate_left
      · (intro w hSw; (try dsimp only at hSw); go_simp; first | done | with_reducible rfl)
      simp only [Act.put]
      refine Late.take (i := 9) (oi := _) (v := ?_) rfl (by kernel_rfl) (by kernel_rfl) (by kernel_rfl) (by kernel_rfl) (fun _ _ _ h => h) (Or.inl ⟨by rfl, ?_⟩) hC ?_
      rotate_left
      · (intro w hSw; (try dsimp only at hSw); go_simp; first | done | with_reducible rfl)
      simp only [Act.put]
      refine Late.take (i := 10) (oi := _) (v := ?_) rfl (by kernel_rfl) (by kernel_rfl) (by kernel_rfl) (by kernel_rfl) (fun _ _ _ h => h) (Or.inl ⟨by rfl, ?_⟩) hC ?_
      rotate_left
      · (intro w hSw; (try dsimp only at hSw); go_simp; first | done | with_reducible rfl)
      simp only [Act.put]
      refine Late.take (i := 11) (oi := _) (v := ?_) rfl (by kernel_rfl) (by kernel_rfl) (by kernel_rfl) (by kernel_rfl) (fun _ _ _ h => h) (Or.inl ⟨by rfl, ?_⟩) hC ?_
      rotate_left
      · (intro w hSw; (try dsimp only at hSw); go_simp; first | done | with_reducible rfl)
      simp only [Act.put]
      refine Late.one (i := 12) (o := _) (by kernel_rfl) rfl (fun K' hK' => ?_)
      go_simp
      refine (HMV.out _).mono ?_
      rintro e W6 ⟨rfl, he6⟩
      have hx6 : Ex wn W6 := (Ex.refl wn).drew.trans he6
      have HE := Lib.hid (HE1'.out.trans hx6)
      have HA6 := Lib.hid (HA1.out.ex hx6)
      have HB6 := Lib.hid (HB1'.out.ex hx6)
      have HG := Lib.hid (HG1.out.ex hx6)
      have huc6 := (HE.out.below.cell (p := ⟨bx, ox + k, none⟩) hbx).trans HUC.out
      have hbx6 : bx < W6.heap.size := Nat.lt_of_lt_of_le hbx HE.out.size
      refine hK'.out _ _ (fun _ => ⟨HB6.out.cell 0, HB6.out.cell 1, huc6⟩) (fun _ => ?_)
      clear hK' K' hC hC0 he6 hx6
      try simp only [Act.put, List.setIfInBounds_toArray, List.set_cons_zero, List.set_cons_succ]
      refine Late.one (i := 13) (o := _) (by kernel_rfl) rfl (fun K' hK' => ?_)
      go_simp
      have e1 := HE.out.alloc (.cells #[.int .i64 x] 2)
      have HA61 := HA6.out.alloc (.cells #[.int .i64 x] 2)
      have HB61 := HB6.out.alloc (.cells #[.int .i64 x] 2)
      have g1 := HG.out.ex (Ex.new W6 (.cells #[.int .i64 x] 2))
      have hn1 := cell_one_new W6 (.int .i64 x) 2
      have hz1 : W6.heap.size + 1 = (W6.alloc (.cells #[.int .i64 x] 2)).heap.size := by simp
      have hx1 := Ex.new W6 (.cells #[.int .i64 x] 2)
      refine hK'.out _ _ (fun _ => ⟨HB61.cell 0, HB61.cell 1, (hx1.below.cell (p := ⟨bx, ox + k, none⟩) hbx6).trans huc6⟩) (fun _ => ?_)
      clear hK' K'
      generalize W6.alloc (.cells #[.int .i64 x] 2) = w1 at *
      try simp only [Act.put, List.setIfInBounds_toArray, List.set_cons_zero, List.set_cons_succ]
      refine Late.one (i := 14) (o := _) (by kernel_rfl) rfl (fun K' hK' => ?_)
      rw [if_pos (by rfl)]
      refine wp_append_own _ _ _ 25 rfl w.heap.size 2 i0 (.int .i64 0) 1 8 Try.underlying25 hi hi0 hi1 hi2 rfl (by decide) _ _ _ rfl g1.1 ⟨W6.heap.size, 0, none⟩ 1 1 [.int .i64 x] rfl rfl hn1 (by simp [Value.oneCell']) (by unfold maxLen; omega) (by omega) (by have := e1.size; omega) ?_
      intro v' w3 hown3 hgrow3 _
      have HE3 := Lib.hid (Ex.grew e1 g1 (Nat.le_refl _) hgrow3)
      have HA63 := Lib.hid (Has.grew HA61 (by decide) g1 hgrow3)
      have HB63 := Lib.hid (Has.grew HB61 (by decide) g1 hgrow3)
      have HG3 := Lib.hid (g1.snoc hown3)
      refine hK'.out _ _ (fun _ => ⟨HB63.out.cell 0, HB63.out.cell 1, (HE3.out.below.cell (p := ⟨bx, ox + k, none⟩) hbx).trans HUC.out⟩) (fun _ => ?_)
      clear hK' K' hown3 hgrow3 g1 e1 hn1 hx1 HA61 HB61
      try simp only [Act.put]
      refine Late.one (i := 15) (o := _) (by kernel_rfl) rfl (fun K' hK' => ?_)
      go_simp
      refine hK'.out _ _ (fun h => by cases h) (fun _ => ?_)
      clear hK' K'
      try simp only [Act.put, List.setIfInBounds_toArray, List.set_cons_zero, List.set_cons_succ]
      refine Late.done (by kernel_rfl) ?_ _
      go_wp2_with fail
      go_roundw
      case rel => exact ⟨k + 1, by omega, by go_num, HE3, HA63, HB63, by rw [HPS.out]; exact HG3⟩
      case measure => simp [intOf]; omega
    · obtain rfl : k = t0.length := by omega
      go_wp2_with (go_at_call 78; refine (l01N_ex _ t0.length d0 _ (by omega)).mono ?_; rintro e wn ⟨rfl, hen⟩; have HE1' := Lib.hid (HE'.out.trans hen); have HG1 := Lib.hid (HG'.out.ex hen); clear hen c0)
      obtain ⟨A', n', rfl, hO⟩ := HG1.out.own
      have HO := Lib.hid hO
      clear hO
      go_ret
      exact ⟨A', n', rfl, HE1'.out, HO.out⟩

end Go.Proofs.Ytfafccldngekgaa
