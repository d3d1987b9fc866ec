/- ProductModule: the contract of the specification. -/
import Derived.Test.YtdehalkebneaoaaPq
namespace Go.Proofs.Ytdehalkebneaoaa
open Go.RowKit

theorem Late.norm {P : Program} {md : Region.Mode} {ops : Array Oper} {Q : Exit → Act → World → Prop} {C : World → Prop} {need : Nat → Bool} {k k' : Nat} {done : Array Bool} {a : Act} {w : World} (done' : Array Bool) (h : done = done') (hk : k = k') (h2 : Late P md ops Q C need k' done' a w) : Late P md ops Q C need k done a w := by
  subst h hk
  exact h2

theorem Late.world {P : Program} {md : Region.Mode} {ops : Array Oper} {Q : Exit → Act → World → Prop} {C : World → Prop} {need : Nat → Bool} {k : Nat} {done : Array Bool} {a : Act} {w : World} (F : World → Prop) (hF : F w) (h : ∀ X, F X → Late P md ops Q C need k done a X) : Late P md ops Q C need k done a w := h w hF

set_option maxRecDepth 100000 in
set_option maxHeartbeats 6000000 in
theorem specProductModule_ex (t0 : List (List Int)) (m1 : Int) (t1 : List Int) (m2 : Int) (t2 : List Int) : ∀ (B0 : Option Addr) (d0 : Nat) (B1 : Option Addr) (d1 : Nat) (B2 : Option Addr) (d2 : Nat) (W : World), RwsW W B0 t0 → IntsW W B1 t1 → IntsW W B2 t2 → SmallT t0 → t1.length ≤ 1048576 → t2.length ≤ 1048576 →
    Calls Try.prog 36 #[.agg #[.slice B0 t0.length d0], .agg #[.int .i64 m1, .slice B1 t1.length d1], .agg #[.int .i64 m2, .slice B2 t2.length d2]] W fun e W' => ∃ (C0 : Option Addr) (e0 : Nat), e = .returned (.tuple #[.agg #[.int .i64 (qProductModule0 t0 m1 t1 m2 t2), .slice C0 (yProductModule0 t0 m1 t1 m2 t2).length e0], .int .i64 (qProductModule1 t0 m1 t1 m2 t2)]) ∧ Ex W W' ∧ OwnL W' W.heap.size W'.heap.size C0 (yProductModule0 t0 m1 t1 m2 t2) := by
  intro B0 d0 B1 d1 B2 d2 w hR hX hY hs hx hy
  obtain ⟨i0, hi, hi0, hi1, hi2⟩ := info_parts infoI
  have e0 : Ex w (((((w.alloc (.cells #[.slice B0 t0.length d0] 29)).alloc (.cells #[.int .i64 m1, .slice B1 t1.length d1] 36)).alloc (.cells #[.int .i64 m2, .slice B2 t2.length d2] 36)).alloc (.cells #[.int .i64 0, .slice none 0 0] 36)).alloc (.cells #[.int .i64 m1, .slice B1 t1.length d1, .int .i64 m2, .slice B2 t2.length d2] 36)) := (((((Ex.refl w).alloc _).alloc _).alloc _).alloc _).alloc _
  have b0 : Has (((((w.alloc (.cells #[.slice B0 t0.length d0] 29)).alloc (.cells #[.int .i64 m1, .slice B1 t1.length d1] 36)).alloc (.cells #[.int .i64 m2, .slice B2 t2.length d2] 36)).alloc (.cells #[.int .i64 0, .slice none 0 0] 36)).alloc (.cells #[.int .i64 m1, .slice B1 t1.length d1, .int .i64 m2, .slice B2 t2.length d2] 36)) (w.heap.size) 29 #[.slice B0 t0.length d0] := (((((Has.newAt (w := w) (e := 29) (cs := #[.slice B0 t0.length d0]) (k := w.heap.size) (by simp)).alloc _).alloc _).alloc _).alloc _)
  have b1 : Has (((((w.alloc (.cells #[.slice B0 t0.length d0] 29)).alloc (.cells #[.int .i64 m1, .slice B1 t1.length d1] 36)).alloc (.cells #[.int .i64 m2, .slice B2 t2.length d2] 36)).alloc (.cells #[.int .i64 0, .slice none 0 0] 36)).alloc (.cells #[.int .i64 m1, .slice B1 t1.length d1, .int .i64 m2, .slice B2 t2.length d2] 36)) (w.heap.size + 1) 36 #[.int .i64 m1, .slice B1 t1.length d1] := ((((Has.newAt (w := (w.alloc (.cells #[.slice B0 t0.length d0] 29))) (e := 36) (cs := #[.int .i64 m1, .slice B1 t1.length d1]) (k := w.heap.size + 1) (by simp)).alloc _).alloc _).alloc _)
  have b2 : Has (((((w.alloc (.cells #[.slice B0 t0.length d0] 29)).alloc (.cells #[.int .i64 m1, .slice B1 t1.length d1] 36)).alloc (.cells #[.int .i64 m2, .slice B2 t2.length d2] 36)).alloc (.cells #[.int .i64 0, .slice none 0 0] 36)).alloc (.cells #[.int .i64 m1, .slice B1 t1.length d1, .int .i64 m2, .slice B2 t2.length d2] 36)) (w.heap.size + 1 + 1) 36 #[.int .i64 m2, .slice B2 t2.length d2] := (((Has.newAt (w := ((w.alloc (.cells #[.slice B0 t0.length d0] 29)).alloc (.cells #[.int .i64 m1, .slice B1 t1.length d1] 36))) (e := 36) (cs := #[.int .i64 m2, .slice B2 t2.length d2]) (k := w.heap.size + 1 + 1) (by simp)).alloc _).alloc _)
  have b3 : Has (((((w.alloc (.cells #[.slice B0 t0.length d0] 29)).alloc (.cells #[.int .i64 m1, .slice B1 t1.length d1] 36)).alloc (.cells #[.int .i64 m2, .slice B2 t2.length d2] 36)).alloc (.cells #[.int .i64 0, .slice none 0 0] 36)).alloc (.cells #[.int .i64 m1, .slice B1 t1.length d1, .int .i64 m2, .slice B2 t2.length d2] 36)) (w.heap.size + 1 + 1 + 1) 36 #[.int .i64 0, .slice none 0 0] := ((Has.newAt (w := (((w.alloc (.cells #[.slice B0 t0.length d0] 29)).alloc (.cells #[.int .i64 m1, .slice B1 t1.length d1] 36)).alloc (.cells #[.int .i64 m2, .slice B2 t2.length d2] 36))) (e := 36) (cs := #[.int .i64 0, .slice none 0 0]) (k := w.heap.size + 1 + 1 + 1) (by simp)).alloc _)
  have b4 : Has (((((w.alloc (.cells #[.slice B0 t0.length d0] 29)).alloc (.cells #[.int .i64 m1, .slice B1 t1.length d1] 36)).alloc (.cells #[.int .i64 m2, .slice B2 t2.length d2] 36)).alloc (.cells #[.int .i64 0, .slice none 0 0] 36)).alloc (.cells #[.int .i64 m1, .slice B1 t1.length d1, .int .i64 m2, .slice B2 t2.length d2] 36)) (w.heap.size + 1 + 1 + 1 + 1) 36 #[.int .i64 m1, .slice B1 t1.length d1, .int .i64 m2, .slice B2 t2.length d2] := (Has.newAt (w := ((((w.alloc (.cells #[.slice B0 t0.length d0] 29)).alloc (.cells #[.int .i64 m1, .slice B1 t1.length d1] 36)).alloc (.cells #[.int .i64 m2, .slice B2 t2.length d2] 36)).alloc (.cells #[.int .i64 0, .slice none 0 0] 36))) (e := 36) (cs := #[.int .i64 m1, .slice B1 t1.length d1, .int .i64 m2, .slice B2 t2.length d2]) (k := w.heap.size + 1 + 1 + 1 + 1) (by simp))
  have HC := Lib.hid (l02Code2_ex B0 B1 B2 t0 m1 m2 t1 t2 d0 d1 d2 (w.heap.size + 1 + 1 + 1 + 1) _ (hR.ex e0) (hX.ex e0) (hY.ex e0) hs hx hy b4)
  cases hg : gm2B t0 m1 t1 m2 t2 with
  | false =>
    have HQ := Lib.hid (pm_none hg)
    rw [gm2C_no hg] at HC
    clear hg
    go_enter Try.func36, Try.ntmps36
    go_wp2_with fail
    generalize (((((w.alloc (.cells #[.slice B0 t0.length d0] 29)).alloc (.cells #[.int .i64 m1, .slice B1 t1.length d1] 36)).alloc (.cells #[.int .i64 m2, .slice B2 t2.length d2] 36)).alloc (.cells #[.int .i64 0, .slice none 0 0] 36)).alloc (.cells #[.int .i64 m1, .slice B1 t1.length d1, .int .i64 m2, .slice B2 t2.length d2] 36)) = W0 at *
    refine HC.out.mono ?_
    rintro e W1 ⟨rfl, he1⟩
    have HB3 := Lib.hid (b3.ex he1)
    have c2 := HB3.out.cell 0
    have c2' := HB3.out.cell 1
    have f2 := HB3.out.free 0
    have f2' := HB3.out.free 1
    clear b0 b1 b2 b3 b4
    go_wp2_with fail
    have H4 := HB3.out.put2 (u := .int .i64 0) (v := .slice none 0 0)
    have c4 := H4.cell 0
    have c4' := H4.cell 1
    refine bodyPost_ret (v := .tuple #[.agg #[.int .i64 0, .slice none 0 0], .int .i64 1]) (by simp [results, Try.results36, go_sem, c4, c4']) rfl ⟨none, 0, by rw [HQ.out.1, HQ.out.2.1, HQ.out.2.2]; rfl, ((e0.trans he1).setCell (by show w.heap.size ≤ w.heap.size + 1 + 1 + 1; omega) _).setCell (by show w.heap.size ≤ w.heap.size + 1 + 1 + 1; omega) _, by rw [HQ.out.2.1]; exact OwnL.nil _ _ _ (Nat.le_refl _)⟩
  | true =>
    rw [gm2C_yes hg] at HC
    obtain ⟨hga, hgb⟩ := gm2B_f hg
    by_cases hmm : m1 = m2
    · subst hmm
      have hq0 : (m1 != m1) = false := by simp
      obtain ⟨M, rfl, hF⟩ := gmB_f hga
      have hF2 : ModF t0 M t2 := by
        obtain ⟨M', hM', hF2⟩ := gmB_f hgb
        obtain rfl : M = M' := by omega
        exact hF2
      have HQ := Lib.hid (pm_yes hg)
      have hm2 := hF.m2
      have hm12 := hF.m12
      have hn8 := hF.g.n8
      have HLEN := Lib.hid hF.len
      have HLEN2 := Lib.hid hF2.len
      have HRG := Lib.hid hF.rng
      have HRG2 := Lib.hid hF2.rng
      have hl8 : t1.length ≤ 8 := by rw [hF.len]; exact hF.g.n8
      have HX := Lib.hid hX
      have HY := Lib.hid hY
      have hne : ((M : Int) != 0) = true := by simp; omega
      have hne0 : ¬ M = 0 := by omega
      clear hs hF hF2 hg hga hgb hR hX hY hx hy
      go_enter Try.func36, Try.ntmps36
      go_wp2_with fail
      generalize (((((w.alloc (.cells #[.slice B0 t0.length d0] 29)).alloc (.cells #[.int .i64 (M : Int), .slice B1 t1.length d1] 36)).alloc (.cells #[.int .i64 (M : Int), .slice B2 t2.length d2] 36)).alloc (.cells #[.int .i64 0, .slice none 0 0] 36)).alloc (.cells #[.int .i64 (M : Int), .slice B1 t1.length d1, .int .i64 (M : Int), .slice B2 t2.length d2] 36)) = W0 at *
      refine HC.out.mono ?_
      rintro e W1 ⟨rfl, he1⟩
      have h0 := b0.ex he1
      have h1 := b1.ex he1
      have h2 := b2.ex he1
      have h3 := b3.ex he1
      have c1 := h1.cell 0
      have c2 := h2.cell 0
      have HE1 := Lib.hid (e0.trans he1)
      have a1 := (h1.alloc (.cells #[] 2)).alloc (.cells #[.int .i64 (M : Int), .slice (some ⟨W1.heap.size, 0, none⟩) 0 0] 36)
      have a2 := (h2.alloc (.cells #[] 2)).alloc (.cells #[.int .i64 (M : Int), .slice (some ⟨W1.heap.size, 0, none⟩) 0 0] 36)
      have a3 := (h3.alloc (.cells #[] 2)).alloc (.cells #[.int .i64 (M : Int), .slice (some ⟨W1.heap.size, 0, none⟩) 0 0] 36)
      have a4 := Has.newAt (w := W1.alloc (.cells #[] 2)) (e := 36) (cs := #[.int .i64 (M : Int), .slice (some ⟨W1.heap.size, 0, none⟩) 0 0]) (k := W1.heap.size + 1) (by simp)
      have g0 := (GrowI.empty (lo := w.heap.size) W1 HE1.out.size).ex (Ex.new _ (.cells #[.int .i64 (M : Int), .slice (some ⟨W1.heap.size, 0, none⟩) 0 0] 36))
      have e4 := (HE1.out.alloc (.cells #[] 2)).alloc (.cells #[.int .i64 (M : Int), .slice (some ⟨W1.heap.size, 0, none⟩) 0 0] 36)
      have hz2 := h3.lt
      obtain ⟨D, hD⟩ : ∃ D, W1.heap.size = D := ⟨_, rfl⟩
      clear h0 h1 h2 h3 b0 b1 b2 b3 b4 e0 he1
      go_wp2_with fail
      rw [hD] at a1 a2 a3 a4 g0 e4 hz2
      generalize (W1.alloc (.cells #[] 2)).alloc (.cells #[.int .i64 (M : Int), .slice (some ⟨D, 0, none⟩) 0 0] 36) = W2 at *
      have HB1 := Lib.hid a1
      have HB2 := Lib.hid a2
      have HB3 := Lib.hid a3
      have HB4 := Lib.hid a4
      have HG0 := Lib.hid g0
      have HE0 := Lib.hid e4
      clear a1 a2 a3 a4 g0 e4 c1 c2 hD hq0
      go_loopw [10] (fun i wr => ∃ (k : Nat) (v : Value), k ≤ t1.length ∧ i = .int .i64 (k : Int) ∧ Hid (Ex w wr) ∧ Hid (Has wr (w.heap.size + 1) 36 #[.int .i64 (M : Int), .slice B1 t1.length d1]) ∧ Hid (Has wr (w.heap.size + 1 + 1) 36 #[.int .i64 (M : Int), .slice B2 t2.length d2]) ∧ Hid (Has wr (w.heap.size + 1 + 1 + 1) 36 #[.int .i64 0, .slice none 0 0]) ∧
        Hid (Has wr (D + 1) 36 #[.int .i64 (M : Int), v]) ∧ Hid (GrowI wr w.heap.size v k ((List.range k).map (pu M t1 t2)))) (fun i _ => t1.length - (intOf i).toNat)
      case atStart => exact ⟨0, _, Nat.zero_le _, rfl, HE0, HB1, HB2, HB3, HB4, HG0⟩
      case round =>
        obtain ⟨k, v, hk, rfl, HE, HA1, HA2, HA3, HA4, HG⟩ := hrel
        have c1 := HA1.out.cell 0
        have c1' := HA1.out.cell 1
        have c4 := HA4.out.cell 0
        have c4' := HA4.out.cell 1
        by_cases hlt : k < t1.length
        · have hlt2 : k < t2.length := by rw [HLEN2.out, ← HLEN.out]; exact hlt
          obtain ⟨bx, ox, rfl, hbx, hcx⟩ := HX.out.ints.at_ hlt
          obtain ⟨by_, oy, rfl, hby, hcy⟩ := HY.out.ints.at_ hlt2
          have hr1 := HRG.out k hlt
          have hr2 := HRG2.out k hlt2
          have hu12 : im t1 k ≤ 12 := by simp only [im]; omega
          have hv12 : im t2 k ≤ 12 := by simp only [im]; omega
          have hu : (im t1 k : Int) = nth t1 k := by simp [im, Int.toNat_of_nonneg hr1.1]
          have hv : (im t2 k : Int) = nth t2 k := by simp [im, Int.toNat_of_nonneg hr2.1]
          rw [← hu] at hcx
          rw [← hv] at hcy
          have h144 : im t1 k * im t2 k ≤ 144 := Nat.le_trans (Nat.mul_le_mul hu12 hv12) (by omega)
          have hp : (im t1 k : Int) * (im t2 k : Int) = ((im t1 k * im t2 k : Nat) : Int) := by simp
          have ht := tmod_nat (im t1 k * im t2 k) M
          have hmz : im t1 k * im t2 k % M < M := Nat.mod_lt _ (by omega)
          obtain ⟨z, hz'⟩ : ∃ z, im t1 k * im t2 k % M = z := ⟨_, rfl⟩
          have HZ : Hid (pu M t1 t2 k = (z : Int)) := Lib.hid (by rw [pu, hz'])
          rw [hz'] at ht hmz
          clear hz' hu hv hr1 hr2
          generalize im t1 k * im t2 k = y at *
          generalize im t1 k = u at *
          generalize im t2 k = u2 at *
          have hwy : IntKind.i64.wrap (y : Int) = (y : Int) := IntWalk.i64_in _ (by omega)
          have hi0' : (0 : Int) ≤ (k : Int) := by omega
          have hin : (k : Int) < (t1.length : Int) := by omega
          have hin2 : (k : Int) < (t2.length : Int) := by omega
          have HCX := Lib.hid hcx
          have HCY := Lib.hid hcy
          have hxc : wr.cell? ⟨bx, ox + k, none⟩ = some (.int .i64 (u : Int)) := (HE.out.below.cell (p := ⟨bx, ox + k, none⟩) hbx).trans hcx
          have hyc : wr.cell? ⟨by_, oy + k, none⟩ = some (.int .i64 (u2 : Int)) := (HE.out.below.cell (p := ⟨by_, oy + k, none⟩) hby).trans hcy
          have c2' := HA2.out.cell 1
          clear hcx hcy
          go_wp2_with fail
          refine Late.region (C := fun w' => w'.cell? ⟨D + 1, 1, none⟩ = some v ∧ w'.cell? ⟨w.heap.size + 1, 1, none⟩ = some (.slice (some ⟨bx, ox, none⟩) t1.length d1) ∧ w'.cell? ⟨w.heap.size + 1, 0, none⟩ = some (.int .i64 (M : Int)) ∧ w'.cell? ⟨w.heap.size + 1 + 1, 1, none⟩ = some (.slice (some ⟨by_, oy, none⟩) t2.length d2) ∧ w'.cell? ⟨bx, ox + k, none⟩ = some (.int .i64 (u : Int)) ∧ w'.cell? ⟨by_, oy + k, none⟩ = some (.int .i64 (u2 : Int))) (fun j => decide (j < 18)) (by kernel_rfl) ⟨c4', c1', c1, c2', hxc, hyc⟩ (fun hC => ?_)
          refine Late.take (i := 0) (oi := _) (v := ?_) rfl (by kernel_rfl) (by kernel_rfl) (by kernel_rfl) (by kernel_rfl) (fun _ _ _ h => h) (Or.inl ⟨by rfl, ?_⟩) hC ?_
          rotate_left
          · (intro w hSw; (try dsimp only at hSw); go_simp; first | done | with_reducible rfl)
          simp only [Act.put, List.setIfInBounds_toArray, List.set_cons_zero, List.set_cons_succ]
          refine Late.take (i := 1) (oi := _) (v := ?_) rfl (by kernel_rfl) (by kernel_rfl) (by kernel_rfl) (by kernel_rfl) (fun _ _ _ h => h) (Or.inl ⟨by rfl, ?_⟩) hC ?_
          rotate_left
          · (intro w hSw; (try dsimp only at hSw); go_simp; first | done | with_reducible rfl)
          simp only [Act.put, List.setIfInBounds_toArray, List.set_cons_zero, List.set_cons_succ]
          refine Late.take (i := 2) (oi := _) (v := ?_) rfl (by kernel_rfl) (by kernel_rfl) (by kernel_rfl) (by kernel_rfl) (fun _ _ _ h => h) (Or.inl ⟨by rfl, ?_⟩) hC ?_
          rotate_left
          · (intro w hSw; (try dsimp only at hSw); go_simp; first | done | with_reducible rfl)
          simp only [Act.put, List.setIfInBounds_toArray, List.set_cons_zero, List.set_cons_succ]
          refine Late.take (i := 3) (oi := _) (v := ?_) rfl (by kernel_rfl) (by kernel_rfl) (by kernel_rfl) (by kernel_rfl) (fun _ _ _ h => h) (Or.inl ⟨by rfl, ?_⟩) hC ?_
          rotate_left
          · (intro w hSw; (try dsimp only at hSw); go_simp; first | done | with_reducible rfl)
          simp only [Act.put, List.setIfInBounds_toArray, List.set_cons_zero, List.set_cons_succ]
          refine Late.take (i := 4) (oi := _) (v := ?_) rfl (by kernel_rfl) (by kernel_rfl) (by kernel_rfl) (by kernel_rfl) (fun _ _ _ h => h) (Or.inl ⟨by rfl, ?_⟩) hC ?_
          rotate_left
          · (intro w hSw; (try dsimp only at hSw); go_simp; first | done | with_reducible rfl)
          simp only [Act.put, List.setIfInBounds_toArray, List.set_cons_zero, List.set_cons_succ]
          refine Late.take (i := 5) (oi := _) (v := ?_) rfl (by kernel_rfl) (by kernel_rfl) (by kernel_rfl) (by kernel_rfl) (fun _ _ _ h => h) (Or.inl ⟨by rfl, ?_⟩) hC ?_
          rotate_left
          · (intro w hSw; (try dsimp only at hSw); go_simp; first | done | with_reducible rfl)
          simp only [Act.put, List.setIfInBounds_toArray, List.set_cons_zero, List.set_cons_succ]
          refine Late.take (i := 6) (oi := _) (v := ?_) rfl (by kernel_rfl) (by kernel_rfl) (by kernel_rfl) (by kernel_rfl) (fun _ _ _ h => h) (Or.inl ⟨by rfl, ?_⟩) hC ?_
          rotate_left
          · (intro w hSw; (try dsimp only at hSw); go_simp; first | done | with_reducible rfl)
          simp only [Act.put, List.setIfInBounds_toArray, List.set_cons_zero, List.set_cons_succ]
          refine Late.take (i := 7) (oi := _) (v := ?_) rfl (by kernel_rfl) (by kernel_rfl) (by kernel_rfl) (by kernel_rfl) (fun _ _ _ h => h) (Or.inl ⟨by rfl, ?_⟩) hC ?_
          rotate_left
          · (intro w hSw; (try dsimp only at hSw); go_simp; first | done | with_reducible rfl)
          simp only [Act.put, List.setIfInBounds_toArray, List.set_cons_zero, List.set_cons_succ]
          refine Late.norm #[true, true, true, true, true, true, true, true, false, false, false, false, false, false, false, false, false, false, false, false] (k' := 12) (by kernel_rfl) (by kernel_rfl) ?_
          refine Late.take (i := 8) (oi := _) (v := ?_) rfl (by kernel_rfl) (by kernel_rfl) (by kernel_rfl) (by kernel_rfl) (fun _ _ _ h => h) (Or.inl ⟨by rfl, ?_⟩) hC ?_
          rotate_left
          · (intro w hSw; (try dsimp only at hSw); go_simp; first | done | with_reducible rfl)
          simp only [Act.put, List.setIfInBounds_toArray, List.set_cons_zero, List.set_cons_succ]
          refine Late.take (i := 9) (oi := _) (v := ?_) rfl (by kernel_rfl) (by kernel_rfl) (by kernel_rfl) (by kernel_rfl) (fun _ _ _ h => h) (Or.inl ⟨by rfl, ?_⟩) hC ?_
          rotate_left
          · (intro w hSw; (try dsimp only at hSw); go_simp; first | done | with_reducible rfl)
          simp only [Act.put, List.setIfInBounds_toArray, List.set_cons_zero, List.set_cons_succ]
          refine Late.take (i := 10) (oi := _) (v := ?_) rfl (by kernel_rfl) (by kernel_rfl) (by kernel_rfl) (by kernel_rfl) (fun _ _ _ h => h) (Or.inl ⟨by rfl, ?_⟩) hC ?_
          rotate_left
          · (intro w hSw; (try dsimp only at hSw); go_simp; first | done | with_reducible rfl)
          simp only [Act.put, List.setIfInBounds_toArray, List.set_cons_zero, List.set_cons_succ]
          refine Late.take (i := 11) (oi := _) (v := ?_) rfl (by kernel_rfl) (by kernel_rfl) (by kernel_rfl) (by kernel_rfl) (fun _ _ _ h => h) (Or.inl ⟨by rfl, ?_⟩) hC ?_
          rotate_left
          · (intro w hSw; (try dsimp only at hSw); go_simp; first | done | with_reducible rfl)
          simp only [Act.put, List.setIfInBounds_toArray, List.set_cons_zero, List.set_cons_succ]
          refine Late.take (i := 12) (oi := _) (v := ?_) rfl (by kernel_rfl) (by kernel_rfl) (by kernel_rfl) (by kernel_rfl) (fun _ _ _ h => h) (Or.inl ⟨by rfl, ?_⟩) hC ?_
          rotate_left
          · (intro w hSw; (try dsimp only at hSw); go_simp; first | done | with_reducible rfl)
          simp only [Act.put, List.setIfInBounds_toArray, List.set_cons_zero, List.set_cons_succ]
          refine Late.take (i := 13) (oi := _) (v := ?_) rfl (by kernel_rfl) (by kernel_rfl) (by kernel_rfl) (by kernel_rfl) (fun _ _ _ h => h) (Or.inl ⟨by rfl, ?_⟩) hC ?_
          rotate_left
          · (intro w hSw; (try dsimp only at hSw); go_simp; first | done | with_reducible rfl)
          simp only [Act.put, List.setIfInBounds_toArray, List.set_cons_zero, List.set_cons_succ]
          refine Late.take (i := 14) (oi := _) (v := ?_) rfl (by kernel_rfl) (by kernel_rfl) (by kernel_rfl) (by kernel_rfl) (fun _ _ _ h => h) (Or.inl ⟨by rfl, ?_⟩) hC ?_
          rotate_left
          · (intro w hSw; (try dsimp only at hSw); go_simp; first | done | with_reducible rfl)
          simp only [Act.put, List.setIfInBounds_toArray, List.set_cons_zero, List.set_cons_succ]
          refine Late.take (i := 15) (oi := _) (v := ?_) rfl (by kernel_rfl) (by kernel_rfl) (by kernel_rfl) (by kernel_rfl) (fun _ _ _ h => h) (Or.inl ⟨by rfl, ?_⟩) hC ?_
          rotate_left
          · (intro w hSw; (try dsimp only at hSw); go_simp; first | done | with_reducible rfl)
          simp only [Act.put, List.setIfInBounds_toArray, List.set_cons_zero, List.set_cons_succ]
          refine Late.norm #[true, true, true, true, true, true, true, true, true, true, true, true, true, true, true, true, false, false, false, false] (k' := 4) (by kernel_rfl) (by kernel_rfl) ?_
          refine Late.world (fun X => Hid (Ex w X) ∧ Hid (Has X (w.heap.size + 1) 36 #[.int .i64 (M : Int), .slice (some ⟨bx, ox, none⟩) t1.length d1]) ∧ Hid (Has X (w.heap.size + 1 + 1) 36 #[.int .i64 (M : Int), .slice (some ⟨by_, oy, none⟩) t2.length d2]) ∧ Hid (Has X (w.heap.size + 1 + 1 + 1) 36 #[.int .i64 0, .slice none 0 0]) ∧
            Hid (Has X (D + 1) 36 #[.int .i64 (M : Int), v]) ∧ Hid (GrowI X w.heap.size v k ((List.range k).map (pu M t1 t2))) ∧ X.cell? ⟨bx, ox + k, none⟩ = some (.int .i64 (u : Int)) ∧ X.cell? ⟨by_, oy + k, none⟩ = some (.int .i64 (u2 : Int))) ⟨Lib.hid HE.out.drew, HA1, HA2, HA3, HA4, Lib.hid (HG.out.ex (Ex.refl wr).drew), hxc, hyc⟩ (fun X hF => ?_)
          clear hC HE HA1 HA2 HA3 HA4 HG hxc hyc c1 c1' c2' c4 c4'
          obtain ⟨HE, HA1, HA2, HA3, HA4, HG, hxc, hyc⟩ := hF
          refine Late.one (i := 16) (o := _) (by kernel_rfl) rfl (fun K' hK' => ?_)
          go_simp
          have e1 := HE.out.alloc (.cells #[.int .i64 (z : Int)] 2)
          have HA11 := HA1.out.alloc (.cells #[.int .i64 (z : Int)] 2)
          have HA21 := HA2.out.alloc (.cells #[.int .i64 (z : Int)] 2)
          have HA31 := HA3.out.alloc (.cells #[.int .i64 (z : Int)] 2)
          have HA41 := HA4.out.alloc (.cells #[.int .i64 (z : Int)] 2)
          have g1 := HG.out.ex (Ex.new X (.cells #[.int .i64 (z : Int)] 2))
          have hn1 := cell_one_new X (.int .i64 (z : Int)) 2
          have hz1 : X.heap.size + 1 = (X.alloc (.cells #[.int .i64 (z : Int)] 2)).heap.size := by simp
          have hx1 := Ex.new X (.cells #[.int .i64 (z : Int)] 2)
          refine hK'.out _ _ (fun _ => ⟨HA41.cell 1, HA11.cell 1, HA11.cell 0, HA21.cell 1, (hx1.below.cell (p := ⟨bx, ox + k, none⟩) (by have := HE.out.size; show bx < _; omega)).trans hxc, (hx1.below.cell (p := ⟨by_, oy + k, none⟩) (by have := HE.out.size; show by_ < _; omega)).trans hyc⟩) (fun _ => ?_)
          clear hK' K'
          generalize X.alloc (.cells #[.int .i64 (z : Int)] 2) = w1 at *
          try simp only [Act.put, List.setIfInBounds_toArray, List.set_cons_zero, List.set_cons_succ]
          refine Late.one (i := 17) (o := _) (by kernel_rfl) rfl (fun K' hK' => ?_)
          rw [if_pos (by rfl)]
          refine wp_append_own _ _ _ 25 rfl w.heap.size 2 i0 (.int .i64 0) 1 8 Try.underlying25 hi hi0 hi1 hi2 rfl (by decide) _ _ _ rfl g1.1 ⟨X.heap.size, 0, none⟩ 1 1 [.int .i64 (z : Int)] rfl rfl hn1 (by simp [Value.oneCell']) (by unfold maxLen; omega) (by omega) (by have := e1.size; omega) ?_
          intro v' w3 hown3 hgrow3 _
          obtain ⟨g3, cap3, rfl⟩ := ownsRow_succ hown3
          have HE3 := Lib.hid (Ex.grew e1 g1 (Nat.le_refl _) hgrow3)
          have HA13 := Lib.hid (Has.grew HA11 (by decide) g1 hgrow3)
          have HA23 := Lib.hid (Has.grew HA21 (by decide) g1 hgrow3)
          have HA33 := Lib.hid (Has.grew HA31 (by decide) g1 hgrow3)
          have HA43 := Lib.hid (Has.grew HA41 (by decide) g1 hgrow3)
          have HG3 := Lib.hid (g1.snoc hown3)
          have c33 := HA43.out.cell 1
          have f33 := HA43.out.free 1
          refine hK'.out _ _ (fun _ => ⟨HA43.out.cell 1, HA13.out.cell 1, HA13.out.cell 0, HA23.out.cell 1, (HE3.out.below.cell (p := ⟨bx, ox + k, none⟩) hbx).trans HCX.out, (HE3.out.below.cell (p := ⟨by_, oy + k, none⟩) hby).trans HCY.out⟩) (fun _ => ?_)
          clear hK' K' hown3 hgrow3 g1 e1 hn1 hx1 HA11 HA21 HA31 HA41
          try simp only [Act.put, List.setIfInBounds_toArray, List.set_cons_zero, List.set_cons_succ]
          refine Late.one (i := 18) (o := _) (by kernel_rfl) rfl (fun K' hK' => ?_)
          go_simp
          refine hK'.out _ _ (fun h => by cases h) (fun _ => ?_)
          clear hK' K'
          try simp only [Act.put, List.setIfInBounds_toArray, List.set_cons_zero, List.set_cons_succ]
          refine Late.one (i := 19) (o := _) (by kernel_rfl) rfl (fun K' hK' => ?_)
          go_simp
          refine hK'.out _ _ (fun h => by cases h) (fun _ => ?_)
          clear hK' K'
          try simp only [Act.put, List.setIfInBounds_toArray, List.set_cons_zero, List.set_cons_succ]
          refine Late.done (by kernel_rfl) ?_ _
          go_wp2_with fail
          refine ⟨?rel, ?measure⟩
          case rel =>
            have hDw : w.heap.size ≤ D := by omega
            refine ⟨k + 1, _, by omega, by go_num, Lib.hid (HE3.out.setCell (by show w.heap.size ≤ D + 1; omega) _), Lib.hid (HA13.out.far (by show w.heap.size + 1 ≠ D + 1; omega) _), Lib.hid (HA23.out.far (by show w.heap.size + 1 + 1 ≠ D + 1; omega) _), Lib.hid (HA33.out.far (by show w.heap.size + 1 + 1 + 1 ≠ D + 1; omega) _), Lib.hid (by simpa using HA43.out.put 1 _), Lib.hid ?_⟩
            rw [List.range_succ, List.map_append, List.map_cons, List.map_nil, HZ.out]
            exact HG3.out.set HA43.out (by decide) _ _
          case measure => simp [intOf]; omega
        · obtain rfl : k = t1.length := by omega
          obtain ⟨A', n', rfl, hO⟩ := HG.out.own
          have f3 := HA3.out.free 0
          have f3' := HA3.out.free 1
          have c3 := HA3.out.cell 0
          have c3' := HA3.out.cell 1
          rw [List.length_map, List.length_range] at c4'
          clear hO
          go_wp2_with fail
          have H4 := HA3.out.put2 (u := .int .i64 (M : Int)) (v := .slice A' t1.length n')
          have c4 := H4.cell 0
          have c4' := H4.cell 1
          refine bodyPost_ret (v := .tuple #[.agg #[.int .i64 (M : Int), .slice A' t1.length n'], .int .i64 0]) (by simp [results, Try.results36, go_sem, c4, c4']) rfl ⟨A', n', by rw [HQ.out.1, HQ.out.2.1, HQ.out.2.2]; simp [HLEN.out], (HE.out.setCell (by show w.heap.size ≤ w.heap.size + 1 + 1 + 1; omega) _).setCell (by show w.heap.size ≤ w.heap.size + 1 + 1 + 1; omega) _, ?_⟩
          obtain ⟨A2, n2, e2, hO⟩ := ((HG.out.set HA3.out (by decide) 0 (.int .i64 (M : Int))).set (HA3.out.put 0 (.int .i64 (M : Int))) (by decide) 1 (.slice A' t1.length n')).own
          simp only [Value.slice.injEq] at e2
          obtain ⟨rfl, _, rfl⟩ := e2
          rw [HQ.out.2.1, ← HLEN.out]
          exact hO
    · have hq0 : (m1 != m2) = true := by simp [hmm]
      have HQ := Lib.hid (pm_no hg hmm)
      clear hg hmm hga hgb
      go_enter Try.func36, Try.ntmps36
      go_wp2_with fail
      generalize (((((w.alloc (.cells #[.slice B0 t0.length d0] 29)).alloc (.cells #[.int .i64 m1, .slice B1 t1.length d1] 36)).alloc (.cells #[.int .i64 m2, .slice B2 t2.length d2] 36)).alloc (.cells #[.int .i64 0, .slice none 0 0] 36)).alloc (.cells #[.int .i64 m1, .slice B1 t1.length d1, .int .i64 m2, .slice B2 t2.length d2] 36)) = W0 at *
      refine HC.out.mono ?_
      rintro e W1 ⟨rfl, he1⟩
      have HB3 := Lib.hid (b3.ex he1)
      have c0 := (b1.ex he1).cell 0
      have c1 := (b2.ex he1).cell 0
      have c2 := HB3.out.cell 0
      have c2' := HB3.out.cell 1
      have f2 := HB3.out.free 0
      have f2' := HB3.out.free 1
      clear b0 b1 b2 b3 b4
      go_wp2_with fail
      have H4 := HB3.out.put2 (u := .int .i64 0) (v := .slice none 0 0)
      have c4 := H4.cell 0
      have c4' := H4.cell 1
      refine bodyPost_ret (v := .tuple #[.agg #[.int .i64 0, .slice none 0 0], .int .i64 5]) (by simp [results, Try.results36, go_sem, c4, c4']) rfl ⟨none, 0, by rw [HQ.out.1, HQ.out.2.1, HQ.out.2.2]; rfl, ((e0.trans he1).setCell (by show w.heap.size ≤ w.heap.size + 1 + 1 + 1; omega) _).setCell (by show w.heap.size ≤ w.heap.size + 1 + 1 + 1; omega) _, by rw [HQ.out.2.1]; exact OwnL.nil _ _ _ (Nat.le_refl _)⟩


end Go.Proofs.Ytdehalkebneaoaa
