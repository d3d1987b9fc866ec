/- ProductModule: the contract of the program. -/
import Derived.Test.YtdehalkebneaoaaPq
namespace Go.Proofs.Ytdehalkebneaoaa
open Go.RowKit

set_option maxRecDepth 100000 in
set_option maxHeartbeats 1000000 in
theorem prodUnit_ex (x M ba oa la ca bb ob lb cb Ba Bb : Nat) (us vs : List Int) (w : World) (ha : w.cell? ⟨Ba, 1, none⟩ = some (.slice (some ⟨ba, oa, none⟩) la ca)) (hm : w.cell? ⟨Ba, 0, none⟩ = some (.int .i64 (M : Int))) (hb : w.cell? ⟨Bb, 1, none⟩ = some (.slice (some ⟨bb, ob, none⟩) lb cb))
    (hx : x < la) (hx2 : x < lb) (hc : w.cell? ⟨ba, oa + x, none⟩ = some (.int .i64 (im us x : Int))) (hd : w.cell? ⟨bb, ob + x, none⟩ = some (.int .i64 (im vs x : Int))) (hu : im us x ≤ 12) (hv : im vs x ≤ 12) (hM : 0 < M) (_ : la ≤ 8) (_ : lb ≤ 8) :
    Calls Try.prog 82 #[.int .i64 (x : Int), .pointer (some ⟨Ba, 0, none⟩), .pointer (some ⟨Bb, 0, none⟩)] w fun e w' => e = .returned (.int .i64 (pu M us vs x)) ∧ Ex w w' := by
  have h144 : im us x * im vs x ≤ 144 := Nat.le_trans (Nat.mul_le_mul hu hv) (by omega)
  have hp : (im us x : Int) * (im vs x : Int) = ((im us x * im vs x : Nat) : Int) := by simp
  have ht := tmod_nat (im us x * im vs x) M
  have hne : ((M : Int) != 0) = true := by simp; omega
  have hmz : im us x * im vs x % M < M := Nat.mod_lt _ hM
  have hmz2 : im us x * im vs x % M ≤ im us x * im vs x := Nat.mod_le _ _
  obtain ⟨z, hz'⟩ : ∃ z, im us x * im vs x % M = z := ⟨_, rfl⟩
  have HZ : Hid (pu M us vs x = (z : Int)) := Lib.hid (by rw [pu, hz'])
  rw [hz'] at ht hmz hmz2
  clear hz'
  generalize im us x * im vs x = y at *
  generalize im us x = u at *
  generalize im vs x = u2 at *
  go_enter Try.func82, Try.ntmps82
  go_wp2_with fail
  go_quiet (fail)
  go_wp2_with fail
  go_ret
  exact ⟨by rw [HZ.out]; rfl, Ex.drewN (Ex.refl w) _⟩

set_option maxRecDepth 100000 in
set_option maxHeartbeats 4000000 in
theorem implProductModule_ex (t0 : List (List Int)) (m1 : Int) (t1 : List Int) (m2 : Int) (t2 : List Int) : ∀ (B0 : Option Addr) (d0 : Nat) (B1 : Option Addr) (d1 : Nat) (B2 : Option Addr) (d2 : Nat) (W : World), RwsW W B0 t0 → IntsW W B1 t1 → IntsW W B2 t2 → SmallT t0 → t1.length ≤ 1048576 → t2.length ≤ 1048576 →
    Calls Try.prog 37 #[.agg #[.slice B0 t0.length d0], .agg #[.int .i64 m1, .slice B1 t1.length d1], .agg #[.int .i64 m2, .slice B2 t2.length d2]] W fun e W' => ∃ (C0 : Option Addr) (e0 : Nat), e = .returned (.tuple #[.agg #[.int .i64 (qProductModule0 t0 m1 t1 m2 t2), .slice C0 (yProductModule0 t0 m1 t1 m2 t2).length e0], .int .i64 (qProductModule1 t0 m1 t1 m2 t2)]) ∧ Ex W W' ∧ OwnL W' W.heap.size W'.heap.size C0 (yProductModule0 t0 m1 t1 m2 t2) := by
  intro B0 d0 B1 d1 B2 d2 w hR hX hY hs hx hy
  have e0 : Ex w ((((w.alloc (.cells #[.slice B0 t0.length d0] 29)).alloc (.cells #[.int .i64 m1, .slice B1 t1.length d1] 36)).alloc (.cells #[.int .i64 m2, .slice B2 t2.length d2] 36)).alloc (.cells #[.int .i64 0, .slice none 0 0] 36)) := ((((Ex.refl w).alloc _).alloc _).alloc _).alloc _
  have b0 : Has ((((w.alloc (.cells #[.slice B0 t0.length d0] 29)).alloc (.cells #[.int .i64 m1, .slice B1 t1.length d1] 36)).alloc (.cells #[.int .i64 m2, .slice B2 t2.length d2] 36)).alloc (.cells #[.int .i64 0, .slice none 0 0] 36)) (w.heap.size) 29 #[.slice B0 t0.length d0] := ((((Has.newAt (w := w) (e := 29) (cs := #[.slice B0 t0.length d0]) (k := w.heap.size) (by simp)).alloc _).alloc _).alloc _)
  have b1 : Has ((((w.alloc (.cells #[.slice B0 t0.length d0] 29)).alloc (.cells #[.int .i64 m1, .slice B1 t1.length d1] 36)).alloc (.cells #[.int .i64 m2, .slice B2 t2.length d2] 36)).alloc (.cells #[.int .i64 0, .slice none 0 0] 36)) (w.heap.size + 1) 36 #[.int .i64 m1, .slice B1 t1.length d1] := (((Has.newAt (w := (w.alloc (.cells #[.slice B0 t0.length d0] 29))) (e := 36) (cs := #[.int .i64 m1, .slice B1 t1.length d1]) (k := w.heap.size + 1) (by simp)).alloc _).alloc _)
  have b2 : Has ((((w.alloc (.cells #[.slice B0 t0.length d0] 29)).alloc (.cells #[.int .i64 m1, .slice B1 t1.length d1] 36)).alloc (.cells #[.int .i64 m2, .slice B2 t2.length d2] 36)).alloc (.cells #[.int .i64 0, .slice none 0 0] 36)) (w.heap.size + 1 + 1) 36 #[.int .i64 m2, .slice B2 t2.length d2] := ((Has.newAt (w := ((w.alloc (.cells #[.slice B0 t0.length d0] 29)).alloc (.cells #[.int .i64 m1, .slice B1 t1.length d1] 36))) (e := 36) (cs := #[.int .i64 m2, .slice B2 t2.length d2]) (k := w.heap.size + 1 + 1) (by simp)).alloc _)
  have b3 : Has ((((w.alloc (.cells #[.slice B0 t0.length d0] 29)).alloc (.cells #[.int .i64 m1, .slice B1 t1.length d1] 36)).alloc (.cells #[.int .i64 m2, .slice B2 t2.length d2] 36)).alloc (.cells #[.int .i64 0, .slice none 0 0] 36)) (w.heap.size + 1 + 1 + 1) 36 #[.int .i64 0, .slice none 0 0] := (Has.newAt (w := (((w.alloc (.cells #[.slice B0 t0.length d0] 29)).alloc (.cells #[.int .i64 m1, .slice B1 t1.length d1] 36)).alloc (.cells #[.int .i64 m2, .slice B2 t2.length d2] 36))) (e := 36) (cs := #[.int .i64 0, .slice none 0 0]) (k := w.heap.size + 1 + 1 + 1) (by simp))
  have HC := Lib.hid (isModule_ex B0 B1 t0 m1 t1 d0 d1 _ (hR.ex e0) (hX.ex e0) hs hx)
  cases hg : gmB t0 m1 t1 with
  | false =>
    have HQ := Lib.hid (pm_none (t := t0) (m := m1) (m' := m2) (us := t1) (vs := t2) (by simp [gm2B, hg]))
    rw [hg] at HC
    clear hg
    go_enter Try.func37, Try.ntmps37
    go_wp2_with fail
    generalize ((((w.alloc (.cells #[.slice B0 t0.length d0] 29)).alloc (.cells #[.int .i64 m1, .slice B1 t1.length d1] 36)).alloc (.cells #[.int .i64 m2, .slice B2 t2.length d2] 36)).alloc (.cells #[.int .i64 0, .slice none 0 0] 36)) = W0 at *
    refine HC.out.mono ?_
    rintro e W1 ⟨rfl, he1⟩
    have HB3 := Lib.hid (b3.ex he1)
    have c2 := HB3.out.cell 0
    have c2' := HB3.out.cell 1
    have f2 := HB3.out.free 0
    have f2' := HB3.out.free 1
    clear b0 b1 b2 b3
    go_wp2_with fail
    have H4 := HB3.out.put2 (u := .int .i64 0) (v := .slice none 0 0)
    have c4 := H4.cell 0
    have c4' := H4.cell 1
    refine bodyPost_ret (v := .tuple #[.agg #[.int .i64 0, .slice none 0 0], .int .i64 1]) (by simp [results, Try.results37, go_sem, c4, c4']) rfl ⟨none, 0, by rw [HQ.out.1, HQ.out.2.1, HQ.out.2.2]; rfl, ((e0.trans he1).setCell (by show w.heap.size ≤ w.heap.size + 1 + 1 + 1; omega) _).setCell (by show w.heap.size ≤ w.heap.size + 1 + 1 + 1; omega) _, by rw [HQ.out.2.1]; exact OwnL.nil _ _ _ (Nat.le_refl _)⟩
  | true =>
    rw [hg] at HC
    have HE0 := Lib.hid e0
    have HC2 := Lib.hid (fun (W1 : World) (he : Ex _ W1) => isModule_ex B0 B2 t0 m2 t2 d0 d2 W1 ((hR.ex e0).ex he) ((hY.ex e0).ex he) hs hy)
    cases hg2 : gmB t0 m2 t2 with
    | false =>
      have HQ := Lib.hid (pm_none (t := t0) (m := m1) (m' := m2) (us := t1) (vs := t2) (by simp [gm2B, hg, hg2]))
      rw [hg2] at HC2
      clear hg hg2 hX hY hR e0
      go_enter Try.func37, Try.ntmps37
      go_wp2_with fail
      generalize ((((w.alloc (.cells #[.slice B0 t0.length d0] 29)).alloc (.cells #[.int .i64 m1, .slice B1 t1.length d1] 36)).alloc (.cells #[.int .i64 m2, .slice B2 t2.length d2] 36)).alloc (.cells #[.int .i64 0, .slice none 0 0] 36)) = W0 at *
      refine HC.out.mono ?_
      rintro e W1 ⟨rfl, he1⟩
      have h0 := b0.ex he1
      have h2 := b2.ex he1
      have h3 := b3.ex he1
      have HE1 := Lib.hid (HE0.out.trans he1)
      have HC2 := Lib.hid (HC2.out W1 he1)
      have k0 := h0.cell 0
      have k2 := h2.cell 0
      have k2' := h2.cell 1
      clear b0 b1 b2 b3 he1
      go_wp2_with fail
      refine HC2.out.mono ?_
      rintro e W2 ⟨rfl, he2⟩
      clear k0 k2 k2'
      have HB3 := Lib.hid (h3.ex he2)
      have c2 := HB3.out.cell 0
      have c2' := HB3.out.cell 1
      have f2 := HB3.out.free 0
      have f2' := HB3.out.free 1
      clear h0 h2 h3
      go_wp2_with fail
      have H4 := HB3.out.put2 (u := .int .i64 0) (v := .slice none 0 0)
      have c4 := H4.cell 0
      have c4' := H4.cell 1
      refine bodyPost_ret (v := .tuple #[.agg #[.int .i64 0, .slice none 0 0], .int .i64 1]) (by simp [results, Try.results37, go_sem, c4, c4']) rfl ⟨none, 0, by rw [HQ.out.1, HQ.out.2.1, HQ.out.2.2]; rfl, ((HE1.out.trans he2).setCell (by show w.heap.size ≤ w.heap.size + 1 + 1 + 1; omega) _).setCell (by show w.heap.size ≤ w.heap.size + 1 + 1 + 1; omega) _, by rw [HQ.out.2.1]; exact OwnL.nil _ _ _ (Nat.le_refl _)⟩
    | true =>
      rw [hg2] at HC2
      have hgg : gm2B t0 m1 t1 m2 t2 = true := by simp [gm2B, hg, hg2]
      by_cases hmm : m1 = m2
      · subst hmm
        obtain ⟨M, rfl, hF⟩ := gmB_f hg
        have hF2 : ModF t0 M t2 := by
          obtain ⟨M', hM', hF2⟩ := gmB_f hg2
          obtain rfl : M = M' := by omega
          exact hF2
        have HQ := Lib.hid (pm_yes hgg)
        have hn8 := hF.g.n8
        have hpos : 0 < t1.length := by rw [hF.len]; exact hF.g.n1
        have hpos2 : 0 < t2.length := by rw [hF2.len]; exact hF.g.n1
        have HF := Lib.hid hF
        have HF2 := Lib.hid hF2
        have HX := Lib.hid hX
        have HY := Lib.hid hY
        clear hg hg2 hgg hX hY hR e0 hF hF2 hx hy hs
        go_enter Try.func37, Try.ntmps37
        go_wp2_with fail
        generalize ((((w.alloc (.cells #[.slice B0 t0.length d0] 29)).alloc (.cells #[.int .i64 (M : Int), .slice B1 t1.length d1] 36)).alloc (.cells #[.int .i64 (M : Int), .slice B2 t2.length d2] 36)).alloc (.cells #[.int .i64 0, .slice none 0 0] 36)) = W0 at *
        refine HC.out.mono ?_
        rintro e W1 ⟨rfl, he1⟩
        have h0 := b0.ex he1
        have h1 := b1.ex he1
        have h2 := b2.ex he1
        have h3 := b3.ex he1
        have HE1 := Lib.hid (HE0.out.trans he1)
        have HC2 := Lib.hid (HC2.out W1 he1)
        have k0 := h0.cell 0
        have k2 := h2.cell 0
        have k2' := h2.cell 1
        clear b0 b1 b2 b3 he1
        go_wp2_with fail
        refine HC2.out.mono ?_
        rintro e W2 ⟨rfl, he2⟩
        clear k0 k2 k2'
        have HBG := Lib.hid (h0.ex he2)
        have HBA := Lib.hid (h1.ex he2)
        have HBB := Lib.hid (h2.ex he2)
        have HB3 := Lib.hid (h3.ex he2)
        have HE2 := Lib.hid (HE1.out.trans he2)
        have c0 := HBG.out.cell 0
        have c1 := HBA.out.cell 0
        have c2 := HBB.out.cell 0
        clear h0 h1 h2 h3 he2
        go_wp2_with fail
        obtain ⟨bx, ox, rfl, hbx, hcx⟩ := HX.out.ints.at_ hpos
        obtain ⟨by_, oy, rfl, hby, hcy⟩ := HY.out.ints.at_ hpos2
        have hcx' : ∀ k, k < t1.length → w.cell? ⟨bx, ox + k, none⟩ = some (.int .i64 (nth t1 k)) := fun k hk => by
          obtain ⟨b', o', e', _, hc'⟩ := HX.out.ints.at_ hk
          cases e'
          exact hc'
        have hcy' : ∀ k, k < t2.length → w.cell? ⟨by_, oy + k, none⟩ = some (.int .i64 (nth t2 k)) := fun k hk => by
          obtain ⟨b', o', e', _, hc'⟩ := HY.out.ints.at_ hk
          cases e'
          exact hc'
        refine (moduleWith_any B0 t0.length d0 (M : Int) 82 _ (pu M t1 t2) W2 (by omega) (enters_of Try.func82 (by kernel_rfl) rfl) (fun W' hW' x hx => ?_)).mono ?_
        · have hEW := HE2.out.trans hW'
          have hzw := hEW.size
          have hx1 : x < t1.length := by rw [HF.out.len]; exact hx
          have hx2 : x < t2.length := by rw [HF2.out.len]; exact hx
          have hr1 := HF.out.rng x hx1
          have hr2 := HF2.out.rng x hx2
          have hM12 := HF.out.m12
          have hM2 := HF.out.m2
          have hl1 := HF.out.len
          have hl2 := HF2.out.len
          exact prodUnit_ex x M bx ox t1.length d1 by_ oy t2.length d2 _ _ t1 t2 W' ((HBA.out.ex hW').cell 1) ((HBA.out.ex hW').cell 0) ((HBB.out.ex hW').cell 1) hx1 hx2
            ((hEW.below.cell (p := ⟨bx, ox + x, none⟩) hbx).trans (by rw [hcx' x hx1]; simp [im, Int.toNat_of_nonneg hr1.1])) ((hEW.below.cell (p := ⟨by_, oy + x, none⟩) hby).trans (by rw [hcy' x hx2]; simp [im, Int.toNat_of_nonneg hr2.1]))
            (by simp only [im]; omega) (by simp only [im]; omega) (by omega) (by omega) (by omega)
        rintro e W3 ⟨A2, n2, rfl, he3, ho3⟩
        have HB3' := Lib.hid (HB3.out.ex he3)
        have HO3 := Lib.hid ho3
        have c3 := HB3'.out.cell 0
        have c3' := HB3'.out.cell 1
        have f3 := HB3'.out.free 0
        have f3' := HB3'.out.free 1
        have hzl := HB3.out.lt
        clear ho3 hcx hcx' hcy hcy'
        go_wp2_with fail
        have H4 := HB3'.out.put2 (u := .int .i64 (M : Int)) (v := .slice A2 t0.length n2)
        have c4 := H4.cell 0
        have c4' := H4.cell 1
        refine bodyPost_ret (v := .tuple #[.agg #[.int .i64 (M : Int), .slice A2 t0.length n2], .int .i64 0]) (by simp [results, Try.results37, go_sem, c4, c4']) rfl ⟨A2, n2, by rw [HQ.out.1, HQ.out.2.1, HQ.out.2.2]; simp, ((HE2.out.trans he3).setCell (by show w.heap.size ≤ w.heap.size + 1 + 1 + 1; omega) _).setCell (by show w.heap.size ≤ w.heap.size + 1 + 1 + 1; omega) _, ?_⟩
        rw [HQ.out.2.1]
        exact ((HO3.out.above (Only.set _ _ _ _) hzl).above (Only.set _ _ _ _) hzl).mono HE2.out.size (by simp) (Nat.le_refl _)
      · have hq0 : (m1 != m2) = true := by simp [hmm]
        have HQ := Lib.hid (pm_no hgg hmm)
        clear hg hg2 hgg hX hY hR e0 hmm
        go_enter Try.func37, Try.ntmps37
        go_wp2_with fail
        generalize ((((w.alloc (.cells #[.slice B0 t0.length d0] 29)).alloc (.cells #[.int .i64 m1, .slice B1 t1.length d1] 36)).alloc (.cells #[.int .i64 m2, .slice B2 t2.length d2] 36)).alloc (.cells #[.int .i64 0, .slice none 0 0] 36)) = W0 at *
        refine HC.out.mono ?_
        rintro e W1 ⟨rfl, he1⟩
        have h0 := b0.ex he1
        have h1 := b1.ex he1
        have h2 := b2.ex he1
        have h3 := b3.ex he1
        have HE1 := Lib.hid (HE0.out.trans he1)
        have HC2 := Lib.hid (HC2.out W1 he1)
        have k0 := h0.cell 0
        have k2 := h2.cell 0
        have k2' := h2.cell 1
        clear b0 b1 b2 b3 he1
        go_wp2_with fail
        refine HC2.out.mono ?_
        rintro e W2 ⟨rfl, he2⟩
        clear k0 k2 k2'
        have HB3 := Lib.hid (h3.ex he2)
        have c0 := (h1.ex he2).cell 0
        have c1 := (h2.ex he2).cell 0
        have c2 := HB3.out.cell 0
        have c2' := HB3.out.cell 1
        have f2 := HB3.out.free 0
        have f2' := HB3.out.free 1
        clear h0 h1 h2 h3
        go_wp2_with fail
        have H4 := HB3.out.put2 (u := .int .i64 0) (v := .slice none 0 0)
        have c4 := H4.cell 0
        have c4' := H4.cell 1
        refine bodyPost_ret (v := .tuple #[.agg #[.int .i64 0, .slice none 0 0], .int .i64 5]) (by simp [results, Try.results37, go_sem, c4, c4']) rfl ⟨none, 0, by rw [HQ.out.1, HQ.out.2.1, HQ.out.2.2]; rfl, ((HE1.out.trans he2).setCell (by show w.heap.size ≤ w.heap.size + 1 + 1 + 1; omega) _).setCell (by show w.heap.size ≤ w.heap.size + 1 + 1 + 1; omega) _, by rw [HQ.out.2.1]; exact OwnL.nil _ _ _ (Nat.le_refl _)⟩

end Go.Proofs.Ytdehalkebneaoaa
