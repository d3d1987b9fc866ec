/- ReduceModule: both contracts. -/
import Derived.Test.YtllkaoacfchibaaWa
import Derived.Test.YtllkaoacfchibaaMw
import Derived.Test.YtllkaoacfchibaaMnm
namespace Go.Proofs.Ytllkaoacfchibaa
open Go.RowKit

/-- May a module with m be reduced to k? -/
def redB (m k : Int) : Bool := decide (2 ≤ k) && (m.toNat % k.toNat == 0)
noncomputable def qReduceModule0 (t : List (List Int)) (m : Int) (us : List Int) (k : Int) : Int := if gmB t m us = true ∧ redB m k = true then k else 0
noncomputable def yReduceModule0 (t : List (List Int)) (m : Int) (us : List Int) (k : Int) : List Int := if gmB t m us = true ∧ redB m k = true then (List.range us.length).map fun i => ((im us i % k.toNat : Nat) : Int) else []
noncomputable def qReduceModule1 (t : List (List Int)) (m : Int) (us : List Int) (k : Int) : Int := if gmB t m us = true then (if redB m k = true then 0 else 2) else 1

theorem redB_yes {M K : Nat} (h2 : 2 ≤ K) (h : M % K = 0) : redB (M : Int) (K : Int) = true := by simp [redB, h]; omega
theorem redB_mod {M K : Nat} (h : ¬ M % K = 0) : redB (M : Int) (K : Int) = false := by simp [redB, h]
theorem redB_low {M : Nat} {k : Int} (h : k < 2) : redB (M : Int) k = false := by simp [redB]; omega
theorem mod_high {M K : Nat} (hM : 0 < M) (h : M < K) : ¬ M % K = 0 := by rw [Nat.mod_eq_of_lt h]; omega
section
variable {t : List (List Int)} {m k : Int} {us : List Int}
theorem red_none (h : gmB t m us = false) : qReduceModule0 t m us k = 0 ∧ yReduceModule0 t m us k = [] ∧ qReduceModule1 t m us k = 1 := by simp [qReduceModule0, yReduceModule0, qReduceModule1, h]
theorem red_no (h : gmB t m us = true) (hr : redB m k = false) : qReduceModule0 t m us k = 0 ∧ yReduceModule0 t m us k = [] ∧ qReduceModule1 t m us k = 2 := by simp [qReduceModule0, yReduceModule0, qReduceModule1, h, hr]
theorem red_yes {K : Nat} (h : gmB t m us = true) (hr : redB m (K : Int) = true) : qReduceModule0 t m us (K : Int) = (K : Int) ∧ yReduceModule0 t m us (K : Int) = (List.range us.length).map (fun i => ((im us i % K : Nat) : Int)) ∧ qReduceModule1 t m us (K : Int) = 0 := by simp [qReduceModule0, yReduceModule0, qReduceModule1, h, hr]
theorem reduceModule_small0 (t : List (List Int)) (m : Int) (us : List Int) (k : Int) : (yReduceModule0 t m us k).length ≤ 1048576 := by
  unfold yReduceModule0
  split
  · rename_i h
    obtain ⟨M, _, hF⟩ := gmB_f h.1
    have := hF.len
    have := hF.g.n8
    simp
    omega
  · simp
end

set_option maxRecDepth 100000 in
set_option maxHeartbeats 2000000 in
theorem specReduceModule_ex (t0 : List (List Int)) (m1 : Int) (t1 : List Int) (m2 : Int) : ∀ (B0 : Option Addr) (d0 : Nat) (B1 : Option Addr) (d1 : Nat) (W : World), RwsW W B0 t0 → IntsW W B1 t1 → SmallT t0 → t1.length ≤ 1048576 →
    Calls Try.prog 6 #[.agg #[.slice B0 t0.length d0], .agg #[.int .i64 m1, .slice B1 t1.length d1], .int .i64 m2] W fun e W' => ∃ (C0 : Option Addr) (e0 : Nat), e = .returned (.tuple #[.agg #[.int .i64 (qReduceModule0 t0 m1 t1 m2), .slice C0 (yReduceModule0 t0 m1 t1 m2).length e0], .int .i64 (qReduceModule1 t0 m1 t1 m2)]) ∧ Ex W W' ∧ OwnL W' W.heap.size W'.heap.size C0 (yReduceModule0 t0 m1 t1 m2) := by
  intro B0 d0 B1 d1 w hR hX hs hx
  have e0 : Ex w ((((w.alloc (.cells #[.slice B0 t0.length d0] 33)).alloc (.cells #[.int .i64 m1, .slice B1 t1.length d1] 30)).alloc (.cells #[.int .i64 0, .slice none 0 0] 30)).alloc (.cells #[.int .i64 m1, .slice B1 t1.length d1] 30)) := ((((Ex.refl w).alloc _).alloc _).alloc _).alloc _
  have b0 : Has ((((w.alloc (.cells #[.slice B0 t0.length d0] 33)).alloc (.cells #[.int .i64 m1, .slice B1 t1.length d1] 30)).alloc (.cells #[.int .i64 0, .slice none 0 0] 30)).alloc (.cells #[.int .i64 m1, .slice B1 t1.length d1] 30)) (w.heap.size) 33 #[.slice B0 t0.length d0] := ((((Has.newAt (w := w) (e := 33) (cs := #[.slice B0 t0.length d0]) (k := w.heap.size) (by simp)).alloc _).alloc _).alloc _)
  have b1 : Has ((((w.alloc (.cells #[.slice B0 t0.length d0] 33)).alloc (.cells #[.int .i64 m1, .slice B1 t1.length d1] 30)).alloc (.cells #[.int .i64 0, .slice none 0 0] 30)).alloc (.cells #[.int .i64 m1, .slice B1 t1.length d1] 30)) (w.heap.size + 1) 30 #[.int .i64 m1, .slice B1 t1.length d1] := (((Has.newAt (w := (w.alloc (.cells #[.slice B0 t0.length d0] 33))) (e := 30) (cs := #[.int .i64 m1, .slice B1 t1.length d1]) (k := w.heap.size + 1) (by simp)).alloc _).alloc _)
  have b2 : Has ((((w.alloc (.cells #[.slice B0 t0.length d0] 33)).alloc (.cells #[.int .i64 m1, .slice B1 t1.length d1] 30)).alloc (.cells #[.int .i64 0, .slice none 0 0] 30)).alloc (.cells #[.int .i64 m1, .slice B1 t1.length d1] 30)) (w.heap.size + 1 + 1) 30 #[.int .i64 0, .slice none 0 0] := ((Has.newAt (w := ((w.alloc (.cells #[.slice B0 t0.length d0] 33)).alloc (.cells #[.int .i64 m1, .slice B1 t1.length d1] 30))) (e := 30) (cs := #[.int .i64 0, .slice none 0 0]) (k := w.heap.size + 1 + 1) (by simp)).alloc _)
  have b3 : Has ((((w.alloc (.cells #[.slice B0 t0.length d0] 33)).alloc (.cells #[.int .i64 m1, .slice B1 t1.length d1] 30)).alloc (.cells #[.int .i64 0, .slice none 0 0] 30)).alloc (.cells #[.int .i64 m1, .slice B1 t1.length d1] 30)) (w.heap.size + 1 + 1 + 1) 30 #[.int .i64 m1, .slice B1 t1.length d1] := (Has.newAt (w := (((w.alloc (.cells #[.slice B0 t0.length d0] 33)).alloc (.cells #[.int .i64 m1, .slice B1 t1.length d1] 30)).alloc (.cells #[.int .i64 0, .slice none 0 0] 30))) (e := 30) (cs := #[.int .i64 m1, .slice B1 t1.length d1]) (k := w.heap.size + 1 + 1 + 1) (by simp))
  have HC := Lib.hid (l02Code_ex B0 B1 t0 m1 t1 d0 d1 (w.heap.size + 1 + 1 + 1) _ (hR.ex e0) (hX.ex e0) hs hx b3)
  cases hg : gmB t0 m1 t1 with
  | false =>
    obtain ⟨q0, y0, q1⟩ := red_none (k := m2) hg
    have HQ := Lib.hid (And.intro q0 (And.intro y0 q1))
    rw [gmC_no hg] at HC
    clear q0 y0 q1 hg
    go_enter Try.func6, Try.ntmps6
    go_wp2_with fail
    generalize ((((w.alloc (.cells #[.slice B0 t0.length d0] 33)).alloc (.cells #[.int .i64 m1, .slice B1 t1.length d1] 30)).alloc (.cells #[.int .i64 0, .slice none 0 0] 30)).alloc (.cells #[.int .i64 m1, .slice B1 t1.length d1] 30)) = W0 at *
    refine HC.out.mono ?_
    rintro e W1 ⟨rfl, he1⟩
    have h2 := b2.ex he1
    have HB2 := Lib.hid h2
    have c2 := h2.cell 0
    have c2' := h2.cell 1
    have f2 := h2.free 0
    have f2' := h2.free 1
    clear b0 b1 b2 b3 h2
    go_wp2_with fail
    have H4 := HB2.out.put2 (u := .int .i64 0) (v := .slice none 0 0)
    have c4 := H4.cell 0
    have c4' := H4.cell 1
    refine bodyPost_ret (v := .tuple #[.agg #[.int .i64 0, .slice none 0 0], .int .i64 1]) (by simp [results, Try.results6, go_sem, c4, c4']) rfl ⟨none, 0, by rw [HQ.out.1, HQ.out.2.1, HQ.out.2.2]; rfl, ((e0.trans he1).setCell (by show w.heap.size ≤ w.heap.size + 1 + 1; omega) _).setCell (by show w.heap.size ≤ w.heap.size + 1 + 1; omega) _, by rw [HQ.out.2.1]; exact OwnL.nil _ _ _ (Nat.le_refl _)⟩
  | true =>
    rw [gmC_yes hg] at HC
    obtain ⟨M, rfl, hF⟩ := gmB_f hg
    have hm2 := hF.m2
    have hm12 := hF.m12
    have hl8 : t1.length ≤ 8 := by rw [hF.len]; exact hF.g.n8
    have hu : InR 12 t1 := fun i hi => ⟨(hF.rng i hi).1, by have := (hF.rng i hi).2; omega⟩
    have HU := Lib.hid hu
    have HX := Lib.hid (hX.ex e0)
    clear hu hR hs hF
    by_cases h2 : m2 < 2
    · have hi := inB_out (n := m2) (lo := 2) (hi := (M : Int)) (.inl h2)
      obtain ⟨q0, y0, q1⟩ := red_no hg (redB_low (M := M) h2)
      have HQ := Lib.hid (And.intro q0 (And.intro y0 q1))
      clear q0 y0 q1 hg
      go_enter Try.func6, Try.ntmps6
      go_wp2_with fail
      generalize ((((w.alloc (.cells #[.slice B0 t0.length d0] 33)).alloc (.cells #[.int .i64 (M : Int), .slice B1 t1.length d1] 30)).alloc (.cells #[.int .i64 0, .slice none 0 0] 30)).alloc (.cells #[.int .i64 (M : Int), .slice B1 t1.length d1] 30)) = W0 at *
      refine HC.out.mono ?_
      rintro e W1 ⟨rfl, he1⟩
      have h2 := b2.ex he1
      have HB2 := Lib.hid h2
      have c1 := (b1.ex he1).cell 0
      have c2 := h2.cell 0
      have c2' := h2.cell 1
      have f2 := h2.free 0
      have f2' := h2.free 1
      clear b0 b1 b2 b3 h2
      go_wp2_with (go_at_call 18; refine (l01In_ex m2 2 (M : Int) _).mono ?_; rintro e w' ⟨rfl, rfl⟩)
      have H4 := HB2.out.put2 (u := .int .i64 0) (v := .slice none 0 0)
      have c4 := H4.cell 0
      have c4' := H4.cell 1
      refine bodyPost_ret (v := .tuple #[.agg #[.int .i64 0, .slice none 0 0], .int .i64 2]) (by simp [results, Try.results6, go_sem, c4, c4']) rfl ⟨none, 0, by rw [HQ.out.1, HQ.out.2.1, HQ.out.2.2]; rfl, ((e0.trans he1).setCell (by show w.heap.size ≤ w.heap.size + 1 + 1; omega) _).setCell (by show w.heap.size ≤ w.heap.size + 1 + 1; omega) _, by rw [HQ.out.2.1]; exact OwnL.nil _ _ _ (Nat.le_refl _)⟩
    · obtain ⟨K, rfl⟩ : ∃ K : Nat, m2 = (K : Int) := ⟨m2.toNat, by omega⟩
      by_cases hK : M < K
      · have hi := inB_out (n := (K : Int)) (lo := 2) (hi := (M : Int)) (.inr (by omega))
        obtain ⟨q0, y0, q1⟩ := red_no hg (redB_mod (mod_high (by omega) hK))
        have HQ := Lib.hid (And.intro q0 (And.intro y0 q1))
        clear q0 y0 q1 hg
        go_enter Try.func6, Try.ntmps6
        go_wp2_with fail
        generalize ((((w.alloc (.cells #[.slice B0 t0.length d0] 33)).alloc (.cells #[.int .i64 (M : Int), .slice B1 t1.length d1] 30)).alloc (.cells #[.int .i64 0, .slice none 0 0] 30)).alloc (.cells #[.int .i64 (M : Int), .slice B1 t1.length d1] 30)) = W0 at *
        refine HC.out.mono ?_
        rintro e W1 ⟨rfl, he1⟩
        have h2 := b2.ex he1
        have HB2 := Lib.hid h2
        have c1 := (b1.ex he1).cell 0
        have c2 := h2.cell 0
        have c2' := h2.cell 1
        have f2 := h2.free 0
        have f2' := h2.free 1
        clear b0 b1 b2 b3 h2
        go_wp2_with (go_at_call 18; refine (l01In_ex (K : Int) 2 (M : Int) _).mono ?_; rintro e w' ⟨rfl, rfl⟩)
        have H4 := HB2.out.put2 (u := .int .i64 0) (v := .slice none 0 0)
        have c4 := H4.cell 0
        have c4' := H4.cell 1
        refine bodyPost_ret (v := .tuple #[.agg #[.int .i64 0, .slice none 0 0], .int .i64 2]) (by simp [results, Try.results6, go_sem, c4, c4']) rfl ⟨none, 0, by rw [HQ.out.1, HQ.out.2.1, HQ.out.2.2]; rfl, ((e0.trans he1).setCell (by show w.heap.size ≤ w.heap.size + 1 + 1; omega) _).setCell (by show w.heap.size ≤ w.heap.size + 1 + 1; omega) _, by rw [HQ.out.2.1]; exact OwnL.nil _ _ _ (Nat.le_refl _)⟩
      · have hi := inB_of (n := (K : Int)) (lo := 2) (hi := (M : Int)) (by omega) (by omega)
        have ht := tmod_nat M K
        have hne : ((K : Int) != 0) = true := by simp; omega
        have hne0 : ¬ K = 0 := by omega
        have hmz : M % K < K := Nat.mod_lt _ (by omega)
        by_cases hz : M % K = 0
        · have hbz : ((0 : Int) != 0) = false := by decide
          obtain ⟨q0, y0, q1⟩ := red_yes hg (redB_yes (by omega) hz)
          have HQ := Lib.hid (And.intro q0 (And.intro y0 q1))
          rw [hz] at ht
          clear q0 y0 q1 hg hz hmz
          go_enter Try.func6, Try.ntmps6
          go_wp2_with fail
          generalize ((((w.alloc (.cells #[.slice B0 t0.length d0] 33)).alloc (.cells #[.int .i64 (M : Int), .slice B1 t1.length d1] 30)).alloc (.cells #[.int .i64 0, .slice none 0 0] 30)).alloc (.cells #[.int .i64 (M : Int), .slice B1 t1.length d1] 30)) = W0 at *
          refine HC.out.mono ?_
          rintro e W1 ⟨rfl, he1⟩
          have h2 := b2.ex he1
          have HB2 := Lib.hid h2
          have c1 := (b1.ex he1).cell 0
          have c1' := (b1.ex he1).cell 1
          have c2 := h2.cell 0
          have c2' := h2.cell 1
          have HE1 := Lib.hid (e0.trans he1)
          have HX1 := Lib.hid (HX.out.ex he1)
          clear b0 b1 b2 b3 h2 e0 he1
          go_wp2_with (go_at_call 18; refine (l01In_ex (K : Int) 2 (M : Int) _).mono ?_; rintro e w' ⟨rfl, rfl⟩)
          refine (l02Reduced_any B1 t1 d1 K (M : Int) W1 HX1.out hl8 HU.out (by omega) (by omega)).mono ?_
          rintro e W2 ⟨A2, n2, rfl, he2, ho2⟩
          have h2 := HB2.out.ex he2
          have HB2' := Lib.hid h2
          have HO2 := Lib.hid ho2
          have c2 := h2.cell 0
          have c2' := h2.cell 1
          have f2 := h2.free 0
          have f2' := h2.free 1
          have hzl := HB2.out.lt
          clear h2 ho2
          go_wp2_with fail
          have H4 := HB2'.out.put2 (u := .int .i64 (K : Int)) (v := .slice A2 t1.length n2)
          have c4 := H4.cell 0
          have c4' := H4.cell 1
          refine bodyPost_ret (v := .tuple #[.agg #[.int .i64 (K : Int), .slice A2 t1.length n2], .int .i64 0]) (by simp [results, Try.results6, go_sem, c4, c4']) rfl ⟨A2, n2, by rw [HQ.out.1, HQ.out.2.1, HQ.out.2.2]; simp, ((HE1.out.trans he2).setCell (by show w.heap.size ≤ w.heap.size + 1 + 1; omega) _).setCell (by show w.heap.size ≤ w.heap.size + 1 + 1; omega) _, ?_⟩
          rw [HQ.out.2.1]
          exact ((HO2.out.above (Only.set _ _ _ _) hzl).above (Only.set _ _ _ _) hzl).mono HE1.out.size (by simp) (Nat.le_refl _)
        · obtain ⟨q0, y0, q1⟩ := red_no hg (redB_mod hz)
          have HQ := Lib.hid (And.intro q0 (And.intro y0 q1))
          obtain ⟨z, hz'⟩ : ∃ z, M % K = z := ⟨_, rfl⟩
          rw [hz'] at ht hz hmz
          have hbz : ((z : Int) != 0) = true := by simp; omega
          clear q0 y0 q1 hg hz'
          go_enter Try.func6, Try.ntmps6
          go_wp2_with fail
          generalize ((((w.alloc (.cells #[.slice B0 t0.length d0] 33)).alloc (.cells #[.int .i64 (M : Int), .slice B1 t1.length d1] 30)).alloc (.cells #[.int .i64 0, .slice none 0 0] 30)).alloc (.cells #[.int .i64 (M : Int), .slice B1 t1.length d1] 30)) = W0 at *
          refine HC.out.mono ?_
          rintro e W1 ⟨rfl, he1⟩
          have h2 := b2.ex he1
          have HB2 := Lib.hid h2
          have c1 := (b1.ex he1).cell 0
          have c2 := h2.cell 0
          have c2' := h2.cell 1
          have f2 := h2.free 0
          have f2' := h2.free 1
          clear b0 b1 b2 b3 h2
          go_wp2_with (go_at_call 18; refine (l01In_ex (K : Int) 2 (M : Int) _).mono ?_; rintro e w' ⟨rfl, rfl⟩)
          have H4 := HB2.out.put2 (u := .int .i64 0) (v := .slice none 0 0)
          have c4 := H4.cell 0
          have c4' := H4.cell 1
          refine bodyPost_ret (v := .tuple #[.agg #[.int .i64 0, .slice none 0 0], .int .i64 2]) (by simp [results, Try.results6, go_sem, c4, c4']) rfl ⟨none, 0, by rw [HQ.out.1, HQ.out.2.1, HQ.out.2.2]; rfl, ((e0.trans he1).setCell (by show w.heap.size ≤ w.heap.size + 1 + 1; omega) _).setCell (by show w.heap.size ≤ w.heap.size + 1 + 1; omega) _, by rw [HQ.out.2.1]; exact OwnL.nil _ _ _ (Nat.le_refl _)⟩

set_option maxRecDepth 100000 in
set_option maxHeartbeats 1000000 in
theorem reduceUnit_ex (x K b o l c Ba Bk : Nat) (us : List Int) (w : World) (ha : w.cell? ⟨Ba, 1, none⟩ = some (.slice (some ⟨b, o, none⟩) l c)) (hk : w.cell? ⟨Bk, 0, none⟩ = some (.int .i64 (K : Int))) (hx : x < l) (hc : w.cell? ⟨b, o + x, none⟩ = some (.int .i64 (im us x : Int))) (_ : im us x ≤ 12) (hK : 0 < K) (_ : l ≤ 8) :
    Calls Try.prog 38 #[.int .i64 (x : Int), .pointer (some ⟨Ba, 0, none⟩), .pointer (some ⟨Bk, 0, none⟩)] w fun e w' => e = .returned (.int .i64 ((im us x % K : Nat) : Int)) ∧ Ex w w' := by
  have ht := tmod_nat (im us x) K
  have hne : ((K : Int) != 0) = true := by simp; omega
  have hm : im us x % K < K := Nat.mod_lt _ hK
  have hm2 : im us x % K ≤ im us x := Nat.mod_le _ _
  obtain ⟨z, hz⟩ : ∃ z, im us x % K = z := ⟨_, rfl⟩
  have HZ := Lib.hid hz
  rw [hz] at ht hm hm2
  clear hz
  generalize im us x = u at *
  go_enter Try.func38, Try.ntmps38
  go_wp2_with fail
  go_quiet (fail)
  go_wp2_with fail
  go_ret
  exact ⟨by rw [HZ.out]; rfl, Ex.drewN (Ex.refl w) _⟩

set_option maxRecDepth 100000 in
set_option maxHeartbeats 2000000 in
theorem reducedModule_any (B0 B1 : Option Addr) (N : Nat) (m : Int) (us : List Int) (K d0 d1 : Nat) (w : World) (hX : IntsW w B1 us) (hl : us.length = N) (hN : N ≤ 8) (hpos : 0 < N) (hu : InR 12 us) (hK : 0 < K) (_ : K ≤ 12) :
    Calls Try.prog 23 #[.agg #[.slice B0 N d0], .agg #[.int .i64 m, .slice B1 us.length d1], .int .i64 (K : Int)] w fun e w' => ∃ A' n', e = .returned (.agg #[.int .i64 (K : Int), .slice A' N n']) ∧ Ex w w' ∧ OwnL w' w.heap.size w'.heap.size A' (rdL us K) := by
  have e0 : Ex w ((((w.alloc (.cells #[.slice B0 N d0] 33)).alloc (.cells #[.int .i64 m, .slice B1 us.length d1] 30)).alloc (.cells #[.int .i64 (K : Int)] 2)).alloc (.cells #[.int .i64 0, .slice none 0 0] 30)) := ((((Ex.refl w).alloc _).alloc _).alloc _).alloc _
  have b0 : Has ((((w.alloc (.cells #[.slice B0 N d0] 33)).alloc (.cells #[.int .i64 m, .slice B1 us.length d1] 30)).alloc (.cells #[.int .i64 (K : Int)] 2)).alloc (.cells #[.int .i64 0, .slice none 0 0] 30)) (w.heap.size) 33 #[.slice B0 N d0] := ((((Has.newAt (w := w) (e := 33) (cs := #[.slice B0 N d0]) (k := w.heap.size) (by simp)).alloc _).alloc _).alloc _)
  have b1 : Has ((((w.alloc (.cells #[.slice B0 N d0] 33)).alloc (.cells #[.int .i64 m, .slice B1 us.length d1] 30)).alloc (.cells #[.int .i64 (K : Int)] 2)).alloc (.cells #[.int .i64 0, .slice none 0 0] 30)) (w.heap.size + 1) 30 #[.int .i64 m, .slice B1 us.length d1] := (((Has.newAt (w := (w.alloc (.cells #[.slice B0 N d0] 33))) (e := 30) (cs := #[.int .i64 m, .slice B1 us.length d1]) (k := w.heap.size + 1) (by simp)).alloc _).alloc _)
  have b2 : Has ((((w.alloc (.cells #[.slice B0 N d0] 33)).alloc (.cells #[.int .i64 m, .slice B1 us.length d1] 30)).alloc (.cells #[.int .i64 (K : Int)] 2)).alloc (.cells #[.int .i64 0, .slice none 0 0] 30)) (w.heap.size + 1 + 1) 2 #[.int .i64 (K : Int)] := ((Has.newAt (w := ((w.alloc (.cells #[.slice B0 N d0] 33)).alloc (.cells #[.int .i64 m, .slice B1 us.length d1] 30))) (e := 2) (cs := #[.int .i64 (K : Int)]) (k := w.heap.size + 1 + 1) (by simp)).alloc _)
  have b3 : Has ((((w.alloc (.cells #[.slice B0 N d0] 33)).alloc (.cells #[.int .i64 m, .slice B1 us.length d1] 30)).alloc (.cells #[.int .i64 (K : Int)] 2)).alloc (.cells #[.int .i64 0, .slice none 0 0] 30)) (w.heap.size + 1 + 1 + 1) 30 #[.int .i64 0, .slice none 0 0] := (Has.newAt (w := (((w.alloc (.cells #[.slice B0 N d0] 33)).alloc (.cells #[.int .i64 m, .slice B1 us.length d1] 30)).alloc (.cells #[.int .i64 (K : Int)] 2))) (e := 30) (cs := #[.int .i64 0, .slice none 0 0]) (k := w.heap.size + 1 + 1 + 1) (by simp))
  have hmf : ∀ (fn : Fn) (first cap : Array Value) (w : World), (Instr.makeFunc fn first cap).run Try.prog w = .ok (.func fn first cap) w := fun _ _ _ _ => rfl
  obtain ⟨bx, ox, rfl, hbx, hcx⟩ : ∃ bx ox, B1 = some ⟨bx, ox, none⟩ ∧ bx < w.heap.size ∧ ∀ k, k < us.length → w.cell? ⟨bx, ox + k, none⟩ = some (.int .i64 (nth us k)) := by
    rcases hX.ints with h | ⟨bx, ox, rfl, h1, h2⟩
    · rw [h] at hl
      simp at hl
      omega
    · exact ⟨bx, ox, rfl, h1, h2⟩
  have HCX := Lib.hid (fun (W0 : World) (hb1 : Has W0 (w.heap.size + 1) 30 #[.int .i64 m, .slice (some ⟨bx, ox, none⟩) us.length d1]) (hb2 : Has W0 (w.heap.size + 1 + 1) 2 #[.int .i64 (K : Int)]) (he : Ex w W0) =>
    moduleWith_any B0 N d0 (K : Int) 38 #[.pointer (some ⟨w.heap.size + 1, 0, none⟩), .pointer (some ⟨w.heap.size + 1 + 1, 0, none⟩)] (fun x => ((im us x % K : Nat) : Int)) W0 hN (enters_of Try.func38 (by kernel_rfl) rfl) (fun W' hW' x hx => by
      have hx' : x < us.length := by rw [hl]; exact hx
      have h := hcx x hx'
      have hr := hu x hx'
      refine reduceUnit_ex x K bx ox us.length d1 _ _ us W' ((hb1.ex hW').cell 1) ((hb2.ex hW').cell 0) hx' ?_ (by simp only [im]; have := hr.2; omega) hK (by omega)
      rw [(he.trans hW').below.cell (p := ⟨bx, ox + x, none⟩) hbx, h]
      simp [im, Int.toNat_of_nonneg hr.1]))
  have HRD : Hid (rdL us K = (List.range N).map fun x => ((im us x % K : Nat) : Int)) := Lib.hid (by rw [rdL, hl])
  clear hX hcx hu hl
  go_enter Try.func23, Try.ntmps23
  go_wp2_with fail
  generalize ((((w.alloc (.cells #[.slice B0 N d0] 33)).alloc (.cells #[.int .i64 m, .slice (some ⟨bx, ox, none⟩) us.length d1] 30)).alloc (.cells #[.int .i64 (K : Int)] 2)).alloc (.cells #[.int .i64 0, .slice none 0 0] 30)) = W0 at *
  have c1 := b2.cell 0
  refine (HCX.out W0 b1 b2 e0).mono ?_
  rintro e W2 ⟨A2, n2, rfl, he2, ho2⟩
  have h2 := b3.ex he2
  have HB2 := Lib.hid h2
  have HE2 := Lib.hid (e0.trans he2)
  have HO2 := Lib.hid ho2
  have c2 := h2.cell 0
  have c2' := h2.cell 1
  have f2 := h2.free 0
  have f2' := h2.free 1
  have hzl := b3.lt
  have hzw := e0.size
  clear h2 ho2 b0 b1 b2 b3 e0 he2 c1
  go_wp2_with fail
  have H4 := HB2.out.put2 (u := .int .i64 (K : Int)) (v := .slice A2 N n2)
  have c4 := H4.cell 0
  have c4' := H4.cell 1
  refine bodyPost_ret (v := .agg #[.int .i64 (K : Int), .slice A2 N n2]) (by simp [results, Try.results23, go_sem, c4, c4']) rfl ⟨A2, n2, rfl, (HE2.out.setCell (by show w.heap.size ≤ w.heap.size + 1 + 1 + 1; omega) _).setCell (by show w.heap.size ≤ w.heap.size + 1 + 1 + 1; omega) _, ?_⟩
  rw [HRD.out]
  exact ((HO2.out.above (Only.set _ _ _ _) hzl).above (Only.set _ _ _ _) hzl).mono hzw (by simp) (Nat.le_refl _)

set_option maxRecDepth 100000 in
set_option maxHeartbeats 2000000 in
theorem implReduceModule_ex (t0 : List (List Int)) (m1 : Int) (t1 : List Int) (m2 : Int) : ∀ (B0 : Option Addr) (d0 : Nat) (B1 : Option Addr) (d1 : Nat) (W : World), RwsW W B0 t0 → IntsW W B1 t1 → SmallT t0 → t1.length ≤ 1048576 →
    Calls Try.prog 9 #[.agg #[.slice B0 t0.length d0], .agg #[.int .i64 m1, .slice B1 t1.length d1], .int .i64 m2] W fun e W' => ∃ (C0 : Option Addr) (e0 : Nat), e = .returned (.tuple #[.agg #[.int .i64 (qReduceModule0 t0 m1 t1 m2), .slice C0 (yReduceModule0 t0 m1 t1 m2).length e0], .int .i64 (qReduceModule1 t0 m1 t1 m2)]) ∧ Ex W W' ∧ OwnL W' W.heap.size W'.heap.size C0 (yReduceModule0 t0 m1 t1 m2) := by
  intro B0 d0 B1 d1 w hR hX hs hx
  have e0 : Ex w (((w.alloc (.cells #[.slice B0 t0.length d0] 33)).alloc (.cells #[.int .i64 m1, .slice B1 t1.length d1] 30)).alloc (.cells #[.int .i64 0, .slice none 0 0] 30)) := (((Ex.refl w).alloc _).alloc _).alloc _
  have b0 : Has (((w.alloc (.cells #[.slice B0 t0.length d0] 33)).alloc (.cells #[.int .i64 m1, .slice B1 t1.length d1] 30)).alloc (.cells #[.int .i64 0, .slice none 0 0] 30)) (w.heap.size) 33 #[.slice B0 t0.length d0] := (((Has.newAt (w := w) (e := 33) (cs := #[.slice B0 t0.length d0]) (k := w.heap.size) (by simp)).alloc _).alloc _)
  have b1 : Has (((w.alloc (.cells #[.slice B0 t0.length d0] 33)).alloc (.cells #[.int .i64 m1, .slice B1 t1.length d1] 30)).alloc (.cells #[.int .i64 0, .slice none 0 0] 30)) (w.heap.size + 1) 30 #[.int .i64 m1, .slice B1 t1.length d1] := ((Has.newAt (w := (w.alloc (.cells #[.slice B0 t0.length d0] 33))) (e := 30) (cs := #[.int .i64 m1, .slice B1 t1.length d1]) (k := w.heap.size + 1) (by simp)).alloc _)
  have b3 : Has (((w.alloc (.cells #[.slice B0 t0.length d0] 33)).alloc (.cells #[.int .i64 m1, .slice B1 t1.length d1] 30)).alloc (.cells #[.int .i64 0, .slice none 0 0] 30)) (w.heap.size + 1 + 1) 30 #[.int .i64 0, .slice none 0 0] := (Has.newAt (w := ((w.alloc (.cells #[.slice B0 t0.length d0] 33)).alloc (.cells #[.int .i64 m1, .slice B1 t1.length d1] 30))) (e := 30) (cs := #[.int .i64 0, .slice none 0 0]) (k := w.heap.size + 1 + 1) (by simp))
  have HC := Lib.hid (isModule_ex B0 B1 t0 m1 t1 d0 d1 _ (hR.ex e0) (hX.ex e0) hs hx)
  cases hg : gmB t0 m1 t1 with
  | false =>
    obtain ⟨q0, y0, q1⟩ := red_none (k := m2) hg
    have HQ := Lib.hid (And.intro q0 (And.intro y0 q1))
    rw [hg] at HC
    clear q0 y0 q1 hg
    go_enter Try.func9, Try.ntmps9
    go_wp2_with fail
    generalize (((w.alloc (.cells #[.slice B0 t0.length d0] 33)).alloc (.cells #[.int .i64 m1, .slice B1 t1.length d1] 30)).alloc (.cells #[.int .i64 0, .slice none 0 0] 30)) = W0 at *
    refine HC.out.mono ?_
    rintro e W1 ⟨rfl, he1⟩
    have h2 := b3.ex he1
    have HB2 := Lib.hid h2
    have c2 := h2.cell 0
    have c2' := h2.cell 1
    have f2 := h2.free 0
    have f2' := h2.free 1
    clear b0 b1 b3 h2
    go_wp2_with fail
    have H4 := HB2.out.put2 (u := .int .i64 0) (v := .slice none 0 0)
    have c4 := H4.cell 0
    have c4' := H4.cell 1
    refine bodyPost_ret (v := .tuple #[.agg #[.int .i64 0, .slice none 0 0], .int .i64 1]) (by simp [results, Try.results9, go_sem, c4, c4']) rfl ⟨none, 0, by rw [HQ.out.1, HQ.out.2.1, HQ.out.2.2]; rfl, ((e0.trans he1).setCell (by show w.heap.size ≤ w.heap.size + 1 + 1; omega) _).setCell (by show w.heap.size ≤ w.heap.size + 1 + 1; omega) _, by rw [HQ.out.2.1]; exact OwnL.nil _ _ _ (Nat.le_refl _)⟩
  | true =>
    rw [hg] at HC
    obtain ⟨M, rfl, hF⟩ := gmB_f hg
    have hm2 := hF.m2
    have hm12 := hF.m12
    have hl8 : t1.length ≤ 8 := by rw [hF.len]; exact hF.g.n8
    have hpos : 0 < t1.length := by rw [hF.len]; exact hF.g.n1
    have hu : InR 12 t1 := fun i hi => ⟨(hF.rng i hi).1, by have := (hF.rng i hi).2; omega⟩
    have HU := Lib.hid hu
    have HX := Lib.hid hX
    have HLEN := Lib.hid hF.len
    have hn8 := hF.g.n8
    clear hu hR hs hF
    by_cases h2 : m2 < 2
    · obtain ⟨q0, y0, q1⟩ := red_no hg (redB_low (M := M) h2)
      have HQ := Lib.hid (And.intro q0 (And.intro y0 q1))
      clear q0 y0 q1 hg
      go_enter Try.func9, Try.ntmps9
      go_wp2_with fail
      generalize (((w.alloc (.cells #[.slice B0 t0.length d0] 33)).alloc (.cells #[.int .i64 (M : Int), .slice B1 t1.length d1] 30)).alloc (.cells #[.int .i64 0, .slice none 0 0] 30)) = W0 at *
      refine HC.out.mono ?_
      rintro e W1 ⟨rfl, he1⟩
      have h2 := b3.ex he1
      have HB2 := Lib.hid h2
      have c1 := (b1.ex he1).cell 0
      have c2 := h2.cell 0
      have c2' := h2.cell 1
      have f2 := h2.free 0
      have f2' := h2.free 1
      clear b0 b1 b3 h2
      go_wp2_with fail
      have H4 := HB2.out.put2 (u := .int .i64 0) (v := .slice none 0 0)
      have c4 := H4.cell 0
      have c4' := H4.cell 1
      refine bodyPost_ret (v := .tuple #[.agg #[.int .i64 0, .slice none 0 0], .int .i64 2]) (by simp [results, Try.results9, go_sem, c4, c4']) rfl ⟨none, 0, by rw [HQ.out.1, HQ.out.2.1, HQ.out.2.2]; rfl, ((e0.trans he1).setCell (by show w.heap.size ≤ w.heap.size + 1 + 1; omega) _).setCell (by show w.heap.size ≤ w.heap.size + 1 + 1; omega) _, by rw [HQ.out.2.1]; exact OwnL.nil _ _ _ (Nat.le_refl _)⟩
    · obtain ⟨K, rfl⟩ : ∃ K : Nat, m2 = (K : Int) := ⟨m2.toNat, by omega⟩
      have ht := tmod_nat M K
      have hne : ((K : Int) != 0) = true := by simp; omega
      have hne0 : ¬ K = 0 := by omega
      have hmz : M % K < K := Nat.mod_lt _ (by omega)
      have hml : M % K ≤ M := Nat.mod_le _ _
      by_cases hz : M % K = 0
      · have hbz : ((0 : Int) != 0) = false := by decide
        have hK12 : K ≤ 12 := by
          have := Nat.le_of_dvd (show 0 < M by omega) (Nat.dvd_of_mod_eq_zero hz)
          omega
        obtain ⟨q0, y0, q1⟩ := red_yes hg (redB_yes (by omega) hz)
        have HQ := Lib.hid (And.intro q0 (And.intro y0 q1))
        rw [hz] at ht
        clear q0 y0 q1 hg hz hmz hml
        go_enter Try.func9, Try.ntmps9
        go_wp2_with fail
        generalize (((w.alloc (.cells #[.slice B0 t0.length d0] 33)).alloc (.cells #[.int .i64 (M : Int), .slice B1 t1.length d1] 30)).alloc (.cells #[.int .i64 0, .slice none 0 0] 30)) = W0 at *
        refine HC.out.mono ?_
        rintro e W1 ⟨rfl, he1⟩
        have h2 := b3.ex he1
        have HB2 := Lib.hid h2
        have c0 := (b0.ex he1).cell 0
        have c1 := (b1.ex he1).cell 0
        have c1' := (b1.ex he1).cell 1
        have c2 := h2.cell 0
        have c2' := h2.cell 1
        have HE1 := Lib.hid (e0.trans he1)
        clear b0 b1 b3 h2 e0 he1
        go_wp2_with fail
        refine (reducedModule_any B0 B1 t0.length (M : Int) t1 K d0 d1 W1 (HX.out.ex HE1.out) HLEN.out hn8 (by rw [← HLEN.out]; exact hpos) HU.out (by omega) (by omega)).mono ?_
        rintro e W2 ⟨A2, n2, rfl, he2, ho2⟩
        have h2 := HB2.out.ex he2
        have HB2' := Lib.hid h2
        have HO2 := Lib.hid ho2
        have c2 := h2.cell 0
        have c2' := h2.cell 1
        have f2 := h2.free 0
        have f2' := h2.free 1
        have hzl := HB2.out.lt
        clear h2 ho2
        go_wp2_with fail
        have H4 := HB2'.out.put2 (u := .int .i64 (K : Int)) (v := .slice A2 t0.length n2)
        have c4 := H4.cell 0
        have c4' := H4.cell 1
        refine bodyPost_ret (v := .tuple #[.agg #[.int .i64 (K : Int), .slice A2 t0.length n2], .int .i64 0]) (by simp [results, Try.results9, go_sem, c4, c4']) rfl ⟨A2, n2, by rw [HQ.out.1, HQ.out.2.1, HQ.out.2.2]; simp [HLEN.out], ((HE1.out.trans he2).setCell (by show w.heap.size ≤ w.heap.size + 1 + 1; omega) _).setCell (by show w.heap.size ≤ w.heap.size + 1 + 1; omega) _, ?_⟩
        rw [HQ.out.2.1]
        exact ((HO2.out.above (Only.set _ _ _ _) hzl).above (Only.set _ _ _ _) hzl).mono HE1.out.size (by simp) (Nat.le_refl _)
      · obtain ⟨q0, y0, q1⟩ := red_no hg (redB_mod hz)
        have HQ := Lib.hid (And.intro q0 (And.intro y0 q1))
        obtain ⟨z, hz'⟩ : ∃ z, M % K = z := ⟨_, rfl⟩
        rw [hz'] at ht hz hmz hml
        have hbz : ((z : Int) != 0) = true := by simp; omega
        clear q0 y0 q1 hg hz'
        go_enter Try.func9, Try.ntmps9
        go_wp2_with fail
        generalize (((w.alloc (.cells #[.slice B0 t0.length d0] 33)).alloc (.cells #[.int .i64 (M : Int), .slice B1 t1.length d1] 30)).alloc (.cells #[.int .i64 0, .slice none 0 0] 30)) = W0 at *
        refine HC.out.mono ?_
        rintro e W1 ⟨rfl, he1⟩
        have h2 := b3.ex he1
        have HB2 := Lib.hid h2
        have c1 := (b1.ex he1).cell 0
        have c2 := h2.cell 0
        have c2' := h2.cell 1
        have f2 := h2.free 0
        have f2' := h2.free 1
        clear b0 b1 b3 h2
        go_wp2_with fail
        have H4 := HB2.out.put2 (u := .int .i64 0) (v := .slice none 0 0)
        have c4 := H4.cell 0
        have c4' := H4.cell 1
        refine bodyPost_ret (v := .tuple #[.agg #[.int .i64 0, .slice none 0 0], .int .i64 2]) (by simp [results, Try.results9, go_sem, c4, c4']) rfl ⟨none, 0, by rw [HQ.out.1, HQ.out.2.1, HQ.out.2.2]; rfl, ((e0.trans he1).setCell (by show w.heap.size ≤ w.heap.size + 1 + 1; omega) _).setCell (by show w.heap.size ≤ w.heap.size + 1 + 1; omega) _, by rw [HQ.out.2.1]; exact OwnL.nil _ _ _ (Nat.le_refl _)⟩

end Go.Proofs.Ytllkaoacfchibaa
