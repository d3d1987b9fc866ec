/- ProductOfCochains: the model, the program's contract. -/
import Derived.Test.YtilhnmclleiodaaDoorTz
import Derived.Test.YtilhnmclleiodaaDoorFdc
import Derived.Test.YtilhnmclleiodaaDoorBa
namespace Go.Proofs.YtilhnmclleiodaaDoor
open Go.RowKit

/-- Both are cochains of the group, each in its own module. -/
noncomputable def gbB (t : List (List Int)) (m : Int) (us : List Int) (m' : Int) (us' : List Int) (n : Int) (fs : List Int) (n' : Int) (gs : List Int) : Bool := gmcB t m us n fs && gmcB t m' us' n' gs
/-- The same M, and not too many elements. -/
def sdB (m m' n n' : Int) : Bool := decide (m = m') && decide (n + n' ≤ 3)
section
variable (t : List (List Int)) (m : Int) (us : List Int) (m' : Int) (us' : List Int) (n : Int) (fs : List Int) (n' : Int) (gs : List Int)
noncomputable def qProductOfCochains0 : Int := if gbB t m us m' us' n fs n' gs = true ∧ sdB m m' n n' = true then n + n' else 0
noncomputable def yProductOfCochains0 : List Int :=
  if gbB t m us m' us' n fs n' gs = true ∧ sdB m m' n n' = true then (List.range (cellsN t.length (n.toNat + n'.toNat))).map fun k => tmsV t m'.toNat us' fs gs n.toNat n'.toNat k else []
noncomputable def qProductOfCochains1 : Int := if gbB t m us m' us' n fs n' gs = true then (if sdB m m' n n' = true then 0 else 2) else 1
end
section
variable {t : List (List Int)} {m m' n n' : Int} {us us' fs gs : List Int}
theorem tm_no (h : gbB t m us m' us' n fs n' gs = false) : qProductOfCochains0 t m us m' us' n fs n' gs = 0 ∧ yProductOfCochains0 t m us m' us' n fs n' gs = [] ∧ qProductOfCochains1 t m us m' us' n fs n' gs = 1 := by simp [qProductOfCochains0, yProductOfCochains0, qProductOfCochains1, h]
theorem tm_out (h : gbB t m us m' us' n fs n' gs = true) (h2 : sdB m m' n n' = false) : qProductOfCochains0 t m us m' us' n fs n' gs = 0 ∧ yProductOfCochains0 t m us m' us' n fs n' gs = [] ∧ qProductOfCochains1 t m us m' us' n fs n' gs = 2 := by simp [qProductOfCochains0, yProductOfCochains0, qProductOfCochains1, h, h2]
theorem tm_yes {M p q : Nat} (h : gbB t (M : Int) us (M : Int) us' (p : Int) fs (q : Int) gs = true) (h2 : sdB (M : Int) (M : Int) (p : Int) (q : Int) = true) :
    qProductOfCochains0 t (M : Int) us (M : Int) us' (p : Int) fs (q : Int) gs = ((p + q : Nat) : Int) ∧ yProductOfCochains0 t (M : Int) us (M : Int) us' (p : Int) fs (q : Int) gs = (List.range (cellsN t.length (p + q))).map (fun k => tmsV t M us' fs gs p q k) ∧ qProductOfCochains1 t (M : Int) us (M : Int) us' (p : Int) fs (q : Int) gs = 0 := by
  simp [qProductOfCochains0, yProductOfCochains0, qProductOfCochains1, h, h2]
theorem gb_parts (h : gbB t m us m' us' n fs n' gs = true) : gmcB t m us n fs = true ∧ gmcB t m' us' n' gs = true := by simpa [gbB] using h
end
theorem productOfCochains_small0 (t : List (List Int)) (m : Int) (us : List Int) (m' : Int) (us' : List Int) (n : Int) (fs : List Int) (n' : Int) (gs : List Int) : (yProductOfCochains0 t m us m' us' n fs n' gs).length ≤ 1048576 := by
  unfold yProductOfCochains0
  split
  · rename_i h
    obtain ⟨h1, h2⟩ := gb_parts h.1
    obtain ⟨M, k, rfl, rfl, hMF, hk3, hlen, h343, hfr⟩ := gmc_facts h1
    obtain ⟨M', k', rfl, rfl, -, hk3', -, -, -⟩ := gmc_facts h2
    have h3 : ((k : Int) + k' ≤ 3) := by
      have := h.2
      simp [sdB] at this
      omega
    simp only [List.length_map, List.length_range, Int.toNat_natCast]
    have := cellsN_le hMF.g.n8 (show k + k' ≤ 4 by omega)
    omega
  · simp

theorem cells_pk {N d k : Nat} (h : k < cellsN N d) : d = 0 ∨ 2 ≤ N := by
  rcases Nat.eq_zero_or_pos d with h0 | h0
  · exact .inl h0
  · right
    rcases Nat.lt_or_ge N 2 with hN | hN
    · rw [cellsN, show N - 1 = 0 by omega, Nat.zero_pow h0] at h
      omega
    · exact hN

set_option maxRecDepth 100000 in
set_option maxHeartbeats 4000000 in
theorem implProductOfCochains_ex (t0 : List (List Int)) (m1 : Int) (t1 : List Int) (m2 : Int) (t2 : List Int) (m3 : Int) (t3 : List Int) (m4 : Int) (t4 : List Int) : ∀ (B0 : Option Addr) (d0 : Nat) (B1 : Option Addr) (d1 : Nat) (B2 : Option Addr) (d2 : Nat) (B3 : Option Addr) (d3 : Nat) (B4 : Option Addr) (d4 : Nat) (W : World), RwsW W B0 t0 → IntsW W B1 t1 → IntsW W B2 t2 → IntsW W B3 t3 → IntsW W B4 t4 → SmallT t0 → t1.length ≤ 1048576 → t2.length ≤ 1048576 → t3.length ≤ 1048576 → t4.length ≤ 1048576 →
    Calls Tryd.prog 37 #[.agg #[.slice B0 t0.length d0], .agg #[.int .i64 m1, .slice B1 t1.length d1], .agg #[.int .i64 m2, .slice B2 t2.length d2], .agg #[.int .i64 m3, .slice B3 t3.length d3], .agg #[.int .i64 m4, .slice B4 t4.length d4]] W fun e W' => ∃ (C0 : Option Addr) (e0 : Nat), e = .returned (.tuple #[.agg #[.int .i64 (qProductOfCochains0 t0 m1 t1 m2 t2 m3 t3 m4 t4), .slice C0 (yProductOfCochains0 t0 m1 t1 m2 t2 m3 t3 m4 t4).length e0], .int .i64 (qProductOfCochains1 t0 m1 t1 m2 t2 m3 t3 m4 t4)]) ∧ Ex W W' ∧ OwnL W' W.heap.size W'.heap.size C0 (yProductOfCochains0 t0 m1 t1 m2 t2 m3 t3 m4 t4) := by
  intro B0 d0 B1 d1 B2 d2 B3 d3 B4 d4 w hR hX hY hF hH hs hu hv hf hh
  have e0 : Ex w ((((((w.alloc (.cells #[.slice B0 t0.length d0] 31)).alloc (.cells #[.int .i64 m1, .slice B1 t1.length d1] 28)).alloc (.cells #[.int .i64 m2, .slice B2 t2.length d2] 28)).alloc (.cells #[.int .i64 m3, .slice B3 t3.length d3] 43)).alloc (.cells #[.int .i64 m4, .slice B4 t4.length d4] 43)).alloc (.cells #[.int .i64 0, .slice none 0 0] 43)) := ((((((Ex.refl w).alloc _).alloc _).alloc _).alloc _).alloc _).alloc _
  have b0 : Has ((((((w.alloc (.cells #[.slice B0 t0.length d0] 31)).alloc (.cells #[.int .i64 m1, .slice B1 t1.length d1] 28)).alloc (.cells #[.int .i64 m2, .slice B2 t2.length d2] 28)).alloc (.cells #[.int .i64 m3, .slice B3 t3.length d3] 43)).alloc (.cells #[.int .i64 m4, .slice B4 t4.length d4] 43)).alloc (.cells #[.int .i64 0, .slice none 0 0] 43)) (w.heap.size) 31 #[.slice B0 t0.length d0] := ((((((Has.newAt (w := w) (e := 31) (cs := #[.slice B0 t0.length d0]) (k := w.heap.size) (by simp)).alloc _).alloc _).alloc _).alloc _).alloc _)
  have b1 : Has ((((((w.alloc (.cells #[.slice B0 t0.length d0] 31)).alloc (.cells #[.int .i64 m1, .slice B1 t1.length d1] 28)).alloc (.cells #[.int .i64 m2, .slice B2 t2.length d2] 28)).alloc (.cells #[.int .i64 m3, .slice B3 t3.length d3] 43)).alloc (.cells #[.int .i64 m4, .slice B4 t4.length d4] 43)).alloc (.cells #[.int .i64 0, .slice none 0 0] 43)) (w.heap.size + 1) 28 #[.int .i64 m1, .slice B1 t1.length d1] := (((((Has.newAt (w := (w.alloc (.cells #[.slice B0 t0.length d0] 31))) (e := 28) (cs := #[.int .i64 m1, .slice B1 t1.length d1]) (k := w.heap.size + 1) (by simp)).alloc _).alloc _).alloc _).alloc _)
  have b2 : Has ((((((w.alloc (.cells #[.slice B0 t0.length d0] 31)).alloc (.cells #[.int .i64 m1, .slice B1 t1.length d1] 28)).alloc (.cells #[.int .i64 m2, .slice B2 t2.length d2] 28)).alloc (.cells #[.int .i64 m3, .slice B3 t3.length d3] 43)).alloc (.cells #[.int .i64 m4, .slice B4 t4.length d4] 43)).alloc (.cells #[.int .i64 0, .slice none 0 0] 43)) (w.heap.size + 1 + 1) 28 #[.int .i64 m2, .slice B2 t2.length d2] := ((((Has.newAt (w := ((w.alloc (.cells #[.slice B0 t0.length d0] 31)).alloc (.cells #[.int .i64 m1, .slice B1 t1.length d1] 28))) (e := 28) (cs := #[.int .i64 m2, .slice B2 t2.length d2]) (k := w.heap.size + 1 + 1) (by simp)).alloc _).alloc _).alloc _)
  have b3 : Has ((((((w.alloc (.cells #[.slice B0 t0.length d0] 31)).alloc (.cells #[.int .i64 m1, .slice B1 t1.length d1] 28)).alloc (.cells #[.int .i64 m2, .slice B2 t2.length d2] 28)).alloc (.cells #[.int .i64 m3, .slice B3 t3.length d3] 43)).alloc (.cells #[.int .i64 m4, .slice B4 t4.length d4] 43)).alloc (.cells #[.int .i64 0, .slice none 0 0] 43)) (w.heap.size + 1 + 1 + 1) 43 #[.int .i64 m3, .slice B3 t3.length d3] := (((Has.newAt (w := (((w.alloc (.cells #[.slice B0 t0.length d0] 31)).alloc (.cells #[.int .i64 m1, .slice B1 t1.length d1] 28)).alloc (.cells #[.int .i64 m2, .slice B2 t2.length d2] 28))) (e := 43) (cs := #[.int .i64 m3, .slice B3 t3.length d3]) (k := w.heap.size + 1 + 1 + 1) (by simp)).alloc _).alloc _)
  have b4 : Has ((((((w.alloc (.cells #[.slice B0 t0.length d0] 31)).alloc (.cells #[.int .i64 m1, .slice B1 t1.length d1] 28)).alloc (.cells #[.int .i64 m2, .slice B2 t2.length d2] 28)).alloc (.cells #[.int .i64 m3, .slice B3 t3.length d3] 43)).alloc (.cells #[.int .i64 m4, .slice B4 t4.length d4] 43)).alloc (.cells #[.int .i64 0, .slice none 0 0] 43)) (w.heap.size + 1 + 1 + 1 + 1) 43 #[.int .i64 m4, .slice B4 t4.length d4] := ((Has.newAt (w := ((((w.alloc (.cells #[.slice B0 t0.length d0] 31)).alloc (.cells #[.int .i64 m1, .slice B1 t1.length d1] 28)).alloc (.cells #[.int .i64 m2, .slice B2 t2.length d2] 28)).alloc (.cells #[.int .i64 m3, .slice B3 t3.length d3] 43))) (e := 43) (cs := #[.int .i64 m4, .slice B4 t4.length d4]) (k := w.heap.size + 1 + 1 + 1 + 1) (by simp)).alloc _)
  have b5 : Has ((((((w.alloc (.cells #[.slice B0 t0.length d0] 31)).alloc (.cells #[.int .i64 m1, .slice B1 t1.length d1] 28)).alloc (.cells #[.int .i64 m2, .slice B2 t2.length d2] 28)).alloc (.cells #[.int .i64 m3, .slice B3 t3.length d3] 43)).alloc (.cells #[.int .i64 m4, .slice B4 t4.length d4] 43)).alloc (.cells #[.int .i64 0, .slice none 0 0] 43)) (w.heap.size + 1 + 1 + 1 + 1 + 1) 43 #[.int .i64 0, .slice none 0 0] := (Has.newAt (w := (((((w.alloc (.cells #[.slice B0 t0.length d0] 31)).alloc (.cells #[.int .i64 m1, .slice B1 t1.length d1] 28)).alloc (.cells #[.int .i64 m2, .slice B2 t2.length d2] 28)).alloc (.cells #[.int .i64 m3, .slice B3 t3.length d3] 43)).alloc (.cells #[.int .i64 m4, .slice B4 t4.length d4] 43))) (e := 43) (cs := #[.int .i64 0, .slice none 0 0]) (k := w.heap.size + 1 + 1 + 1 + 1 + 1) (by simp))
  have hmf : ∀ (fn : Fn) (first cap : Array Value) (w : World), (Instr.makeFunc fn first cap).run Tryd.prog w = .ok (.func fn first cap) w := fun _ _ _ _ => rfl
  have hC := isCochain_any B0 B1 B3 t0 m1 t1 m3 t3 d0 d1 d3 _ (hR.ex e0) (hX.ex e0) (hF.ex e0) hs hu hf
  rw [show (gmB t0 m1 t1 && cocB t0.length m1 m3 t3) = gmcB t0 m1 t1 m3 t3 from rfl] at hC
  have HC := Lib.hid hC
  have hC2 := fun W (he : Ex ((((((w.alloc (.cells #[.slice B0 t0.length d0] 31)).alloc (.cells #[.int .i64 m1, .slice B1 t1.length d1] 28)).alloc (.cells #[.int .i64 m2, .slice B2 t2.length d2] 28)).alloc (.cells #[.int .i64 m3, .slice B3 t3.length d3] 43)).alloc (.cells #[.int .i64 m4, .slice B4 t4.length d4] 43)).alloc (.cells #[.int .i64 0, .slice none 0 0] 43)) W) => isCochain_any B0 B2 B4 t0 m2 t2 m4 t4 d0 d2 d4 W (hR.ex (e0.trans he)) (hY.ex (e0.trans he)) (hH.ex (e0.trans he)) hs hv hh
  rw [show (gmB t0 m2 t2 && cocB t0.length m2 m4 t4) = gmcB t0 m2 t2 m4 t4 from rfl] at hC2
  have HC2 := Lib.hid hC2
  clear hC hC2
  cases hg1 : gmcB t0 m1 t1 m3 t3 with
  | false =>
    rw [hg1] at HC
    have HQ := Lib.hid (tm_no (m' := m2) (us' := t2) (n' := m4) (gs := t4) (show gbB t0 m1 t1 m2 t2 m3 t3 m4 t4 = false by simp [gbB, hg1]))
    clear hg1 hR hX hY hF hH HC2
    go_enter Tryd.func37, Tryd.ntmps37
    go_wp2_with fail
    generalize ((((((w.alloc (.cells #[.slice B0 t0.length d0] 31)).alloc (.cells #[.int .i64 m1, .slice B1 t1.length d1] 28)).alloc (.cells #[.int .i64 m2, .slice B2 t2.length d2] 28)).alloc (.cells #[.int .i64 m3, .slice B3 t3.length d3] 43)).alloc (.cells #[.int .i64 m4, .slice B4 t4.length d4] 43)).alloc (.cells #[.int .i64 0, .slice none 0 0] 43)) = W0 at *
    refine HC.out.mono ?_
    rintro e W1 ⟨rfl, he1⟩
    have HB5 := Lib.hid (b5.ex he1)
    have c2 := HB5.out.cell 0
    have c2' := HB5.out.cell 1
    have f2 := HB5.out.free 0
    have f2' := HB5.out.free 1
    clear b0 b1 b2 b3 b4 b5
    go_wp2_with fail
    have H4 := HB5.out.put2 (u := .int .i64 0) (v := .slice none 0 0)
    have c4 := H4.cell 0
    have c4' := H4.cell 1
    refine bodyPost_ret (v := .tuple #[.agg #[.int .i64 0, .slice none 0 0], .int .i64 1]) (by simp [results, Tryd.results37, go_sem, c4, c4']) rfl ⟨none, 0, by rw [HQ.out.1, HQ.out.2.1, HQ.out.2.2]; rfl, ((e0.trans he1).setCell (by show w.heap.size ≤ w.heap.size + 1 + 1 + 1 + 1 + 1; omega) _).setCell (by show w.heap.size ≤ w.heap.size + 1 + 1 + 1 + 1 + 1; omega) _, by rw [HQ.out.2.1]; exact OwnL.nil _ _ _ (Nat.le_refl _)⟩
  | true =>
    rw [hg1] at HC
    cases hg2 : gmcB t0 m2 t2 m4 t4 with
    | false =>
      rw [hg2] at HC2
      have HQ := Lib.hid (tm_no (m := m1) (us := t1) (n := m3) (fs := t3) (show gbB t0 m1 t1 m2 t2 m3 t3 m4 t4 = false by simp [gbB, hg2]))
      clear hg1 hg2 hR hX hY hF hH
      go_enter Tryd.func37, Tryd.ntmps37
      go_wp2_with fail
      generalize ((((((w.alloc (.cells #[.slice B0 t0.length d0] 31)).alloc (.cells #[.int .i64 m1, .slice B1 t1.length d1] 28)).alloc (.cells #[.int .i64 m2, .slice B2 t2.length d2] 28)).alloc (.cells #[.int .i64 m3, .slice B3 t3.length d3] 43)).alloc (.cells #[.int .i64 m4, .slice B4 t4.length d4] 43)).alloc (.cells #[.int .i64 0, .slice none 0 0] 43)) = W0 at *
      refine HC.out.mono ?_
      rintro e W1 ⟨rfl, he1⟩
      have HE1 := Lib.hid (e0.trans he1)
      have HC3 := Lib.hid (HC2.out W1 he1)
      have HB5 := Lib.hid (b5.ex he1)
      have k0 := (b0.ex he1).cell 0
      have k2 := (b2.ex he1).cell 0
      have k2' := (b2.ex he1).cell 1
      have k4 := (b4.ex he1).cell 0
      have k4' := (b4.ex he1).cell 1
      clear b0 b1 b2 b3 b4 b5 e0 he1 HC2
      go_wp2_with fail
      refine HC3.out.mono ?_
      rintro e W2 ⟨rfl, he2⟩
      have HE2 := Lib.hid (HE1.out.trans he2)
      have HB6 := Lib.hid (HB5.out.ex he2)
      have c2 := HB6.out.cell 0
      have c2' := HB6.out.cell 1
      have f2 := HB6.out.free 0
      have f2' := HB6.out.free 1
      clear he2 k0 k2 k2' k4 k4'
      go_wp2_with fail
      have H4 := HB6.out.put2 (u := .int .i64 0) (v := .slice none 0 0)
      have c4 := H4.cell 0
      have c4' := H4.cell 1
      refine bodyPost_ret (v := .tuple #[.agg #[.int .i64 0, .slice none 0 0], .int .i64 1]) (by simp [results, Tryd.results37, go_sem, c4, c4']) rfl ⟨none, 0, by rw [HQ.out.1, HQ.out.2.1, HQ.out.2.2]; rfl, (HE2.out.setCell (by show w.heap.size ≤ w.heap.size + 1 + 1 + 1 + 1 + 1; omega) _).setCell (by show w.heap.size ≤ w.heap.size + 1 + 1 + 1 + 1 + 1; omega) _, by rw [HQ.out.2.1]; exact OwnL.nil _ _ _ (Nat.le_refl _)⟩
    | true =>
      rw [hg2] at HC2
      have hgb : gbB t0 m1 t1 m2 t2 m3 t3 m4 t4 = true := by simp [gbB, hg1, hg2]
      obtain ⟨M, p, rfl, rfl, hMF, hp3, hlen, h343, hfr⟩ := gmc_facts hg1
      obtain ⟨M', q, rfl, rfl, hMF', hq3, hlen', h343', hfr'⟩ := gmc_facts hg2
      have hN8 := hMF.g.n8
      have hN1 := hMF.g.n1
      by_cases hMM : M = M'
      · subst hMM
        have hnn : ((M : Int) != (M : Int)) = false := by simp
        by_cases hpq : p + q ≤ 3
        · have hib : inB ((p : Int) + (q : Int)) 0 3 = true := inB_of (by omega) (by omega)
          have HQ := Lib.hid (tm_yes hgb (show sdB (M : Int) (M : Int) (p : Int) (q : Int) = true by simp [sdB]; omega))
          have HIS := Lib.hid (fun W => isDegree_ex ((p : Int) + (q : Int)) W)
          rw [hib] at HIS
          have HCW := Lib.hid (fun W (he : Ex _ W) =>
            cochainWith_any B0 t0.length d0 (p + q) 82 #[.pointer (some ⟨w.heap.size + 1 + 1 + 1, 0, none⟩), .pointer (some ⟨w.heap.size, 0, none⟩), .pointer (some ⟨w.heap.size + 1 + 1, 0, none⟩), .pointer (some ⟨w.heap.size + 1 + 1 + 1 + 1, 0, none⟩), .pointer (some ⟨w.heap.size + 1, 0, none⟩)]
              (fun j => tmsV t0 M t2 t3 t4 p q j) W hN8 hN1 (by omega) (enters_of Tryd.func82 (by kernel_rfl) rfl)
              (fun W' he' j hj B e hL hc => tmc_ex (w.heap.size + 1 + 1 + 1) w.heap.size (w.heap.size + 1 + 1) (w.heap.size + 1 + 1 + 1 + 1) (w.heap.size + 1) B0 B1 B2 B3 B4 B t0 M p q j t1 t2 t3 t4 d0 d3 d2 d4 d1 e W'
                (b3.ex (he.trans he')) (b0.ex (he.trans he')) (b2.ex (he.trans he')) (b4.ex (he.trans he')) (b1.ex (he.trans he')) (hR.ex (e0.trans (he.trans he'))) (hY.ex (e0.trans (he.trans he'))) (hF.ex (e0.trans (he.trans he'))) (hH.ex (e0.trans (he.trans he'))) hL hc hMF' hpq (cells_pk hj) hlen hfr hlen' hfr'))
          have HV : Hid (((List.range (cellsN t0.length (p + q))).map fun j => tmsV t0 M t2 t3 t4 p q j).length = cellsN t0.length (p + q)) := Lib.hid (by simp)
          have hpc : ((p + q : Nat) : Int) = (p : Int) + (q : Int) := by omega
          rw [hpc] at HCW HQ
          obtain ⟨ys, hys⟩ : ∃ ys, ((List.range (cellsN t0.length (p + q))).map fun j => tmsV t0 M t2 t3 t4 p q j) = ys := ⟨_, rfl⟩
          rw [hys] at HV HQ HCW
          obtain ⟨cn, hcn⟩ : ∃ cn, cellsN t0.length (p + q) = cn := ⟨_, rfl⟩
          rw [hcn] at HV HCW
          clear hgb hg1 hg2 hR hX hY hF hH hMF hMF' hs hu hv hf hh hlen hlen' hfr hfr' hys hcn hib hpc
          go_enter Tryd.func37, Tryd.ntmps37
          go_wp2_with fail
          generalize ((((((w.alloc (.cells #[.slice B0 t0.length d0] 31)).alloc (.cells #[.int .i64 (M : Int), .slice B1 t1.length d1] 28)).alloc (.cells #[.int .i64 (M : Int), .slice B2 t2.length d2] 28)).alloc (.cells #[.int .i64 (p : Int), .slice B3 t3.length d3] 43)).alloc (.cells #[.int .i64 (q : Int), .slice B4 t4.length d4] 43)).alloc (.cells #[.int .i64 0, .slice none 0 0] 43)) = W0 at *
          refine HC.out.mono ?_
          rintro e W1 ⟨rfl, he1⟩
          have HE1 := Lib.hid he1
          have HC3 := Lib.hid (HC2.out W1 he1)
          have HB0 := Lib.hid b0
          have HB1 := Lib.hid b1
          have HB2 := Lib.hid b2
          have HB3 := Lib.hid b3
          have HB4 := Lib.hid b4
          have HB5 := Lib.hid b5
          have HE0 := Lib.hid e0
          have k0 := (b0.ex he1).cell 0
          have k2 := (b2.ex he1).cell 0
          have k2' := (b2.ex he1).cell 1
          have k4 := (b4.ex he1).cell 0
          have k4' := (b4.ex he1).cell 1
          clear b0 b1 b2 b3 b4 b5 e0 he1 HC2
          go_wp2_with fail
          refine HC3.out.mono ?_
          rintro e W2 ⟨rfl, he2⟩
          have hx2 := HE1.out.trans he2
          have HE2 := Lib.hid hx2
          clear k0 k2 k2' k4 k4'
          have k1 := (HB1.out.ex hx2).cell 0
          have k2 := (HB2.out.ex hx2).cell 0
          have k3 := (HB3.out.ex hx2).cell 0
          have k4 := (HB4.out.ex hx2).cell 0
          have k0 := (HB0.out.ex hx2).cell 0
          clear he2 hx2
          go_wp2_with (go_at_call 81; refine (HIS.out _).mono ?_; rintro e w' ⟨rfl, rfl⟩)
          refine (HCW.out W2 HE2.out).mono ?_
          rintro e W5 ⟨A', c', rfl, he5, ho5⟩
          have hx5 := HE2.out.trans he5
          have HB6 := Lib.hid (HB5.out.ex hx5)
          have c2 := HB6.out.cell 0
          have c2' := HB6.out.cell 1
          have f2 := HB6.out.free 0
          have f2' := HB6.out.free 1
          have hzl := (HB5.out.ex HE2.out).lt
          have hzw := (HE0.out.trans HE2.out).size
          have HE5 := Lib.hid (HE0.out.trans hx5)
          have HO5 := Lib.hid ho5
          clear he5 ho5 hx5 k0 k1 k2 k3 k4 HCW
          go_wp2_with fail
          have H4 := HB6.out.put2 (u := .int .i64 ((p : Int) + (q : Int))) (v := .slice A' cn c')
          have c4 := H4.cell 0
          have c4' := H4.cell 1
          refine bodyPost_ret (v := .tuple #[.agg #[.int .i64 ((p : Int) + (q : Int)), .slice A' cn c'], .int .i64 0]) (by simp [results, Tryd.results37, go_sem, c4, c4']) rfl ⟨A', c', by rw [HQ.out.1, HQ.out.2.1, HQ.out.2.2, HV.out], (HE5.out.setCell (by show w.heap.size ≤ w.heap.size + 1 + 1 + 1 + 1 + 1; omega) _).setCell (by show w.heap.size ≤ w.heap.size + 1 + 1 + 1 + 1 + 1; omega) _, ?_⟩
          rw [HQ.out.2.1]
          exact ((HO5.out.above (Only.set _ _ _ _) hzl).above (Only.set _ _ _ _) hzl).mono hzw (by simp) (Nat.le_refl _)
        · have hib : inB ((p : Int) + (q : Int)) 0 3 = false := inB_out (by omega)
          have HQ := Lib.hid (tm_out hgb (show sdB (M : Int) (M : Int) (p : Int) (q : Int) = false by simp [sdB]; omega))
          have HIS := Lib.hid (fun W => isDegree_ex ((p : Int) + (q : Int)) W)
          rw [hib] at HIS
          clear hgb hg1 hg2 hR hX hY hF hH hMF hMF' hs hu hv hf hh hlen hlen' hfr hfr' hib
          go_enter Tryd.func37, Tryd.ntmps37
          go_wp2_with fail
          generalize ((((((w.alloc (.cells #[.slice B0 t0.length d0] 31)).alloc (.cells #[.int .i64 (M : Int), .slice B1 t1.length d1] 28)).alloc (.cells #[.int .i64 (M : Int), .slice B2 t2.length d2] 28)).alloc (.cells #[.int .i64 (p : Int), .slice B3 t3.length d3] 43)).alloc (.cells #[.int .i64 (q : Int), .slice B4 t4.length d4] 43)).alloc (.cells #[.int .i64 0, .slice none 0 0] 43)) = W0 at *
          refine HC.out.mono ?_
          rintro e W1 ⟨rfl, he1⟩
          have HE1 := Lib.hid he1
          have HC3 := Lib.hid (HC2.out W1 he1)
          have HB1 := Lib.hid b1
          have HB2 := Lib.hid b2
          have HB3 := Lib.hid b3
          have HB4 := Lib.hid b4
          have HB5 := Lib.hid b5
          have HE0 := Lib.hid e0
          have k0 := (b0.ex he1).cell 0
          have k2 := (b2.ex he1).cell 0
          have k2' := (b2.ex he1).cell 1
          have k4 := (b4.ex he1).cell 0
          have k4' := (b4.ex he1).cell 1
          clear b0 b1 b2 b3 b4 b5 e0 he1 HC2
          go_wp2_with fail
          refine HC3.out.mono ?_
          rintro e W2 ⟨rfl, he2⟩
          have hx2 := HE1.out.trans he2
          have HE2 := Lib.hid hx2
          clear k0 k2 k2' k4 k4'
          have k1 := (HB1.out.ex hx2).cell 0
          have k2 := (HB2.out.ex hx2).cell 0
          have k3 := (HB3.out.ex hx2).cell 0
          have k4 := (HB4.out.ex hx2).cell 0
          have HB6 := Lib.hid (HB5.out.ex hx2)
          have c2 := HB6.out.cell 0
          have c2' := HB6.out.cell 1
          have f2 := HB6.out.free 0
          have f2' := HB6.out.free 1
          clear he2 hx2
          go_wp2_with (go_at_call 81; refine (HIS.out _).mono ?_; rintro e w' ⟨rfl, rfl⟩)
          have H4 := HB6.out.put2 (u := .int .i64 0) (v := .slice none 0 0)
          have c4 := H4.cell 0
          have c4' := H4.cell 1
          refine bodyPost_ret (v := .tuple #[.agg #[.int .i64 0, .slice none 0 0], .int .i64 2]) (by simp [results, Tryd.results37, go_sem, c4, c4']) rfl ⟨none, 0, by rw [HQ.out.1, HQ.out.2.1, HQ.out.2.2]; rfl, ((HE0.out.trans HE2.out).setCell (by show w.heap.size ≤ w.heap.size + 1 + 1 + 1 + 1 + 1; omega) _).setCell (by show w.heap.size ≤ w.heap.size + 1 + 1 + 1 + 1 + 1; omega) _, by rw [HQ.out.2.1]; exact OwnL.nil _ _ _ (Nat.le_refl _)⟩
      · have hnn : ((M : Int) != (M' : Int)) = true := by simp; omega
        have HQ := Lib.hid (tm_out hgb (show sdB (M : Int) (M' : Int) (p : Int) (q : Int) = false by simp [sdB]; omega))
        clear hgb hg1 hg2 hR hX hY hF hH hMF hMF' hs hu hv hf hh hlen hlen' hfr hfr' hMM
        go_enter Tryd.func37, Tryd.ntmps37
        go_wp2_with fail
        generalize ((((((w.alloc (.cells #[.slice B0 t0.length d0] 31)).alloc (.cells #[.int .i64 (M : Int), .slice B1 t1.length d1] 28)).alloc (.cells #[.int .i64 (M' : Int), .slice B2 t2.length d2] 28)).alloc (.cells #[.int .i64 (p : Int), .slice B3 t3.length d3] 43)).alloc (.cells #[.int .i64 (q : Int), .slice B4 t4.length d4] 43)).alloc (.cells #[.int .i64 0, .slice none 0 0] 43)) = W0 at *
        refine HC.out.mono ?_
        rintro e W1 ⟨rfl, he1⟩
        have HE1 := Lib.hid he1
        have HC3 := Lib.hid (HC2.out W1 he1)
        have HB1 := Lib.hid b1
        have HB2 := Lib.hid b2
        have HB5 := Lib.hid b5
        have HE0 := Lib.hid e0
        have k0 := (b0.ex he1).cell 0
        have k2 := (b2.ex he1).cell 0
        have k2' := (b2.ex he1).cell 1
        have k4 := (b4.ex he1).cell 0
        have k4' := (b4.ex he1).cell 1
        clear b0 b1 b2 b3 b4 b5 e0 he1 HC2
        go_wp2_with fail
        refine HC3.out.mono ?_
        rintro e W2 ⟨rfl, he2⟩
        have hx2 := HE1.out.trans he2
        have HE2 := Lib.hid hx2
        clear k0 k2 k2' k4 k4'
        have k1 := (HB1.out.ex hx2).cell 0
        have k2 := (HB2.out.ex hx2).cell 0
        have HB6 := Lib.hid (HB5.out.ex hx2)
        have c2 := HB6.out.cell 0
        have c2' := HB6.out.cell 1
        have f2 := HB6.out.free 0
        have f2' := HB6.out.free 1
        clear he2 hx2
        go_wp2_with fail
        have H4 := HB6.out.put2 (u := .int .i64 0) (v := .slice none 0 0)
        have c4 := H4.cell 0
        have c4' := H4.cell 1
        refine bodyPost_ret (v := .tuple #[.agg #[.int .i64 0, .slice none 0 0], .int .i64 2]) (by simp [results, Tryd.results37, go_sem, c4, c4']) rfl ⟨none, 0, by rw [HQ.out.1, HQ.out.2.1, HQ.out.2.2]; rfl, ((HE0.out.trans HE2.out).setCell (by show w.heap.size ≤ w.heap.size + 1 + 1 + 1 + 1 + 1; omega) _).setCell (by show w.heap.size ≤ w.heap.size + 1 + 1 + 1 + 1 + 1; omega) _, by rw [HQ.out.2.1]; exact OwnL.nil _ _ _ (Nat.le_refl _)⟩

end Go.Proofs.YtilhnmclleiodaaDoor
