/- AddCochains: the contract of the program. -/
import Derived.Deep.RegionHeld3
import Derived.Deep.RegionWith
import Derived.Deep.DeepCutAuto
import Derived.Test.YtdehalkebneaoaaAt
import Derived.Test.YtdehalkebneaoaaAv
namespace Go.Proofs.Ytdehalkebneaoaa
open Go.RowKit

theorem addR_3' {t : List (List Int)} {m n n' k : Int} {us fs gs : List Int} (h : (gmB t m us && (cocB t.length m n fs && cocB t.length m n' gs)) = true) (h2 : inB k (-1000) 1000 = false) : addR t m us n fs n' gs k = 2 := addR_3 h h2

set_option maxRecDepth 100000 in
set_option maxHeartbeats 8000000 in
theorem implAddCochains_ex (t0 : List (List Int)) (m1 : Int) (t1 : List Int) (m2 : Int) (t2 : List Int) (m3 : Int) (t3 : List Int) (m4 : Int) : ∀ (B0 : Option Addr) (d0 : Nat) (B1 : Option Addr) (d1 : Nat) (B2 : Option Addr) (d2 : Nat) (B3 : Option Addr) (d3 : Nat) (W : World), RwsW W B0 t0 → IntsW W B1 t1 → IntsW W B2 t2 → IntsW W B3 t3 → SmallT t0 → t1.length ≤ 1048576 → t2.length ≤ 1048576 → t3.length ≤ 1048576 →
    Calls Try.prog 55 #[.agg #[.slice B0 t0.length d0], .agg #[.int .i64 m1, .slice B1 t1.length d1], .agg #[.int .i64 m2, .slice B2 t2.length d2], .agg #[.int .i64 m3, .slice B3 t3.length d3], .int .i64 m4] W fun e W' => ∃ (C0 : Option Addr) (e0 : Nat), e = .returned (.tuple #[.agg #[.int .i64 (qAddCochains0 t0 m1 t1 m2 t2 m3 t3 m4), .slice C0 (yAddCochains0 t0 m1 t1 m2 t2 m3 t3 m4).length e0], .int .i64 (qAddCochains1 t0 m1 t1 m2 t2 m3 t3 m4)]) ∧ Ex W W' ∧ OwnL W' W.heap.size W'.heap.size C0 (yAddCochains0 t0 m1 t1 m2 t2 m3 t3 m4) := by
  intro B0 d0 B1 d1 B2 d2 B3 d3 w hR hX hF hG hs hu hf hg
  have e0 : Ex w (((((w.alloc (.cells #[.slice B0 t0.length d0] 29)).alloc (.cells #[.int .i64 m1, .slice B1 t1.length d1] 36)).alloc (.cells #[.int .i64 m2, .slice B2 t2.length d2] 66)).alloc (.cells #[.int .i64 m3, .slice B3 t3.length d3] 66)).alloc (.cells #[.int .i64 0, .slice none 0 0] 66)) := (((((Ex.refl w).alloc _).alloc _).alloc _).alloc _).alloc _
  have b0 : Has (((((w.alloc (.cells #[.slice B0 t0.length d0] 29)).alloc (.cells #[.int .i64 m1, .slice B1 t1.length d1] 36)).alloc (.cells #[.int .i64 m2, .slice B2 t2.length d2] 66)).alloc (.cells #[.int .i64 m3, .slice B3 t3.length d3] 66)).alloc (.cells #[.int .i64 0, .slice none 0 0] 66)) (w.heap.size) 29 #[.slice B0 t0.length d0] := (((((Has.newAt (w := w) (e := 29) (cs := #[.slice B0 t0.length d0]) (k := w.heap.size) (by simp)).alloc _).alloc _).alloc _).alloc _)
  have b1 : Has (((((w.alloc (.cells #[.slice B0 t0.length d0] 29)).alloc (.cells #[.int .i64 m1, .slice B1 t1.length d1] 36)).alloc (.cells #[.int .i64 m2, .slice B2 t2.length d2] 66)).alloc (.cells #[.int .i64 m3, .slice B3 t3.length d3] 66)).alloc (.cells #[.int .i64 0, .slice none 0 0] 66)) (w.heap.size + 1) 36 #[.int .i64 m1, .slice B1 t1.length d1] := ((((Has.newAt (w := (w.alloc (.cells #[.slice B0 t0.length d0] 29))) (e := 36) (cs := #[.int .i64 m1, .slice B1 t1.length d1]) (k := w.heap.size + 1) (by simp)).alloc _).alloc _).alloc _)
  have b2 : Has (((((w.alloc (.cells #[.slice B0 t0.length d0] 29)).alloc (.cells #[.int .i64 m1, .slice B1 t1.length d1] 36)).alloc (.cells #[.int .i64 m2, .slice B2 t2.length d2] 66)).alloc (.cells #[.int .i64 m3, .slice B3 t3.length d3] 66)).alloc (.cells #[.int .i64 0, .slice none 0 0] 66)) (w.heap.size + 1 + 1) 66 #[.int .i64 m2, .slice B2 t2.length d2] := (((Has.newAt (w := ((w.alloc (.cells #[.slice B0 t0.length d0] 29)).alloc (.cells #[.int .i64 m1, .slice B1 t1.length d1] 36))) (e := 66) (cs := #[.int .i64 m2, .slice B2 t2.length d2]) (k := w.heap.size + 1 + 1) (by simp)).alloc _).alloc _)
  have b3 : Has (((((w.alloc (.cells #[.slice B0 t0.length d0] 29)).alloc (.cells #[.int .i64 m1, .slice B1 t1.length d1] 36)).alloc (.cells #[.int .i64 m2, .slice B2 t2.length d2] 66)).alloc (.cells #[.int .i64 m3, .slice B3 t3.length d3] 66)).alloc (.cells #[.int .i64 0, .slice none 0 0] 66)) (w.heap.size + 1 + 1 + 1) 66 #[.int .i64 m3, .slice B3 t3.length d3] := ((Has.newAt (w := (((w.alloc (.cells #[.slice B0 t0.length d0] 29)).alloc (.cells #[.int .i64 m1, .slice B1 t1.length d1] 36)).alloc (.cells #[.int .i64 m2, .slice B2 t2.length d2] 66))) (e := 66) (cs := #[.int .i64 m3, .slice B3 t3.length d3]) (k := w.heap.size + 1 + 1 + 1) (by simp)).alloc _)
  have b4 : Has (((((w.alloc (.cells #[.slice B0 t0.length d0] 29)).alloc (.cells #[.int .i64 m1, .slice B1 t1.length d1] 36)).alloc (.cells #[.int .i64 m2, .slice B2 t2.length d2] 66)).alloc (.cells #[.int .i64 m3, .slice B3 t3.length d3] 66)).alloc (.cells #[.int .i64 0, .slice none 0 0] 66)) (w.heap.size + 1 + 1 + 1 + 1) 66 #[.int .i64 0, .slice none 0 0] := (Has.newAt (w := ((((w.alloc (.cells #[.slice B0 t0.length d0] 29)).alloc (.cells #[.int .i64 m1, .slice B1 t1.length d1] 36)).alloc (.cells #[.int .i64 m2, .slice B2 t2.length d2] 66)).alloc (.cells #[.int .i64 m3, .slice B3 t3.length d3] 66))) (e := 66) (cs := #[.int .i64 0, .slice none 0 0]) (k := w.heap.size + 1 + 1 + 1 + 1) (by simp))
  have HC1 := Lib.hid (fun W (he : Ex (((((w.alloc (.cells #[.slice B0 t0.length d0] 29)).alloc (.cells #[.int .i64 m1, .slice B1 t1.length d1] 36)).alloc (.cells #[.int .i64 m2, .slice B2 t2.length d2] 66)).alloc (.cells #[.int .i64 m3, .slice B3 t3.length d3] 66)).alloc (.cells #[.int .i64 0, .slice none 0 0] 66)) W) => isCochain_any B0 B1 B2 t0 m1 t1 m2 t2 d0 d1 d2 W (hR.ex (e0.trans he)) (hX.ex (e0.trans he)) (hF.ex (e0.trans he)) hs hu hf)
  have HC2 := Lib.hid (fun W (he : Ex (((((w.alloc (.cells #[.slice B0 t0.length d0] 29)).alloc (.cells #[.int .i64 m1, .slice B1 t1.length d1] 36)).alloc (.cells #[.int .i64 m2, .slice B2 t2.length d2] 66)).alloc (.cells #[.int .i64 m3, .slice B3 t3.length d3] 66)).alloc (.cells #[.int .i64 0, .slice none 0 0] 66)) W) => isCochain_any B0 B1 B3 t0 m1 t1 m3 t3 d0 d1 d3 W (hR.ex (e0.trans he)) (hX.ex (e0.trans he)) (hG.ex (e0.trans he)) hs hu hg)
  have HF := Lib.hid hF
  have HG := Lib.hid hG
  clear hR hX hF hG
  cases hc1 : (gmB t0 m1 t1 && cocB t0.length m1 m2 t2) with
  | false =>
    have hc : (gmB t0 m1 t1 && (cocB t0.length m1 m2 t2 && cocB t0.length m1 m3 t3)) = false := by rw [← Bool.and_assoc, hc1]; rfl
    rw [hc1] at HC1
    clear hc1 HC2
    have HQ := Lib.hid (ad_err (addR_1 (k := m4) hc) (by decide))
    go_enter Try.func55, Try.ntmps55
    go_wp2_with fail
    generalize (((((w.alloc (.cells #[.slice B0 t0.length d0] 29)).alloc (.cells #[.int .i64 m1, .slice B1 t1.length d1] 36)).alloc (.cells #[.int .i64 m2, .slice B2 t2.length d2] 66)).alloc (.cells #[.int .i64 m3, .slice B3 t3.length d3] 66)).alloc (.cells #[.int .i64 0, .slice none 0 0] 66)) = W0 at *
    clear hc
    refine (HC1.out W0 (Ex.refl _)).mono ?_
    rintro e W1 ⟨rfl, he1⟩
    have h0 := b0.ex he1
    have h1 := b1.ex he1
    have h2 := b2.ex he1
    have h3 := b3.ex he1
    have h4 := b4.ex he1
    have HE1 := Lib.hid (e0.trans he1)
    have HB4 := Lib.hid h4
    have HE9 := Lib.hid HE1.out
    clear h0 h1 h2 h3 h4 b0 b1 b2 b3 b4 e0 he1
    have x4 := HB4.out.cell 0
    have x4' := HB4.out.cell 1
    have f4 := HB4.out.free 0
    have f4' := HB4.out.free 1
    go_wp2_with fail
    have H4 := HB4.out.put2 (u := .int .i64 0) (v := .slice none 0 0)
    have c4 := H4.cell 0
    have c4' := H4.cell 1
    refine bodyPost_ret (v := .tuple #[.agg #[.int .i64 0, .slice none 0 0], .int .i64 1]) (by simp [results, Try.results55, go_sem, c4, c4']) rfl ⟨none, 0, by rw [HQ.out.1, HQ.out.2.1, HQ.out.2.2]; rfl, (HE9.out.setCell (by show w.heap.size ≤ w.heap.size + 1 + 1 + 1 + 1; omega) _).setCell (by show w.heap.size ≤ w.heap.size + 1 + 1 + 1 + 1; omega) _, by rw [HQ.out.2.1]; exact OwnL.nil _ _ _ (Nat.le_refl _)⟩
  | true =>
    rw [hc1] at HC1
    cases hc2 : (gmB t0 m1 t1 && cocB t0.length m1 m3 t3) with
    | false =>
      have hc : (gmB t0 m1 t1 && (cocB t0.length m1 m2 t2 && cocB t0.length m1 m3 t3)) = false := by
        cases h1 : gmB t0 m1 t1
        · rfl
        · rw [h1, Bool.true_and] at hc2
          rw [hc2, Bool.and_false, Bool.and_false]
      rw [hc2] at HC2
      clear hc1 hc2
      have HQ := Lib.hid (ad_err (addR_1 (k := m4) hc) (by decide))
      go_enter Try.func55, Try.ntmps55
      go_wp2_with fail
      generalize (((((w.alloc (.cells #[.slice B0 t0.length d0] 29)).alloc (.cells #[.int .i64 m1, .slice B1 t1.length d1] 36)).alloc (.cells #[.int .i64 m2, .slice B2 t2.length d2] 66)).alloc (.cells #[.int .i64 m3, .slice B3 t3.length d3] 66)).alloc (.cells #[.int .i64 0, .slice none 0 0] 66)) = W0 at *
      clear hc
      refine (HC1.out W0 (Ex.refl _)).mono ?_
      rintro e W1 ⟨rfl, he1⟩
      have h0 := b0.ex he1
      have h1 := b1.ex he1
      have h2 := b2.ex he1
      have h3 := b3.ex he1
      have h4 := b4.ex he1
      have HE1 := Lib.hid (e0.trans he1)
      have HB4 := Lib.hid h4
      have x0 := h0.cell 0
      have x1 := h1.cell 0
      have x1' := h1.cell 1
      have x3 := h3.cell 0
      have x3' := h3.cell 1
      go_wp2_with fail
      refine (HC2.out W1 he1).mono ?_
      rintro e W2 ⟨rfl, he2⟩
      have HE9 := Lib.hid (HE1.out.trans he2)
      have HB4 := Lib.hid (h4.ex he2)
      have HB3 := Lib.hid (h3.ex he2)
      have HB2 := Lib.hid (h2.ex he2)
      have HB1 := Lib.hid (h1.ex he2)
      clear x0 x1 x1' x3 x3' h0 h1 h2 h3 h4 b0 b1 b2 b3 b4 e0 he1 he2
      have x4 := HB4.out.cell 0
      have x4' := HB4.out.cell 1
      have f4 := HB4.out.free 0
      have f4' := HB4.out.free 1
      go_wp2_with fail
      have H4 := HB4.out.put2 (u := .int .i64 0) (v := .slice none 0 0)
      have c4 := H4.cell 0
      have c4' := H4.cell 1
      refine bodyPost_ret (v := .tuple #[.agg #[.int .i64 0, .slice none 0 0], .int .i64 1]) (by simp [results, Try.results55, go_sem, c4, c4']) rfl ⟨none, 0, by rw [HQ.out.1, HQ.out.2.1, HQ.out.2.2]; rfl, (HE9.out.setCell (by show w.heap.size ≤ w.heap.size + 1 + 1 + 1 + 1; omega) _).setCell (by show w.heap.size ≤ w.heap.size + 1 + 1 + 1 + 1; omega) _, by rw [HQ.out.2.1]; exact OwnL.nil _ _ _ (Nat.le_refl _)⟩
    | true =>
      have hc : (gmB t0 m1 t1 && (cocB t0.length m1 m2 t2 && cocB t0.length m1 m3 t3)) = true := by
        simp only [Bool.and_eq_true] at hc1 hc2 ⊢
        exact ⟨hc1.1, hc1.2, hc2.2⟩
      rw [hc2] at HC2
      clear hc1 hc2
      cases hd : inB m4 (-1000) 1000 with
      | false =>
        rcases inB_false hd with h | h
        · have hkk : decide (m4 < -1000) = true := by simp [h]
          have HQ := Lib.hid (ad_err (addR_3' hc hd) (by decide))
          go_enter Try.func55, Try.ntmps55
          go_wp2_with fail
          generalize (((((w.alloc (.cells #[.slice B0 t0.length d0] 29)).alloc (.cells #[.int .i64 m1, .slice B1 t1.length d1] 36)).alloc (.cells #[.int .i64 m2, .slice B2 t2.length d2] 66)).alloc (.cells #[.int .i64 m3, .slice B3 t3.length d3] 66)).alloc (.cells #[.int .i64 0, .slice none 0 0] 66)) = W0 at *
          clear hc hd h
          refine (HC1.out W0 (Ex.refl _)).mono ?_
          rintro e W1 ⟨rfl, he1⟩
          have h0 := b0.ex he1
          have h1 := b1.ex he1
          have h2 := b2.ex he1
          have h3 := b3.ex he1
          have h4 := b4.ex he1
          have HE1 := Lib.hid (e0.trans he1)
          have HB4 := Lib.hid h4
          have x0 := h0.cell 0
          have x1 := h1.cell 0
          have x1' := h1.cell 1
          have x3 := h3.cell 0
          have x3' := h3.cell 1
          go_wp2_with fail
          refine (HC2.out W1 he1).mono ?_
          rintro e W2 ⟨rfl, he2⟩
          have HE9 := Lib.hid (HE1.out.trans he2)
          have HB4 := Lib.hid (h4.ex he2)
          have HB3 := Lib.hid (h3.ex he2)
          have HB2 := Lib.hid (h2.ex he2)
          have HB1 := Lib.hid (h1.ex he2)
          clear x0 x1 x1' x3 x3' h0 h1 h2 h3 h4 b0 b1 b2 b3 b4 e0 he1 he2
          have x4 := HB4.out.cell 0
          have x4' := HB4.out.cell 1
          have f4 := HB4.out.free 0
          have f4' := HB4.out.free 1
          go_wp2_with fail
          have H4 := HB4.out.put2 (u := .int .i64 0) (v := .slice none 0 0)
          have c4 := H4.cell 0
          have c4' := H4.cell 1
          refine bodyPost_ret (v := .tuple #[.agg #[.int .i64 0, .slice none 0 0], .int .i64 2]) (by simp [results, Try.results55, go_sem, c4, c4']) rfl ⟨none, 0, by rw [HQ.out.1, HQ.out.2.1, HQ.out.2.2]; rfl, (HE9.out.setCell (by show w.heap.size ≤ w.heap.size + 1 + 1 + 1 + 1; omega) _).setCell (by show w.heap.size ≤ w.heap.size + 1 + 1 + 1 + 1; omega) _, by rw [HQ.out.2.1]; exact OwnL.nil _ _ _ (Nat.le_refl _)⟩
        · have hkk : decide (m4 < -1000) = false := by simp; omega
          have hkk2 : decide (1000 < m4) = true := by simp [h]
          have HQ := Lib.hid (ad_err (addR_3' hc hd) (by decide))
          go_enter Try.func55, Try.ntmps55
          go_wp2_with fail
          generalize (((((w.alloc (.cells #[.slice B0 t0.length d0] 29)).alloc (.cells #[.int .i64 m1, .slice B1 t1.length d1] 36)).alloc (.cells #[.int .i64 m2, .slice B2 t2.length d2] 66)).alloc (.cells #[.int .i64 m3, .slice B3 t3.length d3] 66)).alloc (.cells #[.int .i64 0, .slice none 0 0] 66)) = W0 at *
          clear hc hd h
          refine (HC1.out W0 (Ex.refl _)).mono ?_
          rintro e W1 ⟨rfl, he1⟩
          have h0 := b0.ex he1
          have h1 := b1.ex he1
          have h2 := b2.ex he1
          have h3 := b3.ex he1
          have h4 := b4.ex he1
          have HE1 := Lib.hid (e0.trans he1)
          have HB4 := Lib.hid h4
          have x0 := h0.cell 0
          have x1 := h1.cell 0
          have x1' := h1.cell 1
          have x3 := h3.cell 0
          have x3' := h3.cell 1
          go_wp2_with fail
          refine (HC2.out W1 he1).mono ?_
          rintro e W2 ⟨rfl, he2⟩
          have HE9 := Lib.hid (HE1.out.trans he2)
          have HB4 := Lib.hid (h4.ex he2)
          have HB3 := Lib.hid (h3.ex he2)
          have HB2 := Lib.hid (h2.ex he2)
          have HB1 := Lib.hid (h1.ex he2)
          clear x0 x1 x1' x3 x3' h0 h1 h2 h3 h4 b0 b1 b2 b3 b4 e0 he1 he2
          have x4 := HB4.out.cell 0
          have x4' := HB4.out.cell 1
          have f4 := HB4.out.free 0
          have f4' := HB4.out.free 1
          go_wp2_with fail
          have H4 := HB4.out.put2 (u := .int .i64 0) (v := .slice none 0 0)
          have c4 := H4.cell 0
          have c4' := H4.cell 1
          refine bodyPost_ret (v := .tuple #[.agg #[.int .i64 0, .slice none 0 0], .int .i64 2]) (by simp [results, Try.results55, go_sem, c4, c4']) rfl ⟨none, 0, by rw [HQ.out.1, HQ.out.2.1, HQ.out.2.2]; rfl, (HE9.out.setCell (by show w.heap.size ≤ w.heap.size + 1 + 1 + 1 + 1; omega) _).setCell (by show w.heap.size ≤ w.heap.size + 1 + 1 + 1 + 1; omega) _, by rw [HQ.out.2.1]; exact OwnL.nil _ _ _ (Nat.le_refl _)⟩
      | true =>
        obtain ⟨hk0, hk1⟩ := inB_true hd
        have hkk : decide (m4 < -1000) = false := by simp; omega
        have hkk2 : decide (1000 < m4) = false := by simp; omega
        by_cases hn : m2 = m3
        · subst hn
          have hnn : (m2 != m2) = false := by simp
          have HQ := Lib.hid (ad_yes (addR_0 (n' := m2) hc rfl hd))
          obtain ⟨M, rfl, hMF, -, -, hlen, h343, hfr, hgr⟩ := ad_facts (k := m4) hc
          have hM2 := hMF.m2
          have hM12 := hMF.m12
          have HLEN := Lib.hid hlen
          have HFR := Lib.hid hfr
          have HGR := Lib.hid hgr
          have hmf : ∀ (fn : Fn) (first cap : Array Value) (w : World), (Instr.makeFunc fn first cap).run Try.prog w = .ok (.func fn first cap) w := fun _ _ _ _ => rfl
          clear hc hMF hfr hgr hlen hd hs hu
          go_enter Try.func55, Try.ntmps55
          go_wp2_with fail
          generalize (((((w.alloc (.cells #[.slice B0 t0.length d0] 29)).alloc (.cells #[.int .i64 (M : Int), .slice B1 t1.length d1] 36)).alloc (.cells #[.int .i64 m2, .slice B2 t2.length d2] 66)).alloc (.cells #[.int .i64 m2, .slice B3 t3.length d3] 66)).alloc (.cells #[.int .i64 0, .slice none 0 0] 66)) = W0 at *
          refine (HC1.out W0 (Ex.refl _)).mono ?_
          rintro e W1 ⟨rfl, he1⟩
          have h0 := b0.ex he1
          have h1 := b1.ex he1
          have h2 := b2.ex he1
          have h3 := b3.ex he1
          have h4 := b4.ex he1
          have HE1 := Lib.hid (e0.trans he1)
          have HB4 := Lib.hid h4
          have x0 := h0.cell 0
          have x1 := h1.cell 0
          have x1' := h1.cell 1
          have x3 := h3.cell 0
          have x3' := h3.cell 1
          go_wp2_with fail
          refine (HC2.out W1 he1).mono ?_
          rintro e W2 ⟨rfl, he2⟩
          have HE9 := Lib.hid (HE1.out.trans he2)
          have HB4 := Lib.hid (h4.ex he2)
          have HB3 := Lib.hid (h3.ex he2)
          have HB2 := Lib.hid (h2.ex he2)
          have HB1 := Lib.hid (h1.ex he2)
          clear x0 x1 x1' x3 x3' h0 h1 h2 h3 h4 b0 b1 b2 b3 b4 e0 he1 he2
          clear HC1 HC2
          have x2 := HB2.out.cell 0
          have x2' := HB2.out.cell 1
          have x3 := HB3.out.cell 0
          have x3' := HB3.out.cell 1
          have hmk := makeI t2.length (by omega)
          have hpn := Has.new W2 106 #[.int .i64 1, .int .i64 m2, .slice B2 t2.length d2, .int .i64 m4, .int .i64 m2, .slice B3 t3.length d3]
          have hep := Ex.new W2 (.cells #[.int .i64 1, .int .i64 m2, .slice B2 t2.length d2, .int .i64 m4, .int .i64 m2, .slice B3 t3.length d3] 106)
          have HPN := Lib.hid hpn
          have HEP := Lib.hid hep
          have hzp := hpn.lt
          clear hpn hep
          go_upto_region 6 with (fail)
          obtain ⟨P, hP⟩ : ∃ P, W2.heap.size = P := ⟨_, rfl⟩
          rw [hP] at HPN hzp ⊢
          generalize W2.alloc (.cells #[.int .i64 1, .int .i64 m2, .slice B2 t2.length d2, .int .i64 m4, .int .i64 m2, .slice B3 t3.length d3] 106) = W3 at *
          have HE3 := Lib.hid (HE9.out.trans HEP.out)
          have HB1 := Lib.hid (HB1.out.ex HEP.out)
          have HB2 := Lib.hid (HB2.out.ex HEP.out)
          have HB4 := Lib.hid (HB4.out.ex HEP.out)
          have hz4 := HB4.out.lt
          clear HEP HE9 HB3 x2 x2' x3 x3' hP
          have HK := Lib.hid (fun (W' : World) (hb : Ex W3.drew W') => (⟨(Has.ex (w := W3.drew) HB2.out hb).cell 0, (Has.ex (w := W3.drew) HB2.out hb).cell 1⟩ : W'.cell? ⟨w.heap.size + 1 + 1, 0, none⟩ = some (.int .i64 m2) ∧ W'.cell? ⟨w.heap.size + 1 + 1, 1, none⟩ = some (.slice B2 t2.length d2)))
          go_cut [13] (fun s13 wx => ∃ (g ga : Nat), s13 = .pointer (some ⟨g, 0, none⟩) ∧ Ex W3 wx ∧ W3.heap.size ≤ g ∧ W3.heap.size ≤ ga ∧ g ≠ ga ∧ Has wx g 66 #[.int .i64 m2, .slice (some ⟨ga, 0, none⟩) t2.length t2.length] ∧ Has wx ga 2 (tab t2.length fun _ => .int .i64 0))
          case first =>
            go_region_held3 (fun w' : World => w'.cell? ⟨w.heap.size + 1 + 1, 0, none⟩ = some (.int .i64 m2) ∧ w'.cell? ⟨w.heap.size + 1 + 1, 1, none⟩ = some (.slice B2 t2.length d2))
              (first
                | exact HK.out _ (Ex.refl _)
                | exact HK.out _ (Ex.alloc (Ex.refl _) _)
                | exact HK.out _ (Ex.alloc (Ex.alloc (Ex.refl _) _) _)
                | exact HK.out _ (Ex.setCell (Ex.setCell (Ex.alloc (Ex.alloc (Ex.refl _) _) _) (Nat.le_refl _) _) (Nat.le_refl _) _))
              (fail)
            all_goals
              go_wp2_with fail
              go_meet
            · exact ⟨W3.heap.size + 1, W3.heap.size, rfl, ((Ex.new W3 _).alloc _).drew, by omega, Nat.le_refl _, by omega, Has.ex (Has.newAt (by simp)) (Ex.refl _).drew, Has.ex ((Has.new _ _ _).alloc _) (Ex.refl _).drew⟩
            · exact ⟨W3.heap.size, W3.heap.size + 1, rfl, ((Ex.new W3 _).alloc _).drew, Nat.le_refl _, by omega, by omega, Has.ex ((Has.new _ _ _).alloc _) (Ex.refl _).drew, Has.ex (Has.newAt (by simp)) (Ex.refl _).drew⟩
          obtain ⟨W4, rfl⟩ : ∃ x : World, x = wc := ⟨_, rfl⟩
          obtain ⟨g, ga, rfl, he4, hg4, hga4, hgg, hbg, hba⟩ := hcut
          have HE4 := Lib.hid he4
          have HBG := Lib.hid hbg
          have HBA : Hid (Has W4 ga 2 (tab t2.length fun l => .int .i64 (if l < 0 then nth (sumL (M : Int) t2 t3 m4) l else 0))) := Lib.hid (by
            rw [tab_congr (g := fun _ => .int .i64 0) (fun l _ => by simp)]
            exact hba)
          have cg1 := hbg.cell 1
          clear he4 hbg hba HK hmk
          go_wp2_with fail
          clear cg1
          go_loopw [58] (fun i wr => ∃ j : Nat, j ≤ t2.length ∧ i = .int .i64 (j : Int) ∧ Hid (Ex W3 wr) ∧ Hid (Has wr g 66 #[.int .i64 m2, .slice (some ⟨ga, 0, none⟩) t2.length t2.length]) ∧ Hid (Has wr ga 2 (tab t2.length fun l => .int .i64 (if l < j then nth (sumL (M : Int) t2 t3 m4) l else 0)))) (fun i _ => t2.length - (intOf i).toNat)
          case atStart => exact ⟨0, Nat.zero_le _, rfl, HE4, HBG, HBA⟩
          case round =>
            obtain ⟨j, hj, rfl, HE, HBG, HBA⟩ := hrel
            by_cases hlt : j < t2.length
            · have HSA := Lib.hid (sumL_at (M : Int) t2 t3 m4 hlt)
              obtain ⟨I, hI⟩ : ∃ I, wr.heap.size = I := ⟨_, rfl⟩
              have en := Ex.new wr (.cells #[.int .i64 (j : Int)] 3)
              have bI := Has.new wr 3 #[.int .i64 (j : Int)]
              rw [hI] at bI
              have h3I : W3.heap.size ≤ I := by rw [← hI]; exact HE.out.size
              have hgI : g < I := by rw [← hI]; exact HBG.out.lt
              have haI : ga < I := by rw [← hI]; exact HBA.out.lt
              have HEN := Lib.hid en
              have HBI := Lib.hid bI
              clear en bI
              go_wp2_with fail
              try rw [hI]
              generalize wr.alloc (.cells #[.int .i64 (j : Int)] 3) = W5 at *
              clear hI
              have HE5 := Lib.hid (HE.out.trans HEN.out)
              have HBG5 := Lib.hid (HBG.out.ex HEN.out)
              have HBA5 := Lib.hid (HBA.out.ex HEN.out)
              have HB15 := Lib.hid (HB1.out.ex HE5.out)
              obtain ⟨r, hr⟩ : ∃ r, (nth t2 j + m4 * nth t3 j) % (M : Int) = r := ⟨_, rfl⟩
              have hjn : (j : Int) < (t2.length : Int) := by omega
              have hj0 : (0 : Int) ≤ (j : Int) := by omega
              have HSU := Lib.hid (fun (W' : World) (he : Ex W5.drew W') => hr ▸ addSum_any P I M j m4 m2 m2 t2 t3 B2 B3 d2 d3 2 W' (by omega) hM12 hk0 hk1 ((HPN.out.ex HE5.out.drew).ex he) ((Has.ex (w := W5.drew) HBI.out he).cell 0) (HF.out.ex (HE3.out.trans (HE5.out.drew.trans he))) (HG.out.ex (HE3.out.trans (HE5.out.drew.trans he))) hlt (by rw [← HLEN.out]; exact hlt) HFR.out HGR.out)
              rw [hr] at HSA
              clear hr
              have HKS := Lib.hid (fun (W' : World) (he : Ex W5.drew W') => (⟨(Has.ex (w := W5.drew) HBG5.out he).cell 1, (Has.ex (w := W5.drew) HBI.out he).cell 0, (Has.ex (w := W5.drew) HB15.out he).cell 0⟩ : (fun w' : World => w'.cell? ⟨g, 1, none⟩ = some (.slice (some ⟨ga, 0, none⟩) t2.length t2.length) ∧ w'.cell? ⟨I, 0, none⟩ = some (.int .i64 (j : Int)) ∧ w'.cell? ⟨w.heap.size + 1, 0, none⟩ = some (.int .i64 (M : Int))) W'))
              have HKT := Lib.hid (fun (W' : World) (he : Ex W5.drew W') => (⟨((Has.ex (w := W5.drew) HBG5.out he).far (p := ⟨ga, j, none⟩) hgg (.int .i64 r)).cell 1, ((Has.ex (w := W5.drew) HBI.out he).far (p := ⟨ga, j, none⟩) (by show I ≠ ga; omega) (.int .i64 r)).cell 0, ((Has.ex (w := W5.drew) HB15.out he).far (p := ⟨ga, j, none⟩) (by show w.heap.size + 1 ≠ ga; omega) (.int .i64 r)).cell 0⟩ : (fun w' : World => w'.cell? ⟨g, 1, none⟩ = some (.slice (some ⟨ga, 0, none⟩) t2.length t2.length) ∧ w'.cell? ⟨I, 0, none⟩ = some (.int .i64 (j : Int)) ∧ w'.cell? ⟨w.heap.size + 1, 0, none⟩ = some (.int .i64 (M : Int))) (W'.setCell ⟨ga, j, none⟩ (.int .i64 r))))
              go_region_held3 (fun w' : World => w'.cell? ⟨g, 1, none⟩ = some (.slice (some ⟨ga, 0, none⟩) t2.length t2.length) ∧ w'.cell? ⟨I, 0, none⟩ = some (.int .i64 (j : Int)) ∧ w'.cell? ⟨w.heap.size + 1, 0, none⟩ = some (.int .i64 (M : Int)))
                (first
                  | exact HKS.out _ (Ex.refl _)
                  | exact HKS.out _ hv
                  | exact HKT.out _ hv)
                ((go_at_call 95; refine (HSU.out _ (Ex.refl _)).mono ?_; rintro e V ⟨rfl, hv⟩; have hva := (Has.ex (w := W5.drew) HBA5.out hv); have cva := hva.cell j; rw [tab_get hlt] at cva; have fva := hva.free j; have HVA := Lib.hid hva; clear hva))
              go_wp2_with fail
              have hev := HE5.out.drew.trans hv
              go_roundw
              case rel =>
                refine ⟨j + 1, by omega, by go_num, Lib.hid (hev.setCell (p := ⟨ga, j, none⟩) hga4 _), Lib.hid ((Has.ex (w := W5.drew) HBG5.out hv).far (p := ⟨ga, j, none⟩) hgg _), Lib.hid ?_⟩
                have h8 := HVA.out.put j (.int .i64 r)
                rw [tab_set hlt] at h8
                rw [tab_congr (g := fun l => if l = j then .int .i64 r else .int .i64 (if l < j then nth (sumL (M : Int) t2 t3 m4) l else 0)) (fun l hl => by
                  by_cases h9 : l = j
                  · subst h9
                    rw [if_pos rfl, if_pos (by omega), HSA.out]
                  · rw [if_neg h9]
                    by_cases h10 : l < j
                    · rw [if_pos h10, if_pos (by omega)]
                    · rw [if_neg h10, if_neg (by omega)])]
                exact h8
              case measure => simp [intOf]; omega
            · obtain rfl : j = t2.length := by omega
              have y1 := HBG.out.cell 0
              have y1' := HBG.out.cell 1
              have HB49 := Lib.hid (HB4.out.ex HE.out)
              have x4 := HB49.out.cell 0
              have x4' := HB49.out.cell 1
              have f4 := HB49.out.free 0
              have f4' := HB49.out.free 1
              go_wp2_with fail
              have H4 := HB49.out.put2 (u := .int .i64 m2) (v := .slice (some ⟨ga, 0, none⟩) t2.length t2.length)
              have c4 := H4.cell 0
              have c4' := H4.cell 1
              refine bodyPost_ret (v := .tuple #[.agg #[.int .i64 m2, .slice (some ⟨ga, 0, none⟩) t2.length t2.length], .int .i64 0]) (by simp [results, Try.results55, go_sem, c4, c4']) rfl ⟨some ⟨ga, 0, none⟩, t2.length, by rw [HQ.out.1, HQ.out.2.1, HQ.out.2.2, sumL_len], ((HE3.out.trans HE.out).setCell (by show w.heap.size ≤ w.heap.size + 1 + 1 + 1 + 1; omega) _).setCell (by show w.heap.size ≤ w.heap.size + 1 + 1 + 1 + 1; omega) _, ?_⟩
              rw [HQ.out.2.1]
              have hzw := HE3.out.size
              refine OwnL.of_has (e := 2) (n := t2.length) ?_ (sumL_len ..).symm (by omega)
              rw [tab_congr (g := fun l => .int .i64 (if l < t2.length then nth (sumL (M : Int) t2 t3 m4) l else 0)) (fun l hl => by rw [if_pos hl])]
              exact (HBA.out.far (p := ⟨w.heap.size + 1 + 1 + 1 + 1, 0, none⟩) (by show ga ≠ w.heap.size + 1 + 1 + 1 + 1; omega) _).far (p := ⟨w.heap.size + 1 + 1 + 1 + 1, 1, none⟩) (by show ga ≠ w.heap.size + 1 + 1 + 1 + 1; omega) _
        · have hnn : (m2 != m3) = true := by simp [hn]
          have HQ := Lib.hid (ad_err (addR_2 (k := m4) hc hn) (by decide))
          go_enter Try.func55, Try.ntmps55
          go_wp2_with fail
          generalize (((((w.alloc (.cells #[.slice B0 t0.length d0] 29)).alloc (.cells #[.int .i64 m1, .slice B1 t1.length d1] 36)).alloc (.cells #[.int .i64 m2, .slice B2 t2.length d2] 66)).alloc (.cells #[.int .i64 m3, .slice B3 t3.length d3] 66)).alloc (.cells #[.int .i64 0, .slice none 0 0] 66)) = W0 at *
          clear hc hn hd
          refine (HC1.out W0 (Ex.refl _)).mono ?_
          rintro e W1 ⟨rfl, he1⟩
          have h0 := b0.ex he1
          have h1 := b1.ex he1
          have h2 := b2.ex he1
          have h3 := b3.ex he1
          have h4 := b4.ex he1
          have HE1 := Lib.hid (e0.trans he1)
          have HB4 := Lib.hid h4
          have x0 := h0.cell 0
          have x1 := h1.cell 0
          have x1' := h1.cell 1
          have x3 := h3.cell 0
          have x3' := h3.cell 1
          go_wp2_with fail
          refine (HC2.out W1 he1).mono ?_
          rintro e W2 ⟨rfl, he2⟩
          have HE9 := Lib.hid (HE1.out.trans he2)
          have HB4 := Lib.hid (h4.ex he2)
          have HB3 := Lib.hid (h3.ex he2)
          have HB2 := Lib.hid (h2.ex he2)
          have HB1 := Lib.hid (h1.ex he2)
          clear x0 x1 x1' x3 x3' h0 h1 h2 h3 h4 b0 b1 b2 b3 b4 e0 he1 he2
          have x2 := HB2.out.cell 0
          have x3 := HB3.out.cell 0
          have x4 := HB4.out.cell 0
          have x4' := HB4.out.cell 1
          have f4 := HB4.out.free 0
          have f4' := HB4.out.free 1
          go_wp2_with fail
          have H4 := HB4.out.put2 (u := .int .i64 0) (v := .slice none 0 0)
          have c4 := H4.cell 0
          have c4' := H4.cell 1
          refine bodyPost_ret (v := .tuple #[.agg #[.int .i64 0, .slice none 0 0], .int .i64 2]) (by simp [results, Try.results55, go_sem, c4, c4']) rfl ⟨none, 0, by rw [HQ.out.1, HQ.out.2.1, HQ.out.2.2]; rfl, (HE9.out.setCell (by show w.heap.size ≤ w.heap.size + 1 + 1 + 1 + 1; omega) _).setCell (by show w.heap.size ≤ w.heap.size + 1 + 1 + 1 + 1; omega) _, by rw [HQ.out.2.1]; exact OwnL.nil _ _ _ (Nat.le_refl _)⟩

end Go.Proofs.Ytdehalkebneaoaa
