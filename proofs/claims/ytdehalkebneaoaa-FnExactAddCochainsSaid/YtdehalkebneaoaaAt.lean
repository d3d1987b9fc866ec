/- AddCochains: the contract of the model. -/
import Derived.Test.YtdehalkebneaoaaAs
namespace Go.Proofs.Ytdehalkebneaoaa
open Go.RowKit

theorem l03Code2_ex (B0 B1 B2 B3 : Option Addr) (t0 : List (List Int)) (m : Int) (us : List Int) (n : Int) (fs : List Int) (n' : Int) (gs : List Int) (d0 d1 d2 d3 kb : Nat) (w : World) (hR : RwsW w B0 t0) (hX : IntsW w B1 us) (hF : IntsW w B2 fs) (hG : IntsW w B3 gs) (hs : SmallT t0) (hu : us.length ≤ 1048576) (hf : fs.length ≤ 1048576) (hg : gs.length ≤ 1048576)
    (hK : Has w kb 66 #[.int .i64 n, .slice B2 fs.length d2, .int .i64 n', .slice B3 gs.length d3]) :
    Calls Try.prog 89 #[.agg #[.slice B0 t0.length d0], .agg #[.int .i64 m, .slice B1 us.length d1], .slice (some ⟨kb, 0, none⟩) 2 2] w fun e w' => e = .returned (.int .i64 (if (gmB t0 m us && (cocB t0.length m n fs && cocB t0.length m n' gs)) = true then 0 else 1)) ∧ Ex w w' := by
  have h2 : ∀ i, i < 2 → i = 0 ∨ i = 1 := fun i hi => by omega
  have hcol : CoL w kb 2 (fun i => if i = 0 then n else n') (fun i => if i = 0 then fs else gs) (fun i => if i = 0 then B2 else B3) (fun i => if i = 0 then d2 else d3) := by
    refine ⟨hK.lt, fun i hi => ?_, fun i hi => ?_, fun i hi => ?_, fun i hi => ?_⟩
    all_goals rcases h2 i hi with rfl | rfl
    · exact hK.cell 0
    · exact hK.cell 2
    · exact hK.cell 1
    · exact hK.cell 3
    · exact hF
    · exact hG
    · exact hf
    · exact hg
  refine (l03Code_any B0 B1 (some ⟨kb, 0, none⟩) t0 m us kb 2 2 _ _ _ _ d0 d1 w hR hX hs hu (by omega) (fun _ => ⟨rfl, hcol⟩)).mono fun e w' ⟨h3, h4⟩ => ⟨?_, h4⟩
  rw [h3]
  congr 2
  have hc : cocsB t0.length m 2 (fun i => if i = 0 then n else n') (fun i => if i = 0 then fs else gs) = (cocB t0.length m n fs && cocB t0.length m n' gs) := by
    have h01 : List.range 2 = [0, 1] := rfl
    simp [cocsB, h01]
  rw [coC, hc]
  simp only [Bool.and_eq_true]

/-- What two cochains give that are added. -/
theorem ad_facts {t : List (List Int)} {m n k : Int} {us fs gs : List Int} (h : (gmB t m us && (cocB t.length m n fs && cocB t.length m n gs)) = true) :
    ∃ M : Nat, m = (M : Int) ∧ ModF t M us ∧ 0 ≤ n ∧ n ≤ 3 ∧ fs.length = gs.length ∧ fs.length ≤ 343 ∧ InR M fs ∧ InR M gs := by
  simp only [Bool.and_eq_true] at h
  obtain ⟨M, rfl, hF⟩ := gmB_f h.1
  obtain ⟨h0, h1, h2, h3⟩ := cocB_true h.2.1
  obtain ⟨_, _, h5, h6⟩ := cocB_true h.2.2
  have hle : cellsN t.length n.toNat ≤ 343 := by
    have hn : n.toNat ≤ 3 := by omega
    exact Nat.le_trans (Nat.pow_le_pow_left (show t.length - 1 ≤ 7 by have := hF.g.n8; omega) _) (Nat.le_trans (Nat.pow_le_pow_right (show 0 < 7 by omega) hn) (by decide))
  exact ⟨M, rfl, hF, h0, h1, by rw [h2, h5], by rw [h2]; exact hle, belowB_inR h3, belowB_inR h6⟩

set_option maxRecDepth 100000 in
set_option maxHeartbeats 4000000 in
theorem specAddCochains_ex (t0 : List (List Int)) (m1 : Int) (t1 : List Int) (m2 : Int) (t2 : List Int) (m3 : Int) (t3 : List Int) (m4 : Int) : ∀ (B0 : Option Addr) (d0 : Nat) (B1 : Option Addr) (d1 : Nat) (B2 : Option Addr) (d2 : Nat) (B3 : Option Addr) (d3 : Nat) (W : World), RwsW W B0 t0 → IntsW W B1 t1 → IntsW W B2 t2 → IntsW W B3 t3 → SmallT t0 → t1.length ≤ 1048576 → t2.length ≤ 1048576 → t3.length ≤ 1048576 →
    Calls Try.prog 54 #[.agg #[.slice B0 t0.length d0], .agg #[.int .i64 m1, .slice B1 t1.length d1], .agg #[.int .i64 m2, .slice B2 t2.length d2], .agg #[.int .i64 m3, .slice B3 t3.length d3], .int .i64 m4] W fun e W' => ∃ (C0 : Option Addr) (e0 : Nat), e = .returned (.tuple #[.agg #[.int .i64 (qAddCochains0 t0 m1 t1 m2 t2 m3 t3 m4), .slice C0 (yAddCochains0 t0 m1 t1 m2 t2 m3 t3 m4).length e0], .int .i64 (qAddCochains1 t0 m1 t1 m2 t2 m3 t3 m4)]) ∧ Ex W W' ∧ OwnL W' W.heap.size W'.heap.size C0 (yAddCochains0 t0 m1 t1 m2 t2 m3 t3 m4) := by
  intro B0 d0 B1 d1 B2 d2 B3 d3 w hR hX hF hG hs hu hf hg
  have e0 : Ex w ((((((w.alloc (.cells #[.slice B0 t0.length d0] 29)).alloc (.cells #[.int .i64 m1, .slice B1 t1.length d1] 36)).alloc (.cells #[.int .i64 m2, .slice B2 t2.length d2] 66)).alloc (.cells #[.int .i64 m3, .slice B3 t3.length d3] 66)).alloc (.cells #[.int .i64 0, .slice none 0 0] 66)).alloc (.cells #[.int .i64 m2, .slice B2 t2.length d2, .int .i64 m3, .slice B3 t3.length d3] 66)) := ((((((Ex.refl w).alloc _).alloc _).alloc _).alloc _).alloc _).alloc _
  have b0 : Has ((((((w.alloc (.cells #[.slice B0 t0.length d0] 29)).alloc (.cells #[.int .i64 m1, .slice B1 t1.length d1] 36)).alloc (.cells #[.int .i64 m2, .slice B2 t2.length d2] 66)).alloc (.cells #[.int .i64 m3, .slice B3 t3.length d3] 66)).alloc (.cells #[.int .i64 0, .slice none 0 0] 66)).alloc (.cells #[.int .i64 m2, .slice B2 t2.length d2, .int .i64 m3, .slice B3 t3.length d3] 66)) (w.heap.size) 29 #[.slice B0 t0.length d0] := ((((((Has.newAt (w := w) (e := 29) (cs := #[.slice B0 t0.length d0]) (k := w.heap.size) (by simp)).alloc _).alloc _).alloc _).alloc _).alloc _)
  have b1 : Has ((((((w.alloc (.cells #[.slice B0 t0.length d0] 29)).alloc (.cells #[.int .i64 m1, .slice B1 t1.length d1] 36)).alloc (.cells #[.int .i64 m2, .slice B2 t2.length d2] 66)).alloc (.cells #[.int .i64 m3, .slice B3 t3.length d3] 66)).alloc (.cells #[.int .i64 0, .slice none 0 0] 66)).alloc (.cells #[.int .i64 m2, .slice B2 t2.length d2, .int .i64 m3, .slice B3 t3.length d3] 66)) (w.heap.size + 1) 36 #[.int .i64 m1, .slice B1 t1.length d1] := (((((Has.newAt (w := (w.alloc (.cells #[.slice B0 t0.length d0] 29))) (e := 36) (cs := #[.int .i64 m1, .slice B1 t1.length d1]) (k := w.heap.size + 1) (by simp)).alloc _).alloc _).alloc _).alloc _)
  have b2 : Has ((((((w.alloc (.cells #[.slice B0 t0.length d0] 29)).alloc (.cells #[.int .i64 m1, .slice B1 t1.length d1] 36)).alloc (.cells #[.int .i64 m2, .slice B2 t2.length d2] 66)).alloc (.cells #[.int .i64 m3, .slice B3 t3.length d3] 66)).alloc (.cells #[.int .i64 0, .slice none 0 0] 66)).alloc (.cells #[.int .i64 m2, .slice B2 t2.length d2, .int .i64 m3, .slice B3 t3.length d3] 66)) (w.heap.size + 1 + 1) 66 #[.int .i64 m2, .slice B2 t2.length d2] := ((((Has.newAt (w := ((w.alloc (.cells #[.slice B0 t0.length d0] 29)).alloc (.cells #[.int .i64 m1, .slice B1 t1.length d1] 36))) (e := 66) (cs := #[.int .i64 m2, .slice B2 t2.length d2]) (k := w.heap.size + 1 + 1) (by simp)).alloc _).alloc _).alloc _)
  have b3 : Has ((((((w.alloc (.cells #[.slice B0 t0.length d0] 29)).alloc (.cells #[.int .i64 m1, .slice B1 t1.length d1] 36)).alloc (.cells #[.int .i64 m2, .slice B2 t2.length d2] 66)).alloc (.cells #[.int .i64 m3, .slice B3 t3.length d3] 66)).alloc (.cells #[.int .i64 0, .slice none 0 0] 66)).alloc (.cells #[.int .i64 m2, .slice B2 t2.length d2, .int .i64 m3, .slice B3 t3.length d3] 66)) (w.heap.size + 1 + 1 + 1) 66 #[.int .i64 m3, .slice B3 t3.length d3] := (((Has.newAt (w := (((w.alloc (.cells #[.slice B0 t0.length d0] 29)).alloc (.cells #[.int .i64 m1, .slice B1 t1.length d1] 36)).alloc (.cells #[.int .i64 m2, .slice B2 t2.length d2] 66))) (e := 66) (cs := #[.int .i64 m3, .slice B3 t3.length d3]) (k := w.heap.size + 1 + 1 + 1) (by simp)).alloc _).alloc _)
  have b4 : Has ((((((w.alloc (.cells #[.slice B0 t0.length d0] 29)).alloc (.cells #[.int .i64 m1, .slice B1 t1.length d1] 36)).alloc (.cells #[.int .i64 m2, .slice B2 t2.length d2] 66)).alloc (.cells #[.int .i64 m3, .slice B3 t3.length d3] 66)).alloc (.cells #[.int .i64 0, .slice none 0 0] 66)).alloc (.cells #[.int .i64 m2, .slice B2 t2.length d2, .int .i64 m3, .slice B3 t3.length d3] 66)) (w.heap.size + 1 + 1 + 1 + 1) 66 #[.int .i64 0, .slice none 0 0] := ((Has.newAt (w := ((((w.alloc (.cells #[.slice B0 t0.length d0] 29)).alloc (.cells #[.int .i64 m1, .slice B1 t1.length d1] 36)).alloc (.cells #[.int .i64 m2, .slice B2 t2.length d2] 66)).alloc (.cells #[.int .i64 m3, .slice B3 t3.length d3] 66))) (e := 66) (cs := #[.int .i64 0, .slice none 0 0]) (k := w.heap.size + 1 + 1 + 1 + 1) (by simp)).alloc _)
  have b5 : Has ((((((w.alloc (.cells #[.slice B0 t0.length d0] 29)).alloc (.cells #[.int .i64 m1, .slice B1 t1.length d1] 36)).alloc (.cells #[.int .i64 m2, .slice B2 t2.length d2] 66)).alloc (.cells #[.int .i64 m3, .slice B3 t3.length d3] 66)).alloc (.cells #[.int .i64 0, .slice none 0 0] 66)).alloc (.cells #[.int .i64 m2, .slice B2 t2.length d2, .int .i64 m3, .slice B3 t3.length d3] 66)) (w.heap.size + 1 + 1 + 1 + 1 + 1) 66 #[.int .i64 m2, .slice B2 t2.length d2, .int .i64 m3, .slice B3 t3.length d3] := (Has.newAt (w := (((((w.alloc (.cells #[.slice B0 t0.length d0] 29)).alloc (.cells #[.int .i64 m1, .slice B1 t1.length d1] 36)).alloc (.cells #[.int .i64 m2, .slice B2 t2.length d2] 66)).alloc (.cells #[.int .i64 m3, .slice B3 t3.length d3] 66)).alloc (.cells #[.int .i64 0, .slice none 0 0] 66))) (e := 66) (cs := #[.int .i64 m2, .slice B2 t2.length d2, .int .i64 m3, .slice B3 t3.length d3]) (k := w.heap.size + 1 + 1 + 1 + 1 + 1) (by simp))
  have HC := Lib.hid (l03Code2_ex B0 B1 B2 B3 t0 m1 t1 m2 t2 m3 t3 d0 d1 d2 d3 (w.heap.size + 1 + 1 + 1 + 1 + 1) _ (hR.ex e0) (hX.ex e0) (hF.ex e0) (hG.ex e0) hs hu hf hg b5)
  have HF := Lib.hid hF
  have HG := Lib.hid hG
  clear hR hX hF hG
  cases hc : (gmB t0 m1 t1 && (cocB t0.length m1 m2 t2 && cocB t0.length m1 m3 t3)) with
  | false =>
    rw [hc] at HC
    have HQ := Lib.hid (ad_err (addR_1 (k := m4) hc) (by decide))
    clear hc
    go_enter Try.func54, Try.ntmps54
    go_wp2_with fail
    generalize ((((((w.alloc (.cells #[.slice B0 t0.length d0] 29)).alloc (.cells #[.int .i64 m1, .slice B1 t1.length d1] 36)).alloc (.cells #[.int .i64 m2, .slice B2 t2.length d2] 66)).alloc (.cells #[.int .i64 m3, .slice B3 t3.length d3] 66)).alloc (.cells #[.int .i64 0, .slice none 0 0] 66)).alloc (.cells #[.int .i64 m2, .slice B2 t2.length d2, .int .i64 m3, .slice B3 t3.length d3] 66)) = W0 at *
    refine HC.out.mono ?_
    rintro e W1 ⟨rfl, he1⟩
    have HB4 := Lib.hid (b4.ex he1)
    have HE1 := Lib.hid (e0.trans he1)
    have x4 := HB4.out.cell 0
    have x4' := HB4.out.cell 1
    have f4 := HB4.out.free 0
    have f4' := HB4.out.free 1
    clear b0 b1 b2 b3 b4 b5 e0 he1
    go_wp2_with fail
    have H4 := HB4.out.put2 (u := .int .i64 0) (v := .slice none 0 0)
    have c4 := H4.cell 0
    have c4' := H4.cell 1
    refine bodyPost_ret (v := .tuple #[.agg #[.int .i64 0, .slice none 0 0], .int .i64 1]) (by simp [results, Try.results54, go_sem, c4, c4']) rfl ⟨none, 0, by rw [HQ.out.1, HQ.out.2.1, HQ.out.2.2]; rfl, (HE1.out.setCell (by show w.heap.size ≤ w.heap.size + 1 + 1 + 1 + 1; omega) _).setCell (by show w.heap.size ≤ w.heap.size + 1 + 1 + 1 + 1; omega) _, by rw [HQ.out.2.1]; exact OwnL.nil _ _ _ (Nat.le_refl _)⟩
  | true =>
    rw [hc, if_pos rfl] at HC
    by_cases hn : m2 = m3
    · subst hn
      have hnn : (m2 != m2) = false := by simp
      cases hd : inB m4 (-1000) 1000 with
      | false =>
        have HQ := Lib.hid (ad_err (addR_3 (n' := m2) hc hd) (by decide))
        clear hc
        go_enter Try.func54, Try.ntmps54
        go_wp2_with fail
        generalize ((((((w.alloc (.cells #[.slice B0 t0.length d0] 29)).alloc (.cells #[.int .i64 m1, .slice B1 t1.length d1] 36)).alloc (.cells #[.int .i64 m2, .slice B2 t2.length d2] 66)).alloc (.cells #[.int .i64 m2, .slice B3 t3.length d3] 66)).alloc (.cells #[.int .i64 0, .slice none 0 0] 66)).alloc (.cells #[.int .i64 m2, .slice B2 t2.length d2, .int .i64 m2, .slice B3 t3.length d3] 66)) = W0 at *
        refine HC.out.mono ?_
        rintro e W1 ⟨rfl, he1⟩
        have HB4 := Lib.hid (b4.ex he1)
        have HE1 := Lib.hid (e0.trans he1)
        have x2 := (b2.ex he1).cell 0
        have x3 := (b3.ex he1).cell 0
        have x4 := HB4.out.cell 0
        have x4' := HB4.out.cell 1
        have f4 := HB4.out.free 0
        have f4' := HB4.out.free 1
        clear b0 b1 b2 b3 b4 b5 e0 he1
        go_wp2_with (go_at_call 66; refine (l01In_ex m4 (-1000) 1000 _).mono ?_; rw [hd]; rintro e w' ⟨rfl, rfl⟩)
        have H4 := HB4.out.put2 (u := .int .i64 0) (v := .slice none 0 0)
        have c4 := H4.cell 0
        have c4' := H4.cell 1
        refine bodyPost_ret (v := .tuple #[.agg #[.int .i64 0, .slice none 0 0], .int .i64 2]) (by simp [results, Try.results54, go_sem, c4, c4']) rfl ⟨none, 0, by rw [HQ.out.1, HQ.out.2.1, HQ.out.2.2]; rfl, (HE1.out.setCell (by show w.heap.size ≤ w.heap.size + 1 + 1 + 1 + 1; omega) _).setCell (by show w.heap.size ≤ w.heap.size + 1 + 1 + 1 + 1; omega) _, by rw [HQ.out.2.1]; exact OwnL.nil _ _ _ (Nat.le_refl _)⟩
      | true =>
        obtain ⟨hk0, hk1⟩ := inB_true hd
        have HQ := Lib.hid (ad_yes (addR_0 (n' := m2) hc rfl hd))
        obtain ⟨M, rfl, hMF, -, -, hlen, h343, hfr, hgr⟩ := ad_facts (k := m4) hc
        have HL := Lib.hid (fun W (hF : IntsW W B2 t2) (hG : IntsW W B3 t3) => l03Add_any B1 B2 B3 M t1 t2 t3 m2 m2 m4 d1 d2 d3 W hF hG (by have := hMF.m2; omega) hMF.m12 (by omega) hf hfr hgr hk0 hk1)
        clear hc hMF hfr hgr hlen
        go_enter Try.func54, Try.ntmps54
        go_wp2_with fail
        generalize ((((((w.alloc (.cells #[.slice B0 t0.length d0] 29)).alloc (.cells #[.int .i64 (M : Int), .slice B1 t1.length d1] 36)).alloc (.cells #[.int .i64 m2, .slice B2 t2.length d2] 66)).alloc (.cells #[.int .i64 m2, .slice B3 t3.length d3] 66)).alloc (.cells #[.int .i64 0, .slice none 0 0] 66)).alloc (.cells #[.int .i64 m2, .slice B2 t2.length d2, .int .i64 m2, .slice B3 t3.length d3] 66)) = W0 at *
        refine HC.out.mono ?_
        rintro e W1 ⟨rfl, he1⟩
        have HB4 := Lib.hid (b4.ex he1)
        have HE1 := Lib.hid (e0.trans he1)
        have x1 := (b1.ex he1).cell 0
        have x1' := (b1.ex he1).cell 1
        have x2 := (b2.ex he1).cell 0
        have x2' := (b2.ex he1).cell 1
        have x3 := (b3.ex he1).cell 0
        have x3' := (b3.ex he1).cell 1
        have hzl := (b4.ex he1).lt
        clear b0 b1 b2 b3 b4 b5 e0 he1
        go_wp2_with (go_at_call 66; refine (l01In_ex m4 (-1000) 1000 _).mono ?_; rw [hd]; rintro e w' ⟨rfl, rfl⟩)
        refine (HL.out W1 (HF.out.ex HE1.out) (HG.out.ex HE1.out)).mono ?_
        rintro e W2 ⟨A2, n2, rfl, he2, ho2⟩
        have HB5 := Lib.hid (HB4.out.ex he2)
        have x4 := HB5.out.cell 0
        have x4' := HB5.out.cell 1
        have f4 := HB5.out.free 0
        have f4' := HB5.out.free 1
        have HO2 := Lib.hid ho2
        have HE2 := Lib.hid (HE1.out.trans he2)
        clear ho2 he2
        go_wp2_with fail
        have H4 := HB5.out.put2 (u := .int .i64 m2) (v := .slice A2 t2.length n2)
        have c4 := H4.cell 0
        have c4' := H4.cell 1
        refine bodyPost_ret (v := .tuple #[.agg #[.int .i64 m2, .slice A2 t2.length n2], .int .i64 0]) (by simp [results, Try.results54, go_sem, c4, c4']) rfl ⟨A2, n2, by rw [HQ.out.1, HQ.out.2.1, HQ.out.2.2, sumL_len], (HE2.out.setCell (by show w.heap.size ≤ w.heap.size + 1 + 1 + 1 + 1; omega) _).setCell (by show w.heap.size ≤ w.heap.size + 1 + 1 + 1 + 1; omega) _, ?_⟩
        rw [HQ.out.2.1]
        exact ((HO2.out.above (Only.set _ _ _ _) hzl).above (Only.set _ _ _ _) hzl).mono HE1.out.size (by simp) (Nat.le_refl _)
    · have hnn : (m2 != m3) = true := by simp [hn]
      have HQ := Lib.hid (ad_err (addR_2 (k := m4) hc hn) (by decide))
      clear hc hn
      go_enter Try.func54, Try.ntmps54
      go_wp2_with fail
      generalize ((((((w.alloc (.cells #[.slice B0 t0.length d0] 29)).alloc (.cells #[.int .i64 m1, .slice B1 t1.length d1] 36)).alloc (.cells #[.int .i64 m2, .slice B2 t2.length d2] 66)).alloc (.cells #[.int .i64 m3, .slice B3 t3.length d3] 66)).alloc (.cells #[.int .i64 0, .slice none 0 0] 66)).alloc (.cells #[.int .i64 m2, .slice B2 t2.length d2, .int .i64 m3, .slice B3 t3.length d3] 66)) = W0 at *
      refine HC.out.mono ?_
      rintro e W1 ⟨rfl, he1⟩
      have HB4 := Lib.hid (b4.ex he1)
      have HE1 := Lib.hid (e0.trans he1)
      have x2 := (b2.ex he1).cell 0
      have x3 := (b3.ex he1).cell 0
      have x4 := HB4.out.cell 0
      have x4' := HB4.out.cell 1
      have f4 := HB4.out.free 0
      have f4' := HB4.out.free 1
      clear b0 b1 b2 b3 b4 b5 e0 he1
      go_wp2_with fail
      have H4 := HB4.out.put2 (u := .int .i64 0) (v := .slice none 0 0)
      have c4 := H4.cell 0
      have c4' := H4.cell 1
      refine bodyPost_ret (v := .tuple #[.agg #[.int .i64 0, .slice none 0 0], .int .i64 2]) (by simp [results, Try.results54, go_sem, c4, c4']) rfl ⟨none, 0, by rw [HQ.out.1, HQ.out.2.1, HQ.out.2.2]; rfl, (HE1.out.setCell (by show w.heap.size ≤ w.heap.size + 1 + 1 + 1 + 1; omega) _).setCell (by show w.heap.size ≤ w.heap.size + 1 + 1 + 1 + 1; omega) _, by rw [HQ.out.2.1]; exact OwnL.nil _ _ _ (Nat.le_refl _)⟩

end Go.Proofs.Ytdehalkebneaoaa
