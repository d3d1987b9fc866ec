/- ZeroCochain: both contracts. -/
import Derived.Test.YtdehalkebneaoaaIc
namespace Go.Proofs.Ytdehalkebneaoaa
open Go.RowKit

theorem OwnL.zeros {w : World} {g n lo : Nat} {e : TypeId} (h : Has w g e (tab n fun _ => .int .i64 0)) (hl : lo ≤ g) : OwnL w lo w.heap.size (some ⟨g, 0, none⟩) (List.replicate n 0) :=
  OwnL.of_has (n := n) (by rw [tab_congr (g := fun _ => .int .i64 0) (fun j hj => by simp [nth, hj])]; exact h) (by simp) hl

set_option maxHeartbeats 1000000 in
theorem l03Zero_any (A : Option Addr) (N c n : Nat) (w : World) (hN : N ≤ 8) (hN1 : 1 ≤ N) (hn : n ≤ 3) :
    Calls Try.prog 92 #[.agg #[.slice A N c], .int .i64 (n : Int)] w fun e w' => ∃ A' n', e = .returned (.agg #[.int .i64 (n : Int), .slice A' (List.replicate (cellsN N n) (0 : Int)).length n']) ∧ Ex w w' ∧ OwnL w' w.heap.size w'.heap.size A' (List.replicate (cellsN N n) 0) := by
  have e0 : Ex w ((w.alloc (.cells #[.slice A N c] 29)).alloc (.cells #[.int .i64 0, .slice none 0 0] 66)) := ((Ex.refl w).alloc _).alloc _
  have b0 : Has ((w.alloc (.cells #[.slice A N c] 29)).alloc (.cells #[.int .i64 0, .slice none 0 0] 66)) (w.heap.size) 29 #[.slice A N c] := ((Has.newAt (w := w) (e := 29) (cs := #[.slice A N c]) (k := w.heap.size) (by simp)).alloc _)
  have b1 : Has ((w.alloc (.cells #[.slice A N c] 29)).alloc (.cells #[.int .i64 0, .slice none 0 0] 66)) (w.heap.size + 1) 66 #[.int .i64 0, .slice none 0 0] := (Has.newAt (w := (w.alloc (.cells #[.slice A N c] 29))) (e := 66) (cs := #[.int .i64 0, .slice none 0 0]) (k := w.heap.size + 1) (by simp))
  have hcl := cellsN_le hN (show n ≤ 4 by omega)
  have hcon := l03Cells_any A N c n ((w.alloc (.cells #[.slice A N c] 29)).alloc (.cells #[.int .i64 0, .slice none 0 0] 66)) hN hN1 (by omega)
  obtain ⟨cn, hcn⟩ : ∃ cn, cellsN N n = cn := ⟨_, rfl⟩
  have HCN := Lib.hid hcn
  rw [hcn] at hcon hcl
  have HC := Lib.hid hcon
  clear hcn hcon
  have hmk := makeI cn (by omega)
  go_enter Try.func92, Try.ntmps92
  go_wp2_with fail
  generalize ((w.alloc (.cells #[.slice A N c] 29)).alloc (.cells #[.int .i64 0, .slice none 0 0] 66)) = W0 at *
  refine HC.out.mono ?_
  rintro e W1 ⟨rfl, he1⟩
  have HB1 := Lib.hid (b1.ex he1)
  have c1 := HB1.out.cell 0
  have c1' := HB1.out.cell 1
  have f1 := HB1.out.free 0
  have f1' := HB1.out.free 1
  have hz1 := (b1.ex he1).lt
  go_wp2_with fail
  have H4 := (HB1.out.put2 (u := .int .i64 (n : Int)) (v := .slice (some ⟨W1.heap.size, 0, none⟩) cn cn)).alloc (.cells (tab cn fun _ => .int .i64 0) 2)
  have c4 := H4.cell 0
  have c4' := H4.cell 1
  refine bodyPost_ret (v := .agg #[.int .i64 (n : Int), .slice (some ⟨W1.heap.size, 0, none⟩) cn cn]) (by simp [results, Try.results92, go_sem, c4, c4']) rfl ⟨some ⟨W1.heap.size, 0, none⟩, cn, by rw [HCN.out]; simp, (((e0.trans he1).setCell (by show w.heap.size ≤ w.heap.size + 1; omega) _).setCell (by show w.heap.size ≤ w.heap.size + 1; omega) _).alloc _, ?_⟩
  rw [HCN.out]
  exact OwnL.zeros (e := 2) (Has.newAt (by simp)) (e0.trans he1).size

noncomputable def qZeroCochain0 (t : List (List Int)) (m : Int) (us : List Int) (n : Int) : Int := if gmB t m us = true ∧ inB n 0 3 = true then n else 0
noncomputable def yZeroCochain0 (t : List (List Int)) (m : Int) (us : List Int) (n : Int) : List Int := if gmB t m us = true ∧ inB n 0 3 = true then List.replicate (cellsN t.length n.toNat) 0 else []
noncomputable def qZeroCochain1 (t : List (List Int)) (m : Int) (us : List Int) (n : Int) : Int := if gmB t m us = true then (if inB n 0 3 = true then 0 else 2) else 1
section
variable {t : List (List Int)} {m n : Int} {us : List Int}
theorem zc_none (h : gmB t m us = false) : qZeroCochain0 t m us n = 0 ∧ yZeroCochain0 t m us n = [] ∧ qZeroCochain1 t m us n = 1 := by simp [qZeroCochain0, yZeroCochain0, qZeroCochain1, h]
theorem zc_no (h : gmB t m us = true) (hr : inB n 0 3 = false) : qZeroCochain0 t m us n = 0 ∧ yZeroCochain0 t m us n = [] ∧ qZeroCochain1 t m us n = 2 := by simp [qZeroCochain0, yZeroCochain0, qZeroCochain1, h, hr]
theorem zc_yes {k : Nat} (h : gmB t m us = true) (hr : inB (k : Int) 0 3 = true) : qZeroCochain0 t m us (k : Int) = (k : Int) ∧ yZeroCochain0 t m us (k : Int) = List.replicate (cellsN t.length k) 0 ∧ qZeroCochain1 t m us (k : Int) = 0 := by simp [qZeroCochain0, yZeroCochain0, qZeroCochain1, h, hr]
theorem zeroCochain_small0 (t : List (List Int)) (m : Int) (us : List Int) (n : Int) : (yZeroCochain0 t m us n).length ≤ 1048576 := by
  unfold yZeroCochain0
  split
  · rename_i h
    obtain ⟨M, _, hF⟩ := gmB_f h.1
    have := inB_true h.2
    have := cellsN_le hF.g.n8 (show n.toNat ≤ 4 by omega)
    simp
    omega
  · simp
end

set_option maxHeartbeats 2000000 in
theorem specZeroCochain_ex (t0 : List (List Int)) (m1 : Int) (t1 : List Int) (m2 : Int) : ∀ (B0 : Option Addr) (d0 : Nat) (B1 : Option Addr) (d1 : Nat) (W : World), RwsW W B0 t0 → IntsW W B1 t1 → SmallT t0 → t1.length ≤ 1048576 →
    Calls Try.prog 50 #[.agg #[.slice B0 t0.length d0], .agg #[.int .i64 m1, .slice B1 t1.length d1], .int .i64 m2] W fun e W' => ∃ (C0 : Option Addr) (e0 : Nat), e = .returned (.tuple #[.agg #[.int .i64 (qZeroCochain0 t0 m1 t1 m2), .slice C0 (yZeroCochain0 t0 m1 t1 m2).length e0], .int .i64 (qZeroCochain1 t0 m1 t1 m2)]) ∧ Ex W W' ∧ OwnL W' W.heap.size W'.heap.size C0 (yZeroCochain0 t0 m1 t1 m2) := by
  intro B0 d0 B1 d1 w hR hX hs hu
  have e0 : Ex w (((w.alloc (.cells #[.slice B0 t0.length d0] 29)).alloc (.cells #[.int .i64 m1, .slice B1 t1.length d1] 36)).alloc (.cells #[.int .i64 0, .slice none 0 0] 66)) := (((Ex.refl w).alloc _).alloc _).alloc _
  have b0 : Has (((w.alloc (.cells #[.slice B0 t0.length d0] 29)).alloc (.cells #[.int .i64 m1, .slice B1 t1.length d1] 36)).alloc (.cells #[.int .i64 0, .slice none 0 0] 66)) (w.heap.size) 29 #[.slice B0 t0.length d0] := (((Has.newAt (w := w) (e := 29) (cs := #[.slice B0 t0.length d0]) (k := w.heap.size) (by simp)).alloc _).alloc _)
  have b1 : Has (((w.alloc (.cells #[.slice B0 t0.length d0] 29)).alloc (.cells #[.int .i64 m1, .slice B1 t1.length d1] 36)).alloc (.cells #[.int .i64 0, .slice none 0 0] 66)) (w.heap.size + 1) 36 #[.int .i64 m1, .slice B1 t1.length d1] := ((Has.newAt (w := (w.alloc (.cells #[.slice B0 t0.length d0] 29))) (e := 36) (cs := #[.int .i64 m1, .slice B1 t1.length d1]) (k := w.heap.size + 1) (by simp)).alloc _)
  have b2 : Has (((w.alloc (.cells #[.slice B0 t0.length d0] 29)).alloc (.cells #[.int .i64 m1, .slice B1 t1.length d1] 36)).alloc (.cells #[.int .i64 0, .slice none 0 0] 66)) (w.heap.size + 1 + 1) 66 #[.int .i64 0, .slice none 0 0] := (Has.newAt (w := ((w.alloc (.cells #[.slice B0 t0.length d0] 29)).alloc (.cells #[.int .i64 m1, .slice B1 t1.length d1] 36))) (e := 66) (cs := #[.int .i64 0, .slice none 0 0]) (k := w.heap.size + 1 + 1) (by simp))
  have HC := Lib.hid (l03Code_none B0 B1 t0 m1 t1 d0 d1 _ (hR.ex e0) (hX.ex e0) hs hu)
  clear hR hX
  cases hg : gmB t0 m1 t1 with
  | false =>
    rw [gmC_no hg] at HC
    have HQ := Lib.hid (zc_none (n := m2) hg)
    clear hg
    go_enter Try.func50, Try.ntmps50
    go_wp2_with fail
    generalize (((w.alloc (.cells #[.slice B0 t0.length d0] 29)).alloc (.cells #[.int .i64 m1, .slice B1 t1.length d1] 36)).alloc (.cells #[.int .i64 0, .slice none 0 0] 66)) = W0 at *
    refine HC.out.mono ?_
    rintro e W1 ⟨rfl, he1⟩
    have HB2 := Lib.hid (b2.ex he1)
    have c2 := HB2.out.cell 0
    have c2' := HB2.out.cell 1
    have f2 := HB2.out.free 0
    have f2' := HB2.out.free 1
    go_wp2_with fail
    have H4 := HB2.out.put2 (u := .int .i64 0) (v := .slice none 0 0)
    have c4 := H4.cell 0
    have c4' := H4.cell 1
    refine bodyPost_ret (v := .tuple #[.agg #[.int .i64 0, .slice none 0 0], .int .i64 1]) (by simp [results, Try.results50, go_sem, c4, c4']) rfl ⟨none, 0, by rw [HQ.out.1, HQ.out.2.1, HQ.out.2.2]; rfl, ((e0.trans he1).setCell (by show w.heap.size ≤ w.heap.size + 1 + 1; omega) _).setCell (by show w.heap.size ≤ w.heap.size + 1 + 1; omega) _, by rw [HQ.out.2.1]; exact OwnL.nil _ _ _ (Nat.le_refl _)⟩
  | true =>
    rw [gmC_yes hg] at HC
    obtain ⟨M, rfl, hF⟩ := gmB_f hg
    have hn1 := hF.g.n1
    have hn8 := hF.g.n8
    cases hd : inB m2 0 3 with
    | false =>
      have HQ := Lib.hid (zc_no hg hd)
      clear hg hF
      go_enter Try.func50, Try.ntmps50
      go_wp2_with fail
      generalize (((w.alloc (.cells #[.slice B0 t0.length d0] 29)).alloc (.cells #[.int .i64 (M : Int), .slice B1 t1.length d1] 36)).alloc (.cells #[.int .i64 0, .slice none 0 0] 66)) = W0 at *
      refine HC.out.mono ?_
      rintro e W1 ⟨rfl, he1⟩
      have HB2 := Lib.hid (b2.ex he1)
      have c2 := HB2.out.cell 0
      have c2' := HB2.out.cell 1
      have f2 := HB2.out.free 0
      have f2' := HB2.out.free 1
      go_wp2_with (go_at_call 66; refine (l01In_ex m2 0 3 _).mono ?_; rw [hd]; rintro e w' ⟨rfl, rfl⟩)
      have H4 := HB2.out.put2 (u := .int .i64 0) (v := .slice none 0 0)
      have c4 := H4.cell 0
      have c4' := H4.cell 1
      refine bodyPost_ret (v := .tuple #[.agg #[.int .i64 0, .slice none 0 0], .int .i64 2]) (by simp [results, Try.results50, go_sem, c4, c4']) rfl ⟨none, 0, by rw [HQ.out.1, HQ.out.2.1, HQ.out.2.2]; rfl, ((e0.trans he1).setCell (by show w.heap.size ≤ w.heap.size + 1 + 1; omega) _).setCell (by show w.heap.size ≤ w.heap.size + 1 + 1; omega) _, by rw [HQ.out.2.1]; exact OwnL.nil _ _ _ (Nat.le_refl _)⟩
    | true =>
      obtain ⟨hm0, hm3⟩ := inB_true hd
      obtain ⟨k, rfl⟩ : ∃ k : Nat, m2 = (k : Int) := ⟨m2.toNat, by omega⟩
      have HQ := Lib.hid (zc_yes hg hd)
      clear hg hF
      go_enter Try.func50, Try.ntmps50
      go_wp2_with fail
      generalize (((w.alloc (.cells #[.slice B0 t0.length d0] 29)).alloc (.cells #[.int .i64 (M : Int), .slice B1 t1.length d1] 36)).alloc (.cells #[.int .i64 0, .slice none 0 0] 66)) = W0 at *
      refine HC.out.mono ?_
      rintro e W1 ⟨rfl, he1⟩
      have c0 := (b0.ex he1).cell 0
      go_wp2_with (go_at_call 66; refine (l01In_ex (k : Int) 0 3 _).mono ?_; rw [hd]; rintro e w' ⟨rfl, rfl⟩)
      refine (l03Zero_any B0 t0.length d0 k W1 hn8 hn1 (by omega)).mono ?_
      rintro e W2 ⟨A2, n2, rfl, he2, ho2⟩
      have HB2 := Lib.hid ((b2.ex he1).ex he2)
      have c2 := HB2.out.cell 0
      have c2' := HB2.out.cell 1
      have f2 := HB2.out.free 0
      have f2' := HB2.out.free 1
      have hzl := (b2.ex he1).lt
      obtain ⟨ys, hys⟩ : ∃ ys, List.replicate (cellsN t0.length k) (0 : Int) = ys := ⟨_, rfl⟩
      rw [hys] at ho2 HQ ⊢
      have HO2 := Lib.hid ho2
      clear ho2 hys
      go_wp2_with fail
      have H4 := HB2.out.put2 (u := .int .i64 (k : Int)) (v := .slice A2 ys.length n2)
      have c4 := H4.cell 0
      have c4' := H4.cell 1
      refine bodyPost_ret (v := .tuple #[.agg #[.int .i64 (k : Int), .slice A2 ys.length n2], .int .i64 0]) (by simp [results, Try.results50, go_sem, c4, c4']) rfl ⟨A2, n2, by rw [HQ.out.1, HQ.out.2.1, HQ.out.2.2], ((e0.trans (he1.trans he2)).setCell (by show w.heap.size ≤ w.heap.size + 1 + 1; omega) _).setCell (by show w.heap.size ≤ w.heap.size + 1 + 1; omega) _, ?_⟩
      rw [HQ.out.2.1]
      exact ((HO2.out.above (Only.set _ _ _ _) hzl).above (Only.set _ _ _ _) hzl).mono (e0.trans he1).size (by simp) (Nat.le_refl _)

set_option maxHeartbeats 2000000 in
theorem implZeroCochain_ex (t0 : List (List Int)) (m1 : Int) (t1 : List Int) (m2 : Int) : ∀ (B0 : Option Addr) (d0 : Nat) (B1 : Option Addr) (d1 : Nat) (W : World), RwsW W B0 t0 → IntsW W B1 t1 → SmallT t0 → t1.length ≤ 1048576 →
    Calls Try.prog 51 #[.agg #[.slice B0 t0.length d0], .agg #[.int .i64 m1, .slice B1 t1.length d1], .int .i64 m2] W fun e W' => ∃ (C0 : Option Addr) (e0 : Nat), e = .returned (.tuple #[.agg #[.int .i64 (qZeroCochain0 t0 m1 t1 m2), .slice C0 (yZeroCochain0 t0 m1 t1 m2).length e0], .int .i64 (qZeroCochain1 t0 m1 t1 m2)]) ∧ Ex W W' ∧ OwnL W' W.heap.size W'.heap.size C0 (yZeroCochain0 t0 m1 t1 m2) := by
  intro B0 d0 B1 d1 w hR hX hs hu
  have e0 : Ex w (((w.alloc (.cells #[.slice B0 t0.length d0] 29)).alloc (.cells #[.int .i64 m1, .slice B1 t1.length d1] 36)).alloc (.cells #[.int .i64 0, .slice none 0 0] 66)) := (((Ex.refl w).alloc _).alloc _).alloc _
  have b0 : Has (((w.alloc (.cells #[.slice B0 t0.length d0] 29)).alloc (.cells #[.int .i64 m1, .slice B1 t1.length d1] 36)).alloc (.cells #[.int .i64 0, .slice none 0 0] 66)) (w.heap.size) 29 #[.slice B0 t0.length d0] := (((Has.newAt (w := w) (e := 29) (cs := #[.slice B0 t0.length d0]) (k := w.heap.size) (by simp)).alloc _).alloc _)
  have b1 : Has (((w.alloc (.cells #[.slice B0 t0.length d0] 29)).alloc (.cells #[.int .i64 m1, .slice B1 t1.length d1] 36)).alloc (.cells #[.int .i64 0, .slice none 0 0] 66)) (w.heap.size + 1) 36 #[.int .i64 m1, .slice B1 t1.length d1] := ((Has.newAt (w := (w.alloc (.cells #[.slice B0 t0.length d0] 29))) (e := 36) (cs := #[.int .i64 m1, .slice B1 t1.length d1]) (k := w.heap.size + 1) (by simp)).alloc _)
  have b2 : Has (((w.alloc (.cells #[.slice B0 t0.length d0] 29)).alloc (.cells #[.int .i64 m1, .slice B1 t1.length d1] 36)).alloc (.cells #[.int .i64 0, .slice none 0 0] 66)) (w.heap.size + 1 + 1) 66 #[.int .i64 0, .slice none 0 0] := (Has.newAt (w := ((w.alloc (.cells #[.slice B0 t0.length d0] 29)).alloc (.cells #[.int .i64 m1, .slice B1 t1.length d1] 36))) (e := 66) (cs := #[.int .i64 0, .slice none 0 0]) (k := w.heap.size + 1 + 1) (by simp))
  have HC := Lib.hid (isModule_ex B0 B1 t0 m1 t1 d0 d1 _ (hR.ex e0) (hX.ex e0) hs hu)
  clear hR hX
  cases hg : gmB t0 m1 t1 with
  | false =>
    rw [hg] at HC
    have HQ := Lib.hid (zc_none (n := m2) hg)
    clear hg
    go_enter Try.func51, Try.ntmps51
    go_wp2_with fail
    generalize (((w.alloc (.cells #[.slice B0 t0.length d0] 29)).alloc (.cells #[.int .i64 m1, .slice B1 t1.length d1] 36)).alloc (.cells #[.int .i64 0, .slice none 0 0] 66)) = W0 at *
    refine HC.out.mono ?_
    rintro e W1 ⟨rfl, he1⟩
    have HB2 := Lib.hid (b2.ex he1)
    have c2 := HB2.out.cell 0
    have c2' := HB2.out.cell 1
    have f2 := HB2.out.free 0
    have f2' := HB2.out.free 1
    go_wp2_with fail
    have H4 := HB2.out.put2 (u := .int .i64 0) (v := .slice none 0 0)
    have c4 := H4.cell 0
    have c4' := H4.cell 1
    refine bodyPost_ret (v := .tuple #[.agg #[.int .i64 0, .slice none 0 0], .int .i64 1]) (by simp [results, Try.results51, go_sem, c4, c4']) rfl ⟨none, 0, by rw [HQ.out.1, HQ.out.2.1, HQ.out.2.2]; rfl, ((e0.trans he1).setCell (by show w.heap.size ≤ w.heap.size + 1 + 1; omega) _).setCell (by show w.heap.size ≤ w.heap.size + 1 + 1; omega) _, by rw [HQ.out.2.1]; exact OwnL.nil _ _ _ (Nat.le_refl _)⟩
  | true =>
    rw [hg] at HC
    obtain ⟨M, rfl, hF⟩ := gmB_f hg
    have hn1 := hF.g.n1
    have hn8 := hF.g.n8
    cases hd : inB m2 0 3 with
    | false =>
      have HQ := Lib.hid (zc_no hg hd)
      clear hg hF
      go_enter Try.func51, Try.ntmps51
      go_wp2_with fail
      generalize (((w.alloc (.cells #[.slice B0 t0.length d0] 29)).alloc (.cells #[.int .i64 (M : Int), .slice B1 t1.length d1] 36)).alloc (.cells #[.int .i64 0, .slice none 0 0] 66)) = W0 at *
      refine HC.out.mono ?_
      rintro e W1 ⟨rfl, he1⟩
      have HB2 := Lib.hid (b2.ex he1)
      have c2 := HB2.out.cell 0
      have c2' := HB2.out.cell 1
      have f2 := HB2.out.free 0
      have f2' := HB2.out.free 1
      go_wp2_with (go_at_call 87; refine (isDegree_ex m2 _).mono ?_; rw [hd]; rintro e w' ⟨rfl, rfl⟩)
      have H4 := HB2.out.put2 (u := .int .i64 0) (v := .slice none 0 0)
      have c4 := H4.cell 0
      have c4' := H4.cell 1
      refine bodyPost_ret (v := .tuple #[.agg #[.int .i64 0, .slice none 0 0], .int .i64 2]) (by simp [results, Try.results51, go_sem, c4, c4']) rfl ⟨none, 0, by rw [HQ.out.1, HQ.out.2.1, HQ.out.2.2]; rfl, ((e0.trans he1).setCell (by show w.heap.size ≤ w.heap.size + 1 + 1; omega) _).setCell (by show w.heap.size ≤ w.heap.size + 1 + 1; omega) _, by rw [HQ.out.2.1]; exact OwnL.nil _ _ _ (Nat.le_refl _)⟩
    | true =>
      obtain ⟨hm0, hm3⟩ := inB_true hd
      obtain ⟨k, rfl⟩ : ∃ k : Nat, m2 = (k : Int) := ⟨m2.toNat, by omega⟩
      have HQ := Lib.hid (zc_yes hg hd)
      have hcl := cellsN_le hn8 (show k ≤ 4 by omega)
      have hcon := fun W => cellCount_any B0 t0.length d0 k W hn8 hn1 (by omega)
      obtain ⟨cn, hcn⟩ : ∃ cn, cellsN t0.length k = cn := ⟨_, rfl⟩
      rw [hcn] at hcon hcl HQ
      have HCC := Lib.hid hcon
      have hmk := makeI cn (by omega)
      clear hcn hcon hg hF
      go_enter Try.func51, Try.ntmps51
      go_wp2_with fail
      generalize (((w.alloc (.cells #[.slice B0 t0.length d0] 29)).alloc (.cells #[.int .i64 (M : Int), .slice B1 t1.length d1] 36)).alloc (.cells #[.int .i64 0, .slice none 0 0] 66)) = W0 at *
      refine HC.out.mono ?_
      rintro e W1 ⟨rfl, he1⟩
      have c0 := (b0.ex he1).cell 0
      go_wp2_with (go_at_call 87; refine (isDegree_ex (k : Int) _).mono ?_; rw [hd]; rintro e w' ⟨rfl, rfl⟩)
      refine (HCC.out W1).mono ?_
      rintro e W2 ⟨rfl, he2⟩
      have hb2 := (b2.ex he1).ex he2
      have HB2 := Lib.hid hb2
      have c2 := HB2.out.cell 0
      have c2' := HB2.out.cell 1
      have f2 := HB2.out.free 0
      have f2' := HB2.out.free 1
      have hzl := hb2.lt
      have HE2 := Lib.hid (e0.trans (he1.trans he2))
      clear hb2 he1 he2 e0 b0 b1 b2
      go_wp2_with fail
      have H4 := (HB2.out.put2 (u := .int .i64 (k : Int)) (v := .slice (some ⟨W2.heap.size, 0, none⟩) cn cn)).alloc (.cells (tab cn fun _ => .int .i64 0) 2)
      have c4 := H4.cell 0
      have c4' := H4.cell 1
      refine bodyPost_ret (v := .tuple #[.agg #[.int .i64 (k : Int), .slice (some ⟨W2.heap.size, 0, none⟩) cn cn], .int .i64 0]) (by simp [results, Try.results51, go_sem, c4, c4']) rfl ⟨some ⟨W2.heap.size, 0, none⟩, cn, by rw [HQ.out.1, HQ.out.2.1, HQ.out.2.2]; simp, ((HE2.out.setCell (by show w.heap.size ≤ w.heap.size + 1 + 1; omega) _).setCell (by show w.heap.size ≤ w.heap.size + 1 + 1; omega) _).alloc _, ?_⟩
      rw [HQ.out.2.1]
      exact OwnL.zeros (e := 2) (Has.newAt (by simp)) HE2.out.size

end Go.Proofs.Ytdehalkebneaoaa
