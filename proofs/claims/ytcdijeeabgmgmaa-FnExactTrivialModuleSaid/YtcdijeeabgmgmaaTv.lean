/- TrivialModule: both contracts. -/
import Derived.Test.YtcdijeeabgmgmaaTm
import Derived.Test.YtcdijeeabgmgmaaRep
import Derived.Test.YtcdijeeabgmgmaaMnm
namespace Go.Proofs.Ytcdijeeabgmgmaa
open Go.RowKit

noncomputable def qTrivialModule0 (t : List (List Int)) (m : Int) : Int := if grpB t = true ∧ inB m 2 12 = true then m else 0
noncomputable def yTrivialModule0 (t : List (List Int)) (m : Int) : List Int := if grpB t = true ∧ inB m 2 12 = true then List.replicate t.length 1 else []
noncomputable def qTrivialModule1 (t : List (List Int)) (m : Int) : Int := if grpB t = true then (if inB m 2 12 = true then 0 else 2) else 1
section
variable {t : List (List Int)} {m : Int}
theorem tv_none (h : grpB t = false) : qTrivialModule0 t m = 0 ∧ yTrivialModule0 t m = [] ∧ qTrivialModule1 t m = 1 := by simp [qTrivialModule0, yTrivialModule0, qTrivialModule1, h]
theorem tv_no (h : grpB t = true) (hr : inB m 2 12 = false) : qTrivialModule0 t m = 0 ∧ yTrivialModule0 t m = [] ∧ qTrivialModule1 t m = 2 := by simp [qTrivialModule0, yTrivialModule0, qTrivialModule1, h, hr]
theorem tv_yes (h : grpB t = true) (hr : inB m 2 12 = true) : qTrivialModule0 t m = m ∧ yTrivialModule0 t m = List.replicate t.length 1 ∧ qTrivialModule1 t m = 0 := by simp [qTrivialModule0, yTrivialModule0, qTrivialModule1, h, hr]
theorem trivialModule_small0 (t : List (List Int)) (m : Int) : (yTrivialModule0 t m).length ≤ 1048576 := by
  unfold yTrivialModule0
  split
  · rename_i h
    have := (grpB_iff.1 h.1).n8
    simp
    omega
  · simp
theorem isModulus_e (m : Int) (w : World) : Calls Try.prog 27 #[.int .i64 m] w fun e w' => e = .returned (.bool (inB m 2 12)) ∧ w = w' := (isModulus_any m w).mono fun _ _ ⟨h1, h2⟩ => ⟨h1, h2.symm⟩
end

set_option maxHeartbeats 2000000 in
theorem specTrivialModule_ex (t0 : List (List Int)) (m1 : Int) : ∀ (B0 : Option Addr) (d0 : Nat) (W : World), RwsW W B0 t0 → SmallT t0 →
    Calls Try.prog 6 #[.agg #[.slice B0 t0.length d0], .int .i64 m1] W fun e W' => ∃ (C0 : Option Addr) (e0 : Nat), e = .returned (.tuple #[.agg #[.int .i64 (qTrivialModule0 t0 m1), .slice C0 (yTrivialModule0 t0 m1).length e0], .int .i64 (qTrivialModule1 t0 m1)]) ∧ Ex W W' ∧ OwnL W' W.heap.size W'.heap.size C0 (yTrivialModule0 t0 m1) := by
  intro B0 d0 w hR hs
  have e0 : Ex w ((w.alloc (.cells #[.slice B0 t0.length d0] 31)).alloc (.cells #[.int .i64 0, .slice none 0 0] 28)) := ((Ex.refl w).alloc _).alloc _
  have b0 : Has ((w.alloc (.cells #[.slice B0 t0.length d0] 31)).alloc (.cells #[.int .i64 0, .slice none 0 0] 28)) (w.heap.size) 31 #[.slice B0 t0.length d0] := ((Has.newAt (w := w) (e := 31) (cs := #[.slice B0 t0.length d0]) (k := w.heap.size) (by simp)).alloc _)
  have b1 : Has ((w.alloc (.cells #[.slice B0 t0.length d0] 31)).alloc (.cells #[.int .i64 0, .slice none 0 0] 28)) (w.heap.size + 1) 28 #[.int .i64 0, .slice none 0 0] := (Has.newAt (w := (w.alloc (.cells #[.slice B0 t0.length d0] 31))) (e := 28) (cs := #[.int .i64 0, .slice none 0 0]) (k := w.heap.size + 1) (by simp))
  have HC := Lib.hid (l01Is_ex B0 t0 d0 _ (hR.ex e0) hs)
  clear hR
  cases hg : grpB t0 with
  | false =>
    rw [hg] at HC
    have HQ := Lib.hid (tv_none (m := m1) hg)
    clear hg
    go_enter Try.func6, Try.ntmps6
    go_wp2_with fail
    generalize ((w.alloc (.cells #[.slice B0 t0.length d0] 31)).alloc (.cells #[.int .i64 0, .slice none 0 0] 28)) = W0 at *
    refine HC.out.mono ?_
    rintro e W1 ⟨rfl, he1⟩
    have HB1 := Lib.hid (b1.ex he1)
    have c1 := HB1.out.cell 0
    have c1' := HB1.out.cell 1
    have f1 := HB1.out.free 0
    have f1' := HB1.out.free 1
    go_wp2_with fail
    have H4 := HB1.out.put2 (u := .int .i64 0) (v := .slice none 0 0)
    have c4 := H4.cell 0
    have c4' := H4.cell 1
    refine bodyPost_ret (v := .tuple #[.agg #[.int .i64 0, .slice none 0 0], .int .i64 1]) (by simp [results, Try.results6, go_sem, c4, c4']) rfl ⟨none, 0, by rw [HQ.out.1, HQ.out.2.1, HQ.out.2.2]; rfl, ((e0.trans he1).setCell (by show w.heap.size ≤ w.heap.size + 1; omega) _).setCell (by show w.heap.size ≤ w.heap.size + 1; omega) _, by rw [HQ.out.2.1]; exact OwnL.nil _ _ _ (Nat.le_refl _)⟩
  | true =>
    rw [hg] at HC
    have hn8 := (grpB_iff.1 hg).n8
    cases hd : inB m1 2 12 with
    | false =>
      have HQ := Lib.hid (tv_no hg hd)
      clear hg
      go_enter Try.func6, Try.ntmps6
      go_wp2_with fail
      generalize ((w.alloc (.cells #[.slice B0 t0.length d0] 31)).alloc (.cells #[.int .i64 0, .slice none 0 0] 28)) = W0 at *
      refine HC.out.mono ?_
      rintro e W1 ⟨rfl, he1⟩
      have HB1 := Lib.hid (b1.ex he1)
      have c1 := HB1.out.cell 0
      have c1' := HB1.out.cell 1
      have f1 := HB1.out.free 0
      have f1' := HB1.out.free 1
      go_wp2_with (go_at_call 23; refine (l01In_ex m1 2 12 _).mono ?_; rw [hd]; rintro e w' ⟨rfl, rfl⟩)
      have H4 := HB1.out.put2 (u := .int .i64 0) (v := .slice none 0 0)
      have c4 := H4.cell 0
      have c4' := H4.cell 1
      refine bodyPost_ret (v := .tuple #[.agg #[.int .i64 0, .slice none 0 0], .int .i64 2]) (by simp [results, Try.results6, go_sem, c4, c4']) rfl ⟨none, 0, by rw [HQ.out.1, HQ.out.2.1, HQ.out.2.2]; rfl, ((e0.trans he1).setCell (by show w.heap.size ≤ w.heap.size + 1; omega) _).setCell (by show w.heap.size ≤ w.heap.size + 1; omega) _, by rw [HQ.out.2.1]; exact OwnL.nil _ _ _ (Nat.le_refl _)⟩
    | true =>
      have HQ := Lib.hid (tv_yes hg hd)
      clear hg
      go_enter Try.func6, Try.ntmps6
      go_wp2_with fail
      generalize ((w.alloc (.cells #[.slice B0 t0.length d0] 31)).alloc (.cells #[.int .i64 0, .slice none 0 0] 28)) = W0 at *
      refine HC.out.mono ?_
      rintro e W1 ⟨rfl, he1⟩
      have c0 := (b0.ex he1).cell 0
      go_wp2_with (go_at_call 23; refine (l01In_ex m1 2 12 _).mono ?_; rw [hd]; rintro e w' ⟨rfl, rfl⟩)
      refine (l02Trivial_any B0 t0.length d0 m1 W1 hn8).mono ?_
      rintro e W2 ⟨A2, n2, rfl, he2, ho2⟩
      have HB2 := Lib.hid ((b1.ex he1).ex he2)
      have c2 := HB2.out.cell 0
      have c2' := HB2.out.cell 1
      have f2 := HB2.out.free 0
      have f2' := HB2.out.free 1
      have hzl := (b1.ex he1).lt
      have HO2 := Lib.hid ho2
      clear ho2
      go_wp2_with fail
      have H4 := HB2.out.put2 (u := .int .i64 m1) (v := .slice A2 t0.length n2)
      have c4 := H4.cell 0
      have c4' := H4.cell 1
      refine bodyPost_ret (v := .tuple #[.agg #[.int .i64 m1, .slice A2 t0.length n2], .int .i64 0]) (by simp [results, Try.results6, go_sem, c4, c4']) rfl ⟨A2, n2, by rw [HQ.out.1, HQ.out.2.1, HQ.out.2.2]; simp, ((e0.trans (he1.trans he2)).setCell (by show w.heap.size ≤ w.heap.size + 1; omega) _).setCell (by show w.heap.size ≤ w.heap.size + 1; omega) _, ?_⟩
      rw [HQ.out.2.1]
      exact ((HO2.out.above (Only.set _ _ _ _) hzl).above (Only.set _ _ _ _) hzl).mono (e0.trans he1).size (by simp) (Nat.le_refl _)

set_option maxRecDepth 100000 in
set_option maxHeartbeats 2000000 in
theorem trivialModule_any (A : Option Addr) (N c : Nat) (m : Int) (w : World) (hn1 : 1 ≤ N) (hn8 : N ≤ 8) :
    Calls Try.prog 28 #[.agg #[.slice A N c], .int .i64 m] w fun e w' => ∃ A' n', e = .returned (.agg #[.int .i64 m, .slice A' N n']) ∧ Ex w w' ∧ OwnL w' w.heap.size w'.heap.size A' (List.replicate N 1) := by
  have e0 : Ex w (((w.alloc (.cells #[.slice A N c] 31)).alloc (.cells #[.int .i64 0, .slice none 0 0] 28)).alloc (.cells #[.int .i64 1] 2)) := (((Ex.refl w).alloc _).alloc _).alloc _
  have b0 : Has (((w.alloc (.cells #[.slice A N c] 31)).alloc (.cells #[.int .i64 0, .slice none 0 0] 28)).alloc (.cells #[.int .i64 1] 2)) (w.heap.size) 31 #[.slice A N c] := (((Has.newAt (w := w) (e := 31) (cs := #[.slice A N c]) (k := w.heap.size) (by simp)).alloc _).alloc _)
  have b1 : Has (((w.alloc (.cells #[.slice A N c] 31)).alloc (.cells #[.int .i64 0, .slice none 0 0] 28)).alloc (.cells #[.int .i64 1] 2)) (w.heap.size + 1) 28 #[.int .i64 0, .slice none 0 0] := ((Has.newAt (w := (w.alloc (.cells #[.slice A N c] 31))) (e := 28) (cs := #[.int .i64 0, .slice none 0 0]) (k := w.heap.size + 1) (by simp)).alloc _)
  have b2 : Has (((w.alloc (.cells #[.slice A N c] 31)).alloc (.cells #[.int .i64 0, .slice none 0 0] 28)).alloc (.cells #[.int .i64 1] 2)) (w.heap.size + 1 + 1) 2 #[.int .i64 1] := (Has.newAt (w := ((w.alloc (.cells #[.slice A N c] 31)).alloc (.cells #[.int .i64 0, .slice none 0 0] 28))) (e := 2) (cs := #[.int .i64 1]) (k := w.heap.size + 1 + 1) (by simp))
  have k0 := b0.cell 0
  have HB1 := Lib.hid b1
  have HX1 := Lib.hid b2
  have HE2 := Lib.hid e0
  clear b0 b1 b2 e0
  go_enter Try.func28, Try.ntmps28
  go_wp2_with fail
  generalize (((w.alloc (.cells #[.slice A N c] 31)).alloc (.cells #[.int .i64 0, .slice none 0 0] 28)).alloc (.cells #[.int .i64 1] 2)) = W0 at *
  refine (repeatOne_any _ N 1 _ HX1.out hn1 hn8).mono ?_
  rintro e W3 ⟨A3, n3, rfl, he3, ho3⟩
  have HB3 := Lib.hid (HB1.out.ex he3)
  have HE3 := Lib.hid (HE2.out.trans he3)
  have hzl := HB1.out.lt
  have HO3 := Lib.hid ho3
  clear ho3 he3 k0
  have c2 := HB3.out.cell 0
  have c2' := HB3.out.cell 1
  have f2 := HB3.out.free 0
  have f2' := HB3.out.free 1
  go_wp2_with fail
  have H4 := HB3.out.put2 (u := .int .i64 m) (v := .slice A3 N n3)
  have c4 := H4.cell 0
  have c4' := H4.cell 1
  refine bodyPost_ret (v := .agg #[.int .i64 m, .slice A3 N n3]) (by simp [results, Try.results28, go_sem, c4, c4']) rfl ⟨A3, n3, rfl, (HE3.out.setCell (by show w.heap.size ≤ w.heap.size + 1; omega) _).setCell (by show w.heap.size ≤ w.heap.size + 1; omega) _, ?_⟩
  exact ((HO3.out.above (Only.set _ _ _ _) hzl).above (Only.set _ _ _ _) hzl).mono HE2.out.size (by simp) (Nat.le_refl _)

set_option maxHeartbeats 2000000 in
theorem implTrivialModule_ex (t0 : List (List Int)) (m1 : Int) : ∀ (B0 : Option Addr) (d0 : Nat) (W : World), RwsW W B0 t0 → SmallT t0 →
    Calls Try.prog 8 #[.agg #[.slice B0 t0.length d0], .int .i64 m1] W fun e W' => ∃ (C0 : Option Addr) (e0 : Nat), e = .returned (.tuple #[.agg #[.int .i64 (qTrivialModule0 t0 m1), .slice C0 (yTrivialModule0 t0 m1).length e0], .int .i64 (qTrivialModule1 t0 m1)]) ∧ Ex W W' ∧ OwnL W' W.heap.size W'.heap.size C0 (yTrivialModule0 t0 m1) := by
  intro B0 d0 w hR hs
  have e0 : Ex w ((w.alloc (.cells #[.slice B0 t0.length d0] 31)).alloc (.cells #[.int .i64 0, .slice none 0 0] 28)) := ((Ex.refl w).alloc _).alloc _
  have b0 : Has ((w.alloc (.cells #[.slice B0 t0.length d0] 31)).alloc (.cells #[.int .i64 0, .slice none 0 0] 28)) (w.heap.size) 31 #[.slice B0 t0.length d0] := ((Has.newAt (w := w) (e := 31) (cs := #[.slice B0 t0.length d0]) (k := w.heap.size) (by simp)).alloc _)
  have b1 : Has ((w.alloc (.cells #[.slice B0 t0.length d0] 31)).alloc (.cells #[.int .i64 0, .slice none 0 0] 28)) (w.heap.size + 1) 28 #[.int .i64 0, .slice none 0 0] := (Has.newAt (w := (w.alloc (.cells #[.slice B0 t0.length d0] 31))) (e := 28) (cs := #[.int .i64 0, .slice none 0 0]) (k := w.heap.size + 1) (by simp))
  have HC := Lib.hid (implIsGroup_ex B0 t0 d0 _ (hR.ex e0) hs)
  clear hR
  cases hg : grpB t0 with
  | false =>
    rw [hg] at HC
    have HQ := Lib.hid (tv_none (m := m1) hg)
    clear hg
    go_enter Try.func8, Try.ntmps8
    go_wp2_with fail
    generalize ((w.alloc (.cells #[.slice B0 t0.length d0] 31)).alloc (.cells #[.int .i64 0, .slice none 0 0] 28)) = W0 at *
    refine HC.out.mono ?_
    rintro e W1 ⟨rfl, he1⟩
    have HB1 := Lib.hid (b1.ex he1)
    have c1 := HB1.out.cell 0
    have c1' := HB1.out.cell 1
    have f1 := HB1.out.free 0
    have f1' := HB1.out.free 1
    go_wp2_with fail
    have H4 := HB1.out.put2 (u := .int .i64 0) (v := .slice none 0 0)
    have c4 := H4.cell 0
    have c4' := H4.cell 1
    refine bodyPost_ret (v := .tuple #[.agg #[.int .i64 0, .slice none 0 0], .int .i64 1]) (by simp [results, Try.results8, go_sem, c4, c4']) rfl ⟨none, 0, by rw [HQ.out.1, HQ.out.2.1, HQ.out.2.2]; rfl, ((e0.trans he1).setCell (by show w.heap.size ≤ w.heap.size + 1; omega) _).setCell (by show w.heap.size ≤ w.heap.size + 1; omega) _, by rw [HQ.out.2.1]; exact OwnL.nil _ _ _ (Nat.le_refl _)⟩
  | true =>
    rw [hg] at HC
    have hn8 := (grpB_iff.1 hg).n8
    have hn1 := (grpB_iff.1 hg).n1
    cases hd : inB m1 2 12 with
    | false =>
      have HQ := Lib.hid (tv_no hg hd)
      clear hg
      go_enter Try.func8, Try.ntmps8
      go_wp2_with fail
      generalize ((w.alloc (.cells #[.slice B0 t0.length d0] 31)).alloc (.cells #[.int .i64 0, .slice none 0 0] 28)) = W0 at *
      refine HC.out.mono ?_
      rintro e W1 ⟨rfl, he1⟩
      have HB1 := Lib.hid (b1.ex he1)
      have c1 := HB1.out.cell 0
      have c1' := HB1.out.cell 1
      have f1 := HB1.out.free 0
      have f1' := HB1.out.free 1
      go_wp2_with (go_at_call 27; refine (isModulus_e m1 _).mono ?_; rw [hd]; rintro e w' ⟨rfl, rfl⟩)
      have H4 := HB1.out.put2 (u := .int .i64 0) (v := .slice none 0 0)
      have c4 := H4.cell 0
      have c4' := H4.cell 1
      refine bodyPost_ret (v := .tuple #[.agg #[.int .i64 0, .slice none 0 0], .int .i64 2]) (by simp [results, Try.results8, go_sem, c4, c4']) rfl ⟨none, 0, by rw [HQ.out.1, HQ.out.2.1, HQ.out.2.2]; rfl, ((e0.trans he1).setCell (by show w.heap.size ≤ w.heap.size + 1; omega) _).setCell (by show w.heap.size ≤ w.heap.size + 1; omega) _, by rw [HQ.out.2.1]; exact OwnL.nil _ _ _ (Nat.le_refl _)⟩
    | true =>
      have HQ := Lib.hid (tv_yes hg hd)
      clear hg
      go_enter Try.func8, Try.ntmps8
      go_wp2_with fail
      generalize ((w.alloc (.cells #[.slice B0 t0.length d0] 31)).alloc (.cells #[.int .i64 0, .slice none 0 0] 28)) = W0 at *
      refine HC.out.mono ?_
      rintro e W1 ⟨rfl, he1⟩
      have c0 := (b0.ex he1).cell 0
      go_wp2_with (go_at_call 27; refine (isModulus_e m1 _).mono ?_; rw [hd]; rintro e w' ⟨rfl, rfl⟩)
      refine (trivialModule_any B0 t0.length d0 m1 W1 hn1 hn8).mono ?_
      rintro e W2 ⟨A2, n2, rfl, he2, ho2⟩
      have HB2 := Lib.hid ((b1.ex he1).ex he2)
      have c2 := HB2.out.cell 0
      have c2' := HB2.out.cell 1
      have f2 := HB2.out.free 0
      have f2' := HB2.out.free 1
      have hzl := (b1.ex he1).lt
      have HO2 := Lib.hid ho2
      clear ho2
      go_wp2_with fail
      have H4 := HB2.out.put2 (u := .int .i64 m1) (v := .slice A2 t0.length n2)
      have c4 := H4.cell 0
      have c4' := H4.cell 1
      refine bodyPost_ret (v := .tuple #[.agg #[.int .i64 m1, .slice A2 t0.length n2], .int .i64 0]) (by simp [results, Try.results8, go_sem, c4, c4']) rfl ⟨A2, n2, by rw [HQ.out.1, HQ.out.2.1, HQ.out.2.2]; simp, ((e0.trans (he1.trans he2)).setCell (by show w.heap.size ≤ w.heap.size + 1; omega) _).setCell (by show w.heap.size ≤ w.heap.size + 1; omega) _, ?_⟩
      rw [HQ.out.2.1]
      exact ((HO2.out.above (Only.set _ _ _ _) hzl).above (Only.set _ _ _ _) hzl).mono (e0.trans he1).size (by simp) (Nat.le_refl _)

end Go.Proofs.Ytcdijeeabgmgmaa
