/- TrivialModule: both contracts. -/
import Derived.Test.YtdehalkebneaoaaTm
import Derived.Test.YtdehalkebneaoaaRp
import Derived.Test.YtdehalkebneaoaaMf
namespace Go.Proofs.Ytdehalkebneaoaa
open Go.RowKit

noncomputable def qTrivialModule0 (t : List (List Int)) (m : Int) : Int := if grpB t = true ∧ inB m 2 12 = true then m else 0
noncomputable def yTrivialModule0 (t : List (List Int)) (m : Int) : List Int := if grpB t = true ∧ inB m 2 12 = true then List.replicate t.length 1 else []
noncomputable def qTrivialModule1 (t : List (List Int)) (m : Int) : Int := if grpB t = true then (if inB m 2 12 = true then 0 else 2) else 1
section
variable {t : List (List Int)} {m : Int}
theorem tv_none (h : grpB t = false) : qTrivialModule0 t m = 0 ∧ yTrivialModule0 t m = [] ∧ qTrivialModule1 t m = 1 := by simp [qTrivialModule0, yTrivialModule0, qTrivialModule1, h]
theorem tv_no (h : grpB t = true) (hr : inB m 2 12 = false) : qTrivialModule0 t m = 0 ∧ yTrivialModule0 t m = [] ∧ qTrivialModule1 t m = 2 := by simp [qTrivialModule0, yTrivialModule0, qTrivialModule1, h, hr]
theorem tv_yes (h : grpB t = true) (hr : inB m 2 12 = true) : qTrivialModule0 t m = m ∧ yTrivialModule0 t m = List.replicate t.length 1 ∧ qTrivialModule1 t m = 0 := by simp [qTrivialModule0, yTrivialModule0, qTrivialModule1, h, hr]
theorem trivialModule_small0 (t : List (List Int)) (m : Int) : (yTrivialModule0 t m).length ≤ 1048576 := by
  unfold yTrivialModule0
  split
  · rename_i h
    have := (grpB_iff.1 h.1).n8
    simp
    omega
  · simp
theorem isModulus_e (m : Int) (w : World) : Calls Try.prog 68 #[.int .i64 m] w fun e w' => e = .returned (.bool (inB m 2 12)) ∧ w = w' := (isModulus_any m w).mono fun _ _ ⟨h1, h2⟩ => ⟨h1, h2.symm⟩
end

set_option maxHeartbeats 2000000 in
theorem specTrivialModule_ex (t0 : List (List Int)) (m1 : Int) : ∀ (B0 : Option Addr) (d0 : Nat) (W : World), RwsW W B0 t0 → SmallT t0 →
    Calls Try.prog 21 #[.agg #[.slice B0 t0.length d0], .int .i64 m1] W fun e W' => ∃ (C0 : Option Addr) (e0 : Nat), e = .returned (.tuple #[.agg #[.int .i64 (qTrivialModule0 t0 m1), .slice C0 (yTrivialModule0 t0 m1).length e0], .int .i64 (qTrivialModule1 t0 m1)]) ∧ Ex W W' ∧ OwnL W' W.heap.size W'.heap.size C0 (yTrivialModule0 t0 m1) := by
  intro B0 d0 w hR hs
  have e0 : Ex w ((w.alloc (.cells #[.slice B0 t0.length d0] 29)).alloc (.cells #[.int .i64 0, .slice none 0 0] 36)) := ((Ex.refl w).alloc _).alloc _
  have b0 : Has ((w.alloc (.cells #[.slice B0 t0.length d0] 29)).alloc (.cells #[.int .i64 0, .slice none 0 0] 36)) (w.heap.size) 29 #[.slice B0 t0.length d0] := ((Has.newAt (w := w) (e := 29) (cs := #[.slice B0 t0.length d0]) (k := w.heap.size) (by simp)).alloc _)
  have b1 : Has ((w.alloc (.cells #[.slice B0 t0.length d0] 29)).alloc (.cells #[.int .i64 0, .slice none 0 0] 36)) (w.heap.size + 1) 36 #[.int .i64 0, .slice none 0 0] := (Has.newAt (w := (w.alloc (.cells #[.slice B0 t0.length d0] 29))) (e := 36) (cs := #[.int .i64 0, .slice none 0 0]) (k := w.heap.size + 1) (by simp))
  have HC := Lib.hid (l01Is_ex B0 t0 d0 _ (hR.ex e0) hs)
  clear hR
  cases hg : grpB t0 with
  | false =>
    rw [hg] at HC
    have HQ := Lib.hid (tv_none (m := m1) hg)
    clear hg
    go_enter Try.func21, Try.ntmps21
    go_wp2_with fail
    generalize ((w.alloc (.cells #[.slice B0 t0.length d0] 29)).alloc (.cells #[.int .i64 0, .slice none 0 0] 36)) = W0 at *
    refine HC.out.mono ?_
    rintro e W1 ⟨rfl, he1⟩
    have HB1 := Lib.hid (b1.ex he1)
    have c1 := HB1.out.cell 0
    have c1' := HB1.out.cell 1
    have f1 := HB1.out.free 0
    have f1' := HB1.out.free 1
    go_wp2_with fail
    have H4 := HB1.out.put2 (u := .int .i64 0) (v := .slice none 0 0)
    have c4 := H4.cell 0
    have c4' := H4.cell 1
    refine bodyPost_ret (v := .tuple #[.agg #[.int .i64 0, .slice none 0 0], .int .i64 1]) (by simp [results, Try.results21, go_sem, c4, c4']) rfl ⟨none, 0, by rw [HQ.out.1, HQ.out.2.1, HQ.out.2.2]; rfl, ((e0.trans he1).setCell (by show w.heap.size ≤ w.heap.size + 1; omega) _).setCell (by show w.heap.size ≤ w.heap.size + 1; omega) _, by rw [HQ.out.2.1]; exact OwnL.nil _ _ _ (Nat.le_refl _)⟩
  | true =>
    rw [hg] at HC
    have hn8 := (grpB_iff.1 hg).n8
    cases hd : inB m1 2 12 with
    | false =>
      have HQ := Lib.hid (tv_no hg hd)
      clear hg
      go_enter Try.func21, Try.ntmps21
      go_wp2_with fail
      generalize ((w.alloc (.cells #[.slice B0 t0.length d0] 29)).alloc (.cells #[.int .i64 0, .slice none 0 0] 36)) = W0 at *
      refine HC.out.mono ?_
      rintro e W1 ⟨rfl, he1⟩
      have HB1 := Lib.hid (b1.ex he1)
      have c1 := HB1.out.cell 0
      have c1' := HB1.out.cell 1
      have f1 := HB1.out.free 0
      have f1' := HB1.out.free 1
      go_wp2_with (go_at_call 66; refine (l01In_ex m1 2 12 _).mono ?_; rw [hd]; rintro e w' ⟨rfl, rfl⟩)
      have H4 := HB1.out.put2 (u := .int .i64 0) (v := .slice none 0 0)
      have c4 := H4.cell 0
      have c4' := H4.cell 1
      refine bodyPost_ret (v := .tuple #[.agg #[.int .i64 0, .slice none 0 0], .int .i64 2]) (by simp [results, Try.results21, go_sem, c4, c4']) rfl ⟨none, 0, by rw [HQ.out.1, HQ.out.2.1, HQ.out.2.2]; rfl, ((e0.trans he1).setCell (by show w.heap.size ≤ w.heap.size + 1; omega) _).setCell (by show w.heap.size ≤ w.heap.size + 1; omega) _, by rw [HQ.out.2.1]; exact OwnL.nil _ _ _ (Nat.le_refl _)⟩
    | true =>
      have HQ := Lib.hid (tv_yes hg hd)
      clear hg
      go_enter Try.func21, Try.ntmps21
      go_wp2_with fail
      generalize ((w.alloc (.cells #[.slice B0 t0.length d0] 29)).alloc (.cells #[.int .i64 0, .slice none 0 0] 36)) = W0 at *
      refine HC.out.mono ?_
      rintro e W1 ⟨rfl, he1⟩
      have c0 := (b0.ex he1).cell 0
      go_wp2_with (go_at_call 66; refine (l01In_ex m1 2 12 _).mono ?_; rw [hd]; rintro e w' ⟨rfl, rfl⟩)
      refine (l02Trivial_any B0 t0.length d0 m1 W1 hn8).mono ?_
      rintro e W2 ⟨A2, n2, rfl, he2, ho2⟩
      have HB2 := Lib.hid ((b1.ex he1).ex he2)
      have c2 := HB2.out.cell 0
      have c2' := HB2.out.cell 1
      have f2 := HB2.out.free 0
      have f2' := HB2.out.free 1
      have hzl := (b1.ex he1).lt
      have HO2 := Lib.hid ho2
      clear ho2
      go_wp2_with fail
      have H4 := HB2.out.put2 (u := .int .i64 m1) (v := .slice A2 t0.length n2)
      have c4 := H4.cell 0
      have c4' := H4.cell 1
      refine bodyPost_ret (v := .tuple #[.agg #[.int .i64 m1, .slice A2 t0.length n2], .int .i64 0]) (by simp [results, Try.results21, go_sem, c4, c4']) rfl ⟨A2, n2, by rw [HQ.out.1, HQ.out.2.1, HQ.out.2.2]; simp, ((e0.trans (he1.trans he2)).setCell (by show w.heap.size ≤ w.heap.size + 1; omega) _).setCell (by show w.heap.size ≤ w.heap.size + 1; omega) _, ?_⟩
      rw [HQ.out.2.1]
      exact ((HO2.out.above (Only.set _ _ _ _) hzl).above (Only.set _ _ _ _) hzl).mono (e0.trans he1).size (by simp) (Nat.le_refl _)

set_option maxHeartbeats 2000000 in
theorem implTrivialModule_ex (t0 : List (List Int)) (m1 : Int) : ∀ (B0 : Option Addr) (d0 : Nat) (W : World), RwsW W B0 t0 → SmallT t0 →
    Calls Try.prog 22 #[.agg #[.slice B0 t0.length d0], .int .i64 m1] W fun e W' => ∃ (C0 : Option Addr) (e0 : Nat), e = .returned (.tuple #[.agg #[.int .i64 (qTrivialModule0 t0 m1), .slice C0 (yTrivialModule0 t0 m1).length e0], .int .i64 (qTrivialModule1 t0 m1)]) ∧ Ex W W' ∧ OwnL W' W.heap.size W'.heap.size C0 (yTrivialModule0 t0 m1) := by
  intro B0 d0 w hR hs
  have e0 : Ex w ((w.alloc (.cells #[.slice B0 t0.length d0] 29)).alloc (.cells #[.int .i64 0, .slice none 0 0] 36)) := ((Ex.refl w).alloc _).alloc _
  have b0 : Has ((w.alloc (.cells #[.slice B0 t0.length d0] 29)).alloc (.cells #[.int .i64 0, .slice none 0 0] 36)) (w.heap.size) 29 #[.slice B0 t0.length d0] := ((Has.newAt (w := w) (e := 29) (cs := #[.slice B0 t0.length d0]) (k := w.heap.size) (by simp)).alloc _)
  have b1 : Has ((w.alloc (.cells #[.slice B0 t0.length d0] 29)).alloc (.cells #[.int .i64 0, .slice none 0 0] 36)) (w.heap.size + 1) 36 #[.int .i64 0, .slice none 0 0] := (Has.newAt (w := (w.alloc (.cells #[.slice B0 t0.length d0] 29))) (e := 36) (cs := #[.int .i64 0, .slice none 0 0]) (k := w.heap.size + 1) (by simp))
  have HC := Lib.hid (implIsGroup_ex B0 t0 d0 _ (hR.ex e0) hs)
  clear hR
  cases hg : grpB t0 with
  | false =>
    rw [hg] at HC
    have HQ := Lib.hid (tv_none (m := m1) hg)
    clear hg
    go_enter Try.func22, Try.ntmps22
    go_wp2_with fail
    generalize ((w.alloc (.cells #[.slice B0 t0.length d0] 29)).alloc (.cells #[.int .i64 0, .slice none 0 0] 36)) = W0 at *
    refine HC.out.mono ?_
    rintro e W1 ⟨rfl, he1⟩
    have HB1 := Lib.hid (b1.ex he1)
    have c1 := HB1.out.cell 0
    have c1' := HB1.out.cell 1
    have f1 := HB1.out.free 0
    have f1' := HB1.out.free 1
    go_wp2_with fail
    have H4 := HB1.out.put2 (u := .int .i64 0) (v := .slice none 0 0)
    have c4 := H4.cell 0
    have c4' := H4.cell 1
    refine bodyPost_ret (v := .tuple #[.agg #[.int .i64 0, .slice none 0 0], .int .i64 1]) (by simp [results, Try.results22, go_sem, c4, c4']) rfl ⟨none, 0, by rw [HQ.out.1, HQ.out.2.1, HQ.out.2.2]; rfl, ((e0.trans he1).setCell (by show w.heap.size ≤ w.heap.size + 1; omega) _).setCell (by show w.heap.size ≤ w.heap.size + 1; omega) _, by rw [HQ.out.2.1]; exact OwnL.nil _ _ _ (Nat.le_refl _)⟩
  | true =>
    rw [hg] at HC
    have hn8 := (grpB_iff.1 hg).n8
    have hn1 := (grpB_iff.1 hg).n1
    cases hd : inB m1 2 12 with
    | false =>
      have HQ := Lib.hid (tv_no hg hd)
      clear hg
      go_enter Try.func22, Try.ntmps22
      go_wp2_with fail
      generalize ((w.alloc (.cells #[.slice B0 t0.length d0] 29)).alloc (.cells #[.int .i64 0, .slice none 0 0] 36)) = W0 at *
      refine HC.out.mono ?_
      rintro e W1 ⟨rfl, he1⟩
      have HB1 := Lib.hid (b1.ex he1)
      have c1 := HB1.out.cell 0
      have c1' := HB1.out.cell 1
      have f1 := HB1.out.free 0
      have f1' := HB1.out.free 1
      go_wp2_with (go_at_call 68; refine (isModulus_e m1 _).mono ?_; rw [hd]; rintro e w' ⟨rfl, rfl⟩)
      have H4 := HB1.out.put2 (u := .int .i64 0) (v := .slice none 0 0)
      have c4 := H4.cell 0
      have c4' := H4.cell 1
      refine bodyPost_ret (v := .tuple #[.agg #[.int .i64 0, .slice none 0 0], .int .i64 2]) (by simp [results, Try.results22, go_sem, c4, c4']) rfl ⟨none, 0, by rw [HQ.out.1, HQ.out.2.1, HQ.out.2.2]; rfl, ((e0.trans he1).setCell (by show w.heap.size ≤ w.heap.size + 1; omega) _).setCell (by show w.heap.size ≤ w.heap.size + 1; omega) _, by rw [HQ.out.2.1]; exact OwnL.nil _ _ _ (Nat.le_refl _)⟩
    | true =>
      have HQ := Lib.hid (tv_yes hg hd)
      clear hg
      go_enter Try.func22, Try.ntmps22
      go_wp2_with fail
      generalize ((w.alloc (.cells #[.slice B0 t0.length d0] 29)).alloc (.cells #[.int .i64 0, .slice none 0 0] 36)) = W0 at *
      refine HC.out.mono ?_
      rintro e W1 ⟨rfl, he1⟩
      have h0 := b0.ex he1
      have h1 := b1.ex he1
      have HE1 := Lib.hid (e0.trans he1)
      have k0 := (h0.alloc (.cells #[.int .i64 1] 2)).cell 0
      have HB1 := Lib.hid (h1.alloc (.cells #[.int .i64 1] 2))
      have hx1 := Has.new W1 2 #[.int .i64 1]
      have HX1 := Lib.hid hx1
      have HE2 := Lib.hid (HE1.out.alloc (.cells #[.int .i64 1] 2))
      clear h0 h1 hx1 b0 b1 he1 e0
      go_wp2_with (go_at_call 68; refine (isModulus_e m1 _).mono ?_; rw [hd]; rintro e w' ⟨rfl, rfl⟩)
      refine (repeatOne_any W1.heap.size t0.length 1 _ HX1.out hn1 hn8).mono ?_
      rintro e W3 ⟨A3, n3, rfl, he3, ho3⟩
      have HB3 := Lib.hid (HB1.out.ex he3)
      have HE3 := Lib.hid (HE2.out.trans he3)
      have hzl := HB1.out.lt
      have HO3 := Lib.hid ho3
      clear ho3 he3 k0
      have c2 := HB3.out.cell 0
      have c2' := HB3.out.cell 1
      have f2 := HB3.out.free 0
      have f2' := HB3.out.free 1
      go_wp2_with fail
      have H4 := HB3.out.put2 (u := .int .i64 m1) (v := .slice A3 t0.length n3)
      have c4 := H4.cell 0
      have c4' := H4.cell 1
      refine bodyPost_ret (v := .tuple #[.agg #[.int .i64 m1, .slice A3 t0.length n3], .int .i64 0]) (by simp [results, Try.results22, go_sem, c4, c4']) rfl ⟨A3, n3, by rw [HQ.out.1, HQ.out.2.1, HQ.out.2.2]; simp, (HE3.out.setCell (by show w.heap.size ≤ w.heap.size + 1; omega) _).setCell (by show w.heap.size ≤ w.heap.size + 1; omega) _, ?_⟩
      rw [HQ.out.2.1]
      exact ((HO3.out.above (Only.set _ _ _ _) hzl).above (Only.set _ _ _ _) hzl).mono HE2.out.size (by simp) (Nat.le_refl _)

end Go.Proofs.Ytdehalkebneaoaa
