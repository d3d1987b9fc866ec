/- Chapter 8: the specification's contracts of the code, InnerModule and OuterModule. -/
import Derived.Test.YtllkaoacfchibaaDoorWa
import Derived.Test.YtllkaoacfchibaaDoorFc
namespace Go.Proofs.YtllkaoacfchibaaDoor
open Go.RowKit

set_option maxRecDepth 100000 in
set_option maxHeartbeats 4000000 in
theorem l08Code_any (A U : Option Addr) (t : List (List Int)) (m : Int) (us : List Int) (k : Int) (c c1 : Nat) (w : World) (hR : RwsW w A t) (hU : IntsW w U us) (hs : SmallT t) (hu : us.length ≤ 1048576) :
    Calls Tryd.prog 60 #[.agg #[.slice A t.length c], .agg #[.int .i64 m, .slice U us.length c1], .int .i64 k] w fun e w' => e = .returned (.int .i64 (sqC t m us k)) ∧ Ex w w' := by
  have e0 : Ex w ((w.alloc (.cells #[.slice A t.length c] 33)).alloc (.cells #[.int .i64 m, .slice U us.length c1] 30)) := ((Ex.refl w).alloc _).alloc _
  have b0 : Has ((w.alloc (.cells #[.slice A t.length c] 33)).alloc (.cells #[.int .i64 m, .slice U us.length c1] 30)) (w.heap.size) 33 #[.slice A t.length c] := ((Has.newAt (w := w) (e := 33) (cs := #[.slice A t.length c]) (k := w.heap.size) (by simp)).alloc _)
  have b1 : Has ((w.alloc (.cells #[.slice A t.length c] 33)).alloc (.cells #[.int .i64 m, .slice U us.length c1] 30)) (w.heap.size + 1) 30 #[.int .i64 m, .slice U us.length c1] := (Has.newAt (w := (w.alloc (.cells #[.slice A t.length c] 33))) (e := 30) (cs := #[.int .i64 m, .slice U us.length c1]) (k := w.heap.size + 1) (by simp))
  have HC := Lib.hid (l01Is_ex A t c _ (hR.ex e0) hs)
  cases hg : grpB t with
  | false =>
    rw [hg] at HC
    have HQ := Lib.hid (sqC_no (k := k) (show gmB t m us = false by rw [gmB, hg, Bool.false_and]))
    clear hg hR hU hs hu
    go_enter Tryd.func60, Tryd.ntmps60
    go_wp2_with fail
    generalize ((w.alloc (.cells #[.slice A t.length c] 33)).alloc (.cells #[.int .i64 m, .slice U us.length c1] 30)) = W0 at *
    refine HC.out.mono ?_
    rintro e W1 ⟨rfl, he1⟩
    have HE1 := Lib.hid (e0.trans he1)
    clear b0 b1 e0 he1
    go_wp2_with fail
    go_ret
    exact ⟨by rw [HQ.out]; rfl, HE1.out⟩
  | true =>
    rw [hg] at HC
    have hgr := grpB_iff.1 hg
    have HM := Lib.hid (fun W (he : Ex w W) => l02Is_ex A U t m us c c1 W (hR.ex he) (hU.ex he) hgr hu)
    cases hm : modB t m us with
    | false =>
      rw [hm] at HM
      have HQ := Lib.hid (sqC_no (k := k) (show gmB t m us = false by rw [gmB, hm, Bool.and_false]))
      clear hg hgr hm hR hU hs hu
      go_enter Tryd.func60, Tryd.ntmps60
      go_wp2_with fail
      generalize ((w.alloc (.cells #[.slice A t.length c] 33)).alloc (.cells #[.int .i64 m, .slice U us.length c1] 30)) = W0 at *
      refine HC.out.mono ?_
      rintro e W1 ⟨rfl, he1⟩
      have HE1 := Lib.hid (e0.trans he1)
      have c0 := (b0.ex he1).cell 0
      have c1 := (b1.ex he1).cell 0
      have c1' := (b1.ex he1).cell 1
      clear b0 b1 e0 he1
      go_wp2_with fail
      refine (HM.out W1 HE1.out).mono ?_
      rintro e W2 ⟨rfl, he2⟩
      have HE2 := Lib.hid (HE1.out.trans he2)
      clear he2 c0 c1 c1'
      go_wp2_with fail
      go_ret
      exact ⟨by rw [HQ.out]; rfl, HE2.out⟩
    | true =>
      rw [hm] at HM
      have hgm : gmB t m us = true := by rw [gmB, hg, hm]; rfl
      obtain ⟨M, rfl, hF⟩ := gmB_f hgm
      have hm2 := hF.m2
      have hm12 := hF.m12
      have hdv : IntKind.i64.wrap ((M : Int) / 2) = ((M / 2 : Nat) : Int) := IntWalk.i64_in _ (by omega)
      have hdt : Int.tdiv (M : Int) 2 = ((M / 2 : Nat) : Int) := by rw [Int.tdiv_eq_ediv_of_nonneg (by omega)]; omega
      obtain ⟨H, hH⟩ : ∃ H, M / 2 = H := ⟨_, rfl⟩
      rw [hH] at hdv hdt
      have hwH : IntKind.i64.wrap (H : Int) = (H : Int) := IntWalk.i64_in _ (by omega)
      have hin0 : ∀ z, inB k 2 (H : Int) = false → z = sqC t (M : Int) us k → z = 2 := fun z h1 h2 => by
        rw [h2]
        refine sqC_out hgm ?_
        by_cases hk2 : k < 2
        · exact seqB_low hk2
        · obtain ⟨K, rfl⟩ : ∃ K : Nat, k = (K : Int) := ⟨k.toNat, by omega⟩
          rcases inB_false h1 with h | h
          · omega
          · exact seqB_half (by omega)
      cases hi : inB k 2 (H : Int) with
      | false =>
        have HQ := Lib.hid (hin0 _ hi rfl)
        clear hg hgr hm hgm hF hR hU hs hu hin0 hH
        go_enter Tryd.func60, Tryd.ntmps60
        go_wp2_with fail
        generalize ((w.alloc (.cells #[.slice A t.length c] 33)).alloc (.cells #[.int .i64 (M : Int), .slice U us.length c1] 30)) = W0 at *
        refine HC.out.mono ?_
        rintro e W1 ⟨rfl, he1⟩
        have HE1 := Lib.hid (e0.trans he1)
        have HB1 := Lib.hid (b1.ex he1)
        have c0 := (b0.ex he1).cell 0
        have c1 := (b1.ex he1).cell 0
        have c1' := (b1.ex he1).cell 1
        clear b0 b1 e0 he1
        go_wp2_with fail
        refine (HM.out W1 HE1.out).mono ?_
        rintro e W2 ⟨rfl, he2⟩
        have HE2 := Lib.hid (HE1.out.trans he2)
        have c2 := (HB1.out.ex he2).cell 0
        clear he2 c0 c1 c1'
        go_wp2_with (go_at_call 107; refine (l01In_ex k 2 (H : Int) _).mono ?_; rintro e w' ⟨rfl, rfl⟩)
        go_ret
        exact ⟨by rw [HQ.out]; rfl, HE2.out⟩
      | true =>
        obtain ⟨hi1, hi2⟩ := inB_true hi
        obtain ⟨K, rfl⟩ : ∃ K : Nat, k = (K : Int) := ⟨k.toNat, by omega⟩
        have ht := tmod_nat M K
        have hne : ((K : Int) != 0) = true := by simp; omega
        have hne0 : ¬ K = 0 := by omega
        have hmz : M % K < K := Nat.mod_lt _ (by omega)
        have hz0 : M % K = 0 → sqC t (M : Int) us (K : Int) = 0 := fun h => sqC_yes hgm (by
          have : K < M := by omega
          simp [seqB, h]
          omega)
        have hz1 : ¬ M % K = 0 → sqC t (M : Int) us (K : Int) = 2 := fun h => sqC_out hgm (seqB_mod h)
        obtain ⟨z, hz⟩ : ∃ z, M % K = z := ⟨_, rfl⟩
        rw [hz] at ht hmz hz0 hz1
        by_cases hzz : z = 0
        · subst hzz
          have hbz : ((0 : Int) != 0) = false := by decide
          have HQ := Lib.hid (hz0 rfl)
          clear hg hgr hm hgm hF hR hU hs hu hin0 hH hz hz0 hz1 hmz
          go_enter Tryd.func60, Tryd.ntmps60
          go_wp2_with fail
          generalize ((w.alloc (.cells #[.slice A t.length c] 33)).alloc (.cells #[.int .i64 (M : Int), .slice U us.length c1] 30)) = W0 at *
          refine HC.out.mono ?_
          rintro e W1 ⟨rfl, he1⟩
          have HE1 := Lib.hid (e0.trans he1)
          have HB1 := Lib.hid (b1.ex he1)
          have c0 := (b0.ex he1).cell 0
          have c1 := (b1.ex he1).cell 0
          have c1' := (b1.ex he1).cell 1
          clear b0 b1 e0 he1
          go_wp2_with fail
          refine (HM.out W1 HE1.out).mono ?_
          rintro e W2 ⟨rfl, he2⟩
          have HE2 := Lib.hid (HE1.out.trans he2)
          have c2 := (HB1.out.ex he2).cell 0
          clear he2 c0 c1 c1'
          go_wp2_with (go_at_call 107; refine (l01In_ex (K : Int) 2 (H : Int) _).mono ?_; rintro e w' ⟨rfl, rfl⟩)
          go_ret
          exact ⟨by rw [HQ.out]; rfl, HE2.out⟩
        · have hbz : ((z : Int) != 0) = true := by simp; omega
          have HQ := Lib.hid (hz1 hzz)
          clear hg hgr hm hgm hF hR hU hs hu hin0 hH hz hz0 hz1
          go_enter Tryd.func60, Tryd.ntmps60
          go_wp2_with fail
          generalize ((w.alloc (.cells #[.slice A t.length c] 33)).alloc (.cells #[.int .i64 (M : Int), .slice U us.length c1] 30)) = W0 at *
          refine HC.out.mono ?_
          rintro e W1 ⟨rfl, he1⟩
          have HE1 := Lib.hid (e0.trans he1)
          have HB1 := Lib.hid (b1.ex he1)
          have c0 := (b0.ex he1).cell 0
          have c1 := (b1.ex he1).cell 0
          have c1' := (b1.ex he1).cell 1
          clear b0 b1 e0 he1
          go_wp2_with fail
          refine (HM.out W1 HE1.out).mono ?_
          rintro e W2 ⟨rfl, he2⟩
          have HE2 := Lib.hid (HE1.out.trans he2)
          have c2 := (HB1.out.ex he2).cell 0
          clear he2 c0 c1 c1'
          go_wp2_with (go_at_call 107; refine (l01In_ex (K : Int) 2 (H : Int) _).mono ?_; rintro e w' ⟨rfl, rfl⟩)
          go_ret
          exact ⟨by rw [HQ.out]; rfl, HE2.out⟩

/-- What is asked of the end of InnerModule and OuterModule. -/
def SqS (q0 : Int) (y0 : List Int) (q1 : Int) (W : World) (e : Ending) (W' : World) : Prop := ∃ (C0 : Option Addr) (e0 : Nat), e = .returned (.tuple #[.agg #[.int .i64 q0, .slice C0 y0.length e0], .int .i64 q1]) ∧ Ex W W' ∧ OwnL W' W.heap.size W'.heap.size C0 y0
theorem SqS.err {q0 q1 c : Int} {y0 : List Int} {W W' : World} {e : Ending} (h : q0 = 0 ∧ y0 = [] ∧ q1 = c) (he : e = .returned (.tuple #[.agg #[.int .i64 0, .slice none 0 0], .int .i64 c])) (hx : Ex W W') : SqS q0 y0 q1 W e W' :=
  ⟨none, 0, by rw [he, h.1, h.2.1, h.2.2]; rfl, hx, by rw [h.2.1]; exact OwnL.nil _ _ _ (Nat.le_refl _)⟩
theorem SqS.of {q0 q1 m : Int} {y0 ys : List Int} {W W' : World} {e : Ending} {C0 : Option Addr} {e0 : Nat} (h : q0 = m ∧ y0 = ys ∧ q1 = 0) (he : e = .returned (.tuple #[.agg #[.int .i64 m, .slice C0 ys.length e0], .int .i64 0])) (hx : Ex W W') (h0 : OwnL W' W.heap.size W'.heap.size C0 ys) : SqS q0 y0 q1 W e W' :=
  ⟨C0, e0, by rw [he, h.1, h.2.1, h.2.2], hx, by rw [h.2.1]; exact h0⟩

set_option maxRecDepth 100000 in
set_option maxHeartbeats 4000000 in
theorem specInnerModule_ex (t0 : List (List Int)) (m1 : Int) (t1 : List Int) (m2 : Int) : ∀ (B0 : Option Addr) (d0 : Nat) (B1 : Option Addr) (d1 : Nat) (W : World), RwsW W B0 t0 → IntsW W B1 t1 → SmallT t0 → t1.length ≤ 1048576 →
    Calls Tryd.prog 16 #[.agg #[.slice B0 t0.length d0], .agg #[.int .i64 m1, .slice B1 t1.length d1], .int .i64 m2] W (SqS (qInnerModule0 t0 m1 t1 m2) (yInnerModule0 t0 m1 t1 m2) (qInnerModule1 t0 m1 t1 m2) W) := by
  intro B0 d0 B1 d1 w hR hX hs hx
  have e0 : Ex w (((w.alloc (.cells #[.slice B0 t0.length d0] 33)).alloc (.cells #[.int .i64 m1, .slice B1 t1.length d1] 30)).alloc (.cells #[.int .i64 0, .slice none 0 0] 30)) := (((Ex.refl w).alloc _).alloc _).alloc _
  have b0 : Has (((w.alloc (.cells #[.slice B0 t0.length d0] 33)).alloc (.cells #[.int .i64 m1, .slice B1 t1.length d1] 30)).alloc (.cells #[.int .i64 0, .slice none 0 0] 30)) (w.heap.size) 33 #[.slice B0 t0.length d0] := (((Has.newAt (w := w) (e := 33) (cs := #[.slice B0 t0.length d0]) (k := w.heap.size) (by simp)).alloc _).alloc _)
  have b1 : Has (((w.alloc (.cells #[.slice B0 t0.length d0] 33)).alloc (.cells #[.int .i64 m1, .slice B1 t1.length d1] 30)).alloc (.cells #[.int .i64 0, .slice none 0 0] 30)) (w.heap.size + 1) 30 #[.int .i64 m1, .slice B1 t1.length d1] := ((Has.newAt (w := (w.alloc (.cells #[.slice B0 t0.length d0] 33))) (e := 30) (cs := #[.int .i64 m1, .slice B1 t1.length d1]) (k := w.heap.size + 1) (by simp)).alloc _)
  have b2 : Has (((w.alloc (.cells #[.slice B0 t0.length d0] 33)).alloc (.cells #[.int .i64 m1, .slice B1 t1.length d1] 30)).alloc (.cells #[.int .i64 0, .slice none 0 0] 30)) (w.heap.size + 1 + 1) 30 #[.int .i64 0, .slice none 0 0] := (Has.newAt (w := ((w.alloc (.cells #[.slice B0 t0.length d0] 33)).alloc (.cells #[.int .i64 m1, .slice B1 t1.length d1] 30))) (e := 30) (cs := #[.int .i64 0, .slice none 0 0]) (k := w.heap.size + 1 + 1) (by simp))
  have HC := Lib.hid (l08Code_any B0 B1 t0 m1 t1 m2 d0 d1 _ (hR.ex e0) (hX.ex e0) hs hx)
  by_cases hz : sqC t0 m1 t1 m2 = 0
  · obtain ⟨M, K, Q, rfl, rfl, hF, hS, hg, hgK, hgQ⟩ := sqC_f hz
    have HQ := Lib.hid (inn_yes hz)
    rw [hz] at HC
    have hm12 := hF.m12
    have hlt := hS.lt
    have hk2 := hS.k2
    have hl8 : t1.length ≤ 8 := by rw [hF.len]; exact hF.g.n8
    have HRD := Lib.hid (fun W (he : Ex w W) => l02Reduced_any B1 t1 d1 K (M : Int) W (hX.ex he) hl8 (fun i hi => ⟨(hF.rng i hi).1, by have := (hF.rng i hi).2; omega⟩) (by omega) (by omega))
    have HL : Hid ((rdL t1 K).length = t1.length) := Lib.hid rdL_len
    clear hz hF hS hg hgK hgQ hR hX hs hx
    go_enter Tryd.func16, Tryd.ntmps16
    go_wp2_with fail
    generalize (((w.alloc (.cells #[.slice B0 t0.length d0] 33)).alloc (.cells #[.int .i64 (M : Int), .slice B1 t1.length d1] 30)).alloc (.cells #[.int .i64 0, .slice none 0 0] 30)) = W0 at *
    refine HC.out.mono ?_
    rintro e W1 ⟨rfl, he1⟩
    have HE1 := Lib.hid (e0.trans he1)
    have HB2 := Lib.hid (b2.ex he1)
    have c1 := (b1.ex he1).cell 0
    have c1' := (b1.ex he1).cell 1
    clear b0 b1 b2 e0 he1
    go_wp2_with fail
    refine (HRD.out W1 HE1.out).mono ?_
    rintro e W2 ⟨CC, n, rfl, he2, hO⟩
    have HBR := Lib.hid (HB2.out.ex he2)
    have HE2 := Lib.hid (HE1.out.trans he2)
    have HO2 := Lib.hid hO
    have c4 := HBR.out.cell 0
    have c4' := HBR.out.cell 1
    have f4 := HBR.out.free 0
    have f4' := HBR.out.free 1
    have hlb := HB2.out.lt
    have hlw := HE1.out.size
    clear he2 hO c1 c1'
    go_wp2_with fail
    have H4 := HBR.out.put2 (u := .int .i64 (K : Int)) (v := .slice CC t1.length n)
    have c4 := H4.cell 0
    have c4' := H4.cell 1
    refine bodyPost_ret (v := .tuple #[.agg #[.int .i64 (K : Int), .slice CC t1.length n], .int .i64 0]) (by simp [results, Tryd.results16, go_sem, c4, c4']) rfl (SqS.of HQ.out (by rw [HL.out]) ((HE2.out.setCell (by show w.heap.size ≤ w.heap.size + 1 + 1; omega) _).setCell (by show w.heap.size ≤ w.heap.size + 1 + 1; omega) _) (((HO2.out.above (Only.set _ _ _ _) hlb).above (Only.set _ _ _ _) hlb).mono hlw (by simp) (Nat.le_refl _)))
  · obtain ⟨z, hzz⟩ : ∃ z, sqC t0 m1 t1 m2 = z := ⟨_, rfl⟩
    have HQ := Lib.hid (inn_no hzz (hzz ▸ hz))
    rw [hzz] at HC hz
    have hzb : (z != 0) = true := by simpa using hz
    clear hz hzz hR hX hs hx
    go_enter Tryd.func16, Tryd.ntmps16
    go_wp2_with fail
    generalize (((w.alloc (.cells #[.slice B0 t0.length d0] 33)).alloc (.cells #[.int .i64 m1, .slice B1 t1.length d1] 30)).alloc (.cells #[.int .i64 0, .slice none 0 0] 30)) = W0 at *
    refine HC.out.mono ?_
    rintro e W1 ⟨rfl, he1⟩
    have HE1 := Lib.hid (e0.trans he1)
    have HB2 := Lib.hid (b2.ex he1)
    have c4 := HB2.out.cell 0
    have c4' := HB2.out.cell 1
    have f4 := HB2.out.free 0
    have f4' := HB2.out.free 1
    clear b0 b1 b2 e0 he1
    go_wp2_with fail
    have H4 := HB2.out.put2 (u := .int .i64 0) (v := .slice none 0 0)
    have c4 := H4.cell 0
    have c4' := H4.cell 1
    refine bodyPost_ret (v := .tuple #[.agg #[.int .i64 0, .slice none 0 0], .int .i64 z]) (by simp [results, Tryd.results16, go_sem, c4, c4']) rfl (SqS.err HQ.out rfl ((HE1.out.setCell (by show w.heap.size ≤ w.heap.size + 1 + 1; omega) _).setCell (by show w.heap.size ≤ w.heap.size + 1 + 1; omega) _))

set_option maxRecDepth 100000 in
set_option maxHeartbeats 4000000 in
theorem specOuterModule_ex (t0 : List (List Int)) (m1 : Int) (t1 : List Int) (m2 : Int) : ∀ (B0 : Option Addr) (d0 : Nat) (B1 : Option Addr) (d1 : Nat) (W : World), RwsW W B0 t0 → IntsW W B1 t1 → SmallT t0 → t1.length ≤ 1048576 →
    Calls Tryd.prog 25 #[.agg #[.slice B0 t0.length d0], .agg #[.int .i64 m1, .slice B1 t1.length d1], .int .i64 m2] W (SqS (qOuterModule0 t0 m1 t1 m2) (yOuterModule0 t0 m1 t1 m2) (qOuterModule1 t0 m1 t1 m2) W) := by
  intro B0 d0 B1 d1 w hR hX hs hx
  have e0 : Ex w (((w.alloc (.cells #[.slice B0 t0.length d0] 33)).alloc (.cells #[.int .i64 m1, .slice B1 t1.length d1] 30)).alloc (.cells #[.int .i64 0, .slice none 0 0] 30)) := (((Ex.refl w).alloc _).alloc _).alloc _
  have b0 : Has (((w.alloc (.cells #[.slice B0 t0.length d0] 33)).alloc (.cells #[.int .i64 m1, .slice B1 t1.length d1] 30)).alloc (.cells #[.int .i64 0, .slice none 0 0] 30)) (w.heap.size) 33 #[.slice B0 t0.length d0] := (((Has.newAt (w := w) (e := 33) (cs := #[.slice B0 t0.length d0]) (k := w.heap.size) (by simp)).alloc _).alloc _)
  have b1 : Has (((w.alloc (.cells #[.slice B0 t0.length d0] 33)).alloc (.cells #[.int .i64 m1, .slice B1 t1.length d1] 30)).alloc (.cells #[.int .i64 0, .slice none 0 0] 30)) (w.heap.size + 1) 30 #[.int .i64 m1, .slice B1 t1.length d1] := ((Has.newAt (w := (w.alloc (.cells #[.slice B0 t0.length d0] 33))) (e := 30) (cs := #[.int .i64 m1, .slice B1 t1.length d1]) (k := w.heap.size + 1) (by simp)).alloc _)
  have b2 : Has (((w.alloc (.cells #[.slice B0 t0.length d0] 33)).alloc (.cells #[.int .i64 m1, .slice B1 t1.length d1] 30)).alloc (.cells #[.int .i64 0, .slice none 0 0] 30)) (w.heap.size + 1 + 1) 30 #[.int .i64 0, .slice none 0 0] := (Has.newAt (w := ((w.alloc (.cells #[.slice B0 t0.length d0] 33)).alloc (.cells #[.int .i64 m1, .slice B1 t1.length d1] 30))) (e := 30) (cs := #[.int .i64 0, .slice none 0 0]) (k := w.heap.size + 1 + 1) (by simp))
  have HC := Lib.hid (l08Code_any B0 B1 t0 m1 t1 m2 d0 d1 _ (hR.ex e0) (hX.ex e0) hs hx)
  by_cases hz : sqC t0 m1 t1 m2 = 0
  · obtain ⟨M, K, Q, rfl, rfl, hF, hS, hg, hgK, hgQ⟩ := sqC_f hz
    have HQ := Lib.hid (out_yes hz hS.div)
    rw [hz] at HC
    have hm12 := hF.m12
    have hq2 := hS.q2
    have hlt := hS.lt
    have hk2 := hS.k2
    have hQM : Q ≤ M := by have := hS.div; rw [← this]; exact Nat.div_le_self _ _
    have hl8 : t1.length ≤ 8 := by rw [hF.len]; exact hF.g.n8
    have hdv : IntKind.i64.wrap ((M : Int) / (K : Int)) = (Q : Int) := by
      rw [show (M : Int) / (K : Int) = (Q : Int) by rw [← hS.div]; rfl]
      exact IntWalk.i64_in _ (by omega)
    have hdt : Int.tdiv (M : Int) (K : Int) = (Q : Int) := by rw [Int.tdiv_eq_ediv_of_nonneg (by omega), ← hS.div]; rfl
    have hwQ : IntKind.i64.wrap (Q : Int) = (Q : Int) := IntWalk.i64_in _ (by omega)
    have hne : ((K : Int) != 0) = true := by simp; omega
    have hne0 : ¬ K = 0 := by omega
    have HRD := Lib.hid (fun W (he : Ex w W) => l02Reduced_any B1 t1 d1 Q (M : Int) W (hX.ex he) hl8 (fun i hi => ⟨(hF.rng i hi).1, by have := (hF.rng i hi).2; omega⟩) (by omega) (by omega))
    have HL : Hid ((rdL t1 Q).length = t1.length) := Lib.hid rdL_len
    clear hz hF hS hg hgK hgQ hR hX hs hx
    go_enter Tryd.func25, Tryd.ntmps25
    go_wp2_with fail
    generalize (((w.alloc (.cells #[.slice B0 t0.length d0] 33)).alloc (.cells #[.int .i64 (M : Int), .slice B1 t1.length d1] 30)).alloc (.cells #[.int .i64 0, .slice none 0 0] 30)) = W0 at *
    refine HC.out.mono ?_
    rintro e W1 ⟨rfl, he1⟩
    have HE1 := Lib.hid (e0.trans he1)
    have HB2 := Lib.hid (b2.ex he1)
    have HB1 := Lib.hid (b1.ex he1)
    have hC0 := And.intro (HB1.out.cell 0) (HB1.out.cell 1)
    clear b0 b1 b2 e0 he1
    go_wp2_with fail
    refine Late.region (C := fun w' => w'.cell? ⟨w.heap.size + 1, 0, none⟩ = some (.int .i64 (M : Int)) ∧ w'.cell? ⟨w.heap.size + 1, 1, none⟩ = some (.slice B1 t1.length d1)) (fun j => decide (j < 6)) (by kernel_rfl) hC0 (fun hC => ?_)
    refine Late.take (i := 0) (oi := _) (v := ?_) rfl (by kernel_rfl) (by kernel_rfl) (by kernel_rfl) (by kernel_rfl) (fun _ _ _ h => h) (Or.inl ⟨by rfl, ?_⟩) hC ?_
    rotate_left
    · (intro w hSw; (try dsimp only at hSw); go_simp; first | done | with_reducible rfl)
    simp only [Act.put]
    refine Late.take (i := 1) (oi := _) (v := ?_) rfl (by kernel_rfl) (by kernel_rfl) (by kernel_rfl) (by kernel_rfl) (fun _ _ _ h => h) (Or.inl ⟨by rfl, ?_⟩) hC ?_
    rotate_left
    · (intro w hSw; (try dsimp only at hSw); go_simp; first | done | with_reducible rfl)
    simp only [Act.put]
    refine Late.take (i := 2) (oi := _) (v := ?_) rfl (by kernel_rfl) (by kernel_rfl) (by kernel_rfl) (by kernel_rfl) (fun _ _ _ h => h) (Or.inl ⟨by rfl, ?_⟩) hC ?_
    rotate_left
    · (intro w hSw; (try dsimp only at hSw); go_simp; first | done | with_reducible rfl)
    simp only [Act.put]
    refine Late.take (i := 3) (oi := _) (v := ?_) rfl (by kernel_rfl) (by kernel_rfl) (by kernel_rfl) (by kernel_rfl) (fun _ _ _ h => h) (Or.inl ⟨by rfl, ?_⟩) hC ?_
    rotate_left
    · (intro w hSw; (try dsimp only at hSw); go_simp; first | done | with_reducible rfl)
    simp only [Act.put]
    refine Late.take (i := 4) (oi := _) (v := ?_) rfl (by kernel_rfl) (by kernel_rfl) (by kernel_rfl) (by kernel_rfl) (fun _ _ _ h => h) (Or.inl ⟨by rfl, ?_⟩) hC ?_
    rotate_left
    · (intro w hSw; (try dsimp only at hSw); go_simp; first | done | with_reducible rfl)
    simp only [Act.put]
    refine Late.one (i := 5) (o := _) (by kernel_rfl) rfl (fun K' hK' => ?_)
    go_simp
    refine (HRD.out W1.drew HE1.out.drew).mono ?_
    rintro e W2 ⟨CC, n, rfl, he2, hO⟩
    have he12 : Ex W1 W2 := (Ex.refl W1).drew.trans he2
    have HBR := Lib.hid (HB2.out.ex he12)
    have HE2 := Lib.hid (HE1.out.trans he12)
    have HO2 := Lib.hid hO
    have c4 := HBR.out.cell 0
    have c4' := HBR.out.cell 1
    have f4 := HBR.out.free 0
    have f4' := HBR.out.free 1
    have hlb : w.heap.size + 1 + 1 < W1.drew.heap.size := HB2.out.lt
    have hlw : w.heap.size ≤ W1.drew.heap.size := HE1.out.size
    have hC2 := And.intro ((HB1.out.ex he12).cell 0) ((HB1.out.ex he12).cell 1)
    refine hK'.out _ _ (fun _ => hC2) (fun _ => ?_)
    clear hK' K' hC hC0 he2 he12 hO
    try simp only [Act.put]
    refine Late.one (i := 6) (o := _) (by kernel_rfl) rfl (fun K' hK' => ?_)
    go_simp
    refine hK'.out _ _ (fun h => by cases h) (fun _ => ?_)
    clear hK' K' hC2
    try simp only [Act.put]
    refine Late.one (i := 7) (o := _) (by kernel_rfl) rfl (fun K' hK' => ?_)
    go_simp
    refine hK'.out _ _ (fun h => by cases h) (fun _ => ?_)
    clear hK' K'
    try simp only [Act.put]
    refine Late.done (by kernel_rfl) ?_ _
    go_wp2_with fail
    have H4 := HBR.out.put2 (u := .int .i64 (Q : Int)) (v := .slice CC t1.length n)
    have c4 := H4.cell 0
    have c4' := H4.cell 1
    refine bodyPost_ret (v := .tuple #[.agg #[.int .i64 (Q : Int), .slice CC t1.length n], .int .i64 0]) (by simp [results, Tryd.results25, go_sem, c4, c4']) rfl (SqS.of HQ.out (by rw [HL.out]) ((HE2.out.setCell (by show w.heap.size ≤ w.heap.size + 1 + 1; omega) _).setCell (by show w.heap.size ≤ w.heap.size + 1 + 1; omega) _) (((HO2.out.above (Only.set _ _ _ _) hlb).above (Only.set _ _ _ _) hlb).mono hlw (by simp) (Nat.le_refl _)))
  · obtain ⟨z, hzz⟩ : ∃ z, sqC t0 m1 t1 m2 = z := ⟨_, rfl⟩
    have HQ := Lib.hid (out_no hzz (hzz ▸ hz))
    rw [hzz] at HC hz
    have hzb : (z != 0) = true := by simpa using hz
    clear hz hzz hR hX hs hx
    go_enter Tryd.func25, Tryd.ntmps25
    go_wp2_with fail
    generalize (((w.alloc (.cells #[.slice B0 t0.length d0] 33)).alloc (.cells #[.int .i64 m1, .slice B1 t1.length d1] 30)).alloc (.cells #[.int .i64 0, .slice none 0 0] 30)) = W0 at *
    refine HC.out.mono ?_
    rintro e W1 ⟨rfl, he1⟩
    have HE1 := Lib.hid (e0.trans he1)
    have HB2 := Lib.hid (b2.ex he1)
    have c4 := HB2.out.cell 0
    have c4' := HB2.out.cell 1
    have f4 := HB2.out.free 0
    have f4' := HB2.out.free 1
    clear b0 b1 b2 e0 he1
    go_wp2_with fail
    have H4 := HB2.out.put2 (u := .int .i64 0) (v := .slice none 0 0)
    have c4 := H4.cell 0
    have c4' := H4.cell 1
    refine bodyPost_ret (v := .tuple #[.agg #[.int .i64 0, .slice none 0 0], .int .i64 z]) (by simp [results, Tryd.results25, go_sem, c4, c4']) rfl (SqS.err HQ.out rfl ((HE1.out.setCell (by show w.heap.size ≤ w.heap.size + 1 + 1; omega) _).setCell (by show w.heap.size ≤ w.heap.size + 1 + 1; omega) _))

end Go.Proofs.YtllkaoacfchibaaDoor
