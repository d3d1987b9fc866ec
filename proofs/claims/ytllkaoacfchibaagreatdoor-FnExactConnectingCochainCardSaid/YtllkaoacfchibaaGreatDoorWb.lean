/- Chapter 8: the specification's contracts of the code, InnerModule and OuterModule. -/
import Derived.Test.YtllkaoacfchibaaGreatDoorWa
import Derived.Test.YtllkaoacfchibaaGreatDoorFc
namespace Go.Proofs.YtllkaoacfchibaaGreatDoor
open Go.RowKit

set_option maxRecDepth 100000 in
set_option maxHeartbeats 4000000 in
theorem l08Code_any (A U : Option Addr) (t : List (List Int)) (m : Int) (us : List Int) (k : Int) (c c1 : Nat) (w : World) (hR : RwsW w A t) (hU : IntsW w U us) (hs : SmallT t) (hu : us.length ≤ 1048576) :
    Calls Tryz.prog 51 #[.agg #[.slice A t.length c], .agg #[.int .i64 m, .slice U us.length c1], .int .i64 k] w fun e w' => e = .returned (.int .i64 (sqC t m us k)) ∧ Ex w w' := by
  have e0 : Ex w ((w.alloc (.cells #[.slice A t.length c] 36)).alloc (.cells #[.int .i64 m, .slice U us.length c1] 38)) := ((Ex.refl w).alloc _).alloc _
  have b0 : Has ((w.alloc (.cells #[.slice A t.length c] 36)).alloc (.cells #[.int .i64 m, .slice U us.length c1] 38)) (w.heap.size) 36 #[.slice A t.length c] := ((Has.newAt (w := w) (e := 36) (cs := #[.slice A t.length c]) (k := w.heap.size) (by simp)).alloc _)
  have b1 : Has ((w.alloc (.cells #[.slice A t.length c] 36)).alloc (.cells #[.int .i64 m, .slice U us.length c1] 38)) (w.heap.size + 1) 38 #[.int .i64 m, .slice U us.length c1] := (Has.newAt (w := (w.alloc (.cells #[.slice A t.length c] 36))) (e := 38) (cs := #[.int .i64 m, .slice U us.length c1]) (k := w.heap.size + 1) (by simp))
  have HC := Lib.hid (l01Is_ex A t c _ (hR.ex e0) hs)
  cases hg : grpB t with
  | false =>
    rw [hg] at HC
    have HQ := Lib.hid (sqC_no (k := k) (show gmB t m us = false by rw [gmB, hg, Bool.false_and]))
    clear hg hR hU hs hu
    go_enter Tryz.func51, Tryz.ntmps51
    go_wp2_with fail
    generalize ((w.alloc (.cells #[.slice A t.length c] 36)).alloc (.cells #[.int .i64 m, .slice U us.length c1] 38)) = W0 at *
    refine HC.out.mono ?_
    rintro e W1 ⟨rfl, he1⟩
    have HE1 := Lib.hid (e0.trans he1)
    clear b0 b1 e0 he1
    go_wp2_with fail
    go_ret
    exact ⟨by rw [HQ.out]; rfl, HE1.out⟩
  | true =>
    rw [hg] at HC
    have hgr := grpB_iff.1 hg
    have HM := Lib.hid (fun W (he : Ex w W) => l02Is_ex A U t m us c c1 W (hR.ex he) (hU.ex he) hgr hu)
    cases hm : modB t m us with
    | false =>
      rw [hm] at HM
      have HQ := Lib.hid (sqC_no (k := k) (show gmB t m us = false by rw [gmB, hm, Bool.and_false]))
      clear hg hgr hm hR hU hs hu
      go_enter Tryz.func51, Tryz.ntmps51
      go_wp2_with fail
      generalize ((w.alloc (.cells #[.slice A t.length c] 36)).alloc (.cells #[.int .i64 m, .slice U us.length c1] 38)) = W0 at *
      refine HC.out.mono ?_
      rintro e W1 ⟨rfl, he1⟩
      have HE1 := Lib.hid (e0.trans he1)
      have c0 := (b0.ex he1).cell 0
      have c1 := (b1.ex he1).cell 0
      have c1' := (b1.ex he1).cell 1
      clear b0 b1 e0 he1
      go_wp2_with fail
      refine (HM.out W1 HE1.out).mono ?_
      rintro e W2 ⟨rfl, he2⟩
      have HE2 := Lib.hid (HE1.out.trans he2)
      clear he2 c0 c1 c1'
      go_wp2_with fail
      go_ret
      exact ⟨by rw [HQ.out]; rfl, HE2.out⟩
    | true =>
      rw [hm] at HM
      have hgm : gmB t m us = true := by rw [gmB, hg, hm]; rfl
      obtain ⟨M, rfl, hF⟩ := gmB_f hgm
      have hm2 := hF.m2
      have hm12 := hF.m12
      have hdv : IntKind.i64.wrap ((M : Int) / 2) = ((M / 2 : Nat) : Int) := IntWalk.i64_in _ (by omega)
      have hdt : Int.tdiv (M : Int) 2 = ((M / 2 : Nat) : Int) := by rw [Int.tdiv_eq_ediv_of_nonneg (by omega)]; omega
      obtain ⟨H, hH⟩ : ∃ H, M / 2 = H := ⟨_, rfl⟩
      rw [hH] at hdv hdt
      have hwH : IntKind.i64.wrap (H : Int) = (H : Int) := IntWalk.i64_in _ (by omega)
      have hin0 : ∀ z, inB k 2 (H : Int) = false → z = sqC t (M : Int) us k → z = 2 := fun z h1 h2 => by
        rw [h2]
        refine sqC_out hgm ?_
        by_cases hk2 : k < 2
        · exact seqB_low hk2
        · obtain ⟨K, rfl⟩ : ∃ K : Nat, k = (K : Int) := ⟨k.toNat, by omega⟩
          rcases inB_false h1 with h | h
          · omega
          · exact seqB_half (by omega)
      cases hi : inB k 2 (H : Int) with
      | false =>
        have HQ := Lib.hid (hin0 _ hi rfl)
        clear hg hgr hm hgm hF hR hU hs hu hin0 hH
        go_enter Tryz.func51, Tryz.ntmps51
        go_wp2_with fail
        generalize ((w.alloc (.cells #[.slice A t.length c] 36)).alloc (.cells #[.int .i64 (M : Int), .slice U us.length c1] 38)) = W0 at *
        refine HC.out.mono ?_
        rintro e W1 ⟨rfl, he1⟩
        have HE1 := Lib.hid (e0.trans he1)
        have HB1 := Lib.hid (b1.ex he1)
        have c0 := (b0.ex he1).cell 0
        have c1 := (b1.ex he1).cell 0
        have c1' := (b1.ex he1).cell 1
        clear b0 b1 e0 he1
        go_wp2_with fail
        refine (HM.out W1 HE1.out).mono ?_
        rintro e W2 ⟨rfl, he2⟩
        have HE2 := Lib.hid (HE1.out.trans he2)
        have c2 := (HB1.out.ex he2).cell 0
        clear he2 c0 c1 c1'
        go_wp2_with (go_at_call 52; refine (l01In_ex k 2 (H : Int) _).mono ?_; rintro e w' ⟨rfl, rfl⟩)
        go_ret
        exact ⟨by rw [HQ.out]; rfl, HE2.out⟩
      | true =>
        obtain ⟨hi1, hi2⟩ := inB_true hi
        obtain ⟨K, rfl⟩ : ∃ K : Nat, k = (K : Int) := ⟨k.toNat, by omega⟩
        have ht := tmod_nat M K
        have hne : ((K : Int) != 0) = true := by simp; omega
        have hne0 : ¬ K = 0 := by omega
        have hmz : M % K < K := Nat.mod_lt _ (by omega)
        have hz0 : M % K = 0 → sqC t (M : Int) us (K : Int) = 0 := fun h => sqC_yes hgm (by
          have : K < M := by omega
          simp [seqB, h]
          omega)
        have hz1 : ¬ M % K = 0 → sqC t (M : Int) us (K : Int) = 2 := fun h => sqC_out hgm (seqB_mod h)
        obtain ⟨z, hz⟩ : ∃ z, M % K = z := ⟨_, rfl⟩
        rw [hz] at ht hmz hz0 hz1
        by_cases hzz : z = 0
        · subst hzz
          have hbz : ((0 : Int) != 0) = false := by decide
          have HQ := Lib.hid (hz0 rfl)
          clear hg hgr hm hgm hF hR hU hs hu hin0 hH hz hz0 hz1 hmz
          go_enter Tryz.func51, Tryz.ntmps51
          go_wp2_with fail
          generalize ((w.alloc (.cells #[.slice A t.length c] 36)).alloc (.cells #[.int .i64 (M : Int), .slice U us.length c1] 38)) = W0 at *
          refine HC.out.mono ?_
          rintro e W1 ⟨rfl, he1⟩
          have HE1 := Lib.hid (e0.trans he1)
          have HB1 := Lib.hid (b1.ex he1)
          have c0 := (b0.ex he1).cell 0
          have c1 := (b1.ex he1).cell 0
          have c1' := (b1.ex he1).cell 1
          clear b0 b1 e0 he1
          go_wp2_with fail
          refine (HM.out W1 HE1.out).mono ?_
          rintro e W2 ⟨rfl, he2⟩
          have HE2 := Lib.hid (HE1.out.trans he2)
          have c2 := (HB1.out.ex he2).cell 0
          clear he2 c0 c1 c1'
          go_wp2_with (go_at_call 52; refine (l01In_ex (K : Int) 2 (H : Int) _).mono ?_; rintro e w' ⟨rfl, rfl⟩)
          go_ret
          exact ⟨by rw [HQ.out]; rfl, HE2.out⟩
        · have hbz : ((z : Int) != 0) = true := by simp; omega
          have HQ := Lib.hid (hz1 hzz)
          clear hg hgr hm hgm hF hR hU hs hu hin0 hH hz hz0 hz1
          go_enter Tryz.func51, Tryz.ntmps51
          go_wp2_with fail
          generalize ((w.alloc (.cells #[.slice A t.length c] 36)).alloc (.cells #[.int .i64 (M : Int), .slice U us.length c1] 38)) = W0 at *
          refine HC.out.mono ?_
          rintro e W1 ⟨rfl, he1⟩
          have HE1 := Lib.hid (e0.trans he1)
          have HB1 := Lib.hid (b1.ex he1)
          have c0 := (b0.ex he1).cell 0
          have c1 := (b1.ex he1).cell 0
          have c1' := (b1.ex he1).cell 1
          clear b0 b1 e0 he1
          go_wp2_with fail
          refine (HM.out W1 HE1.out).mono ?_
          rintro e W2 ⟨rfl, he2⟩
          have HE2 := Lib.hid (HE1.out.trans he2)
          have c2 := (HB1.out.ex he2).cell 0
          clear he2 c0 c1 c1'
          go_wp2_with (go_at_call 52; refine (l01In_ex (K : Int) 2 (H : Int) _).mono ?_; rintro e w' ⟨rfl, rfl⟩)
          go_ret
          exact ⟨by rw [HQ.out]; rfl, HE2.out⟩

/-- What is asked of the end of InnerModule and OuterModule. -/
def SqS (q0 : Int) (y0 : List Int) (q1 : Int) (W : World) (e : Ending) (W' : World) : Prop := ∃ (C0 : Option Addr) (e0 : Nat), e = .returned (.tuple #[.agg #[.int .i64 q0, .slice C0 y0.length e0], .int .i64 q1]) ∧ Ex W W' ∧ OwnL W' W.heap.size W'.heap.size C0 y0
theorem SqS.err {q0 q1 c : Int} {y0 : List Int} {W W' : World} {e : Ending} (h : q0 = 0 ∧ y0 = [] ∧ q1 = c) (he : e = .returned (.tuple #[.agg #[.int .i64 0, .slice none 0 0], .int .i64 c])) (hx : Ex W W') : SqS q0 y0 q1 W e W' :=
  ⟨none, 0, by rw [he, h.1, h.2.1, h.2.2]; rfl, hx, by rw [h.2.1]; exact OwnL.nil _ _ _ (Nat.le_refl _)⟩
theorem SqS.of {q0 q1 m : Int} {y0 ys : List Int} {W W' : World} {e : Ending} {C0 : Option Addr} {e0 : Nat} (h : q0 = m ∧ y0 = ys ∧ q1 = 0) (he : e = .returned (.tuple #[.agg #[.int .i64 m, .slice C0 ys.length e0], .int .i64 0])) (hx : Ex W W') (h0 : OwnL W' W.heap.size W'.heap.size C0 ys) : SqS q0 y0 q1 W e W' :=
  ⟨C0, e0, by rw [he, h.1, h.2.1, h.2.2], hx, by rw [h.2.1]; exact h0⟩

end Go.Proofs.YtllkaoacfchibaaGreatDoor
