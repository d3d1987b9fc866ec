/- LeadNumber. -/
import Derived.Test.YtahilkhnlobaoaaNm
import Derived.Test.YtahilkhnlobaoaaPrd
namespace Go.Proofs.Ytahilkhnlobaoaa
open Go.RowKit

/-- The number to which an element leads, and the code. -/
noncomputable def leadR (t : List (List Int)) (m : Int) (us : List Int) (el x : Int) : Int × Int :=
  if gmB t m us = true then (if (0 ≤ el ∧ el < t.length) ∧ (0 ≤ x ∧ x < m) then ((umul m.toNat (im us el.toNat) x.toNat : Int), 0) else (0, 2)) else (0, 1)
theorem leadR_none {t : List (List Int)} {m : Int} {us : List Int} {el x : Int} (h : gmB t m us = false) : leadR t m us el x = (0, 1) := by rw [leadR, h]; rfl
theorem leadR_out {t : List (List Int)} {m : Int} {us : List Int} {el x : Int} (h : gmB t m us = true) (hn : ¬ ((0 ≤ el ∧ el < t.length) ∧ (0 ≤ x ∧ x < m))) : leadR t m us el x = (0, 2) := by rw [leadR, if_pos h, if_neg hn]
theorem leadR_in {t : List (List Int)} {M e X : Nat} {us : List Int} (h : gmB t (M : Int) us = true) (he : e < t.length) (hx : X < M) : leadR t (M : Int) us (e : Int) (X : Int) = ((umul M (im us e) X : Int), 0) := by
  rw [leadR, if_pos h, if_pos ⟨⟨by omega, by omega⟩, by omega, by omega⟩]
  simp

set_option maxRecDepth 100000 in
set_option maxHeartbeats 1000000 in
theorem specLeadNumber_any (A L : Option Addr) (t : List (List Int)) (m : Int) (us : List Int) (c c' : Nat) (el x : Int) (B B' : Nat) (w : World) (hR : Rws w B A t) (hX : Ints w B' L us) (hB : B ≤ w.heap.size) (hB' : B' ≤ w.heap.size)
    (hn : t.length ≤ 1048576) (hl : ∀ i, i < t.length → (row t i).length ≤ 1048576) (hx : us.length ≤ 1048576) :
    Calls Try.prog 60 #[.agg #[.slice A t.length c], .agg #[.int .i64 m, .slice L us.length c'], .int .i64 el, .int .i64 x] w fun e w' => e = .returned (.tuple #[.int .i64 (leadR t m us el x).1, .int .i64 (leadR t m us el x).2]) ∧ Below w.heap.size w w' := by
  have hlaid := Laid3.mk_ w A L t.length c us.length c' m
  have hb0 := hlaid.below
  have hz0 := hb0.size
  have hcon := l02Code_any A L t m us c c' (w.heap.size + 1 + 1) B B' _ (hR.below hb0 hB) (hX.below hb0 hB') hlaid.k (by omega) (by omega) hn hl hx
  have HLD := Lib.hid hlaid
  have HX := Lib.hid hX
  clear hl hR hX hlaid
  cases hg : gmB t m us with
  | false =>
    rw [gmC_no hg] at hcon
    have HCON := Lib.hid hcon
    have HP := Lib.hid (leadR_none (el := el) (x := x) hg)
    clear hcon hg
    go_enter Try.func60, Try.ntmps60
    go_wp2_with fail
    refine HCON.out.mono ?_
    rintro e W2 ⟨rfl, hb2⟩
    have hbw := hb0.trans (hb2.mono hz0)
    go_wp2_with fail
    go_ret2
    exact ⟨by rw [HP.out]; rfl, hbw⟩
  | true =>
    rw [gmC_yes hg] at hcon
    have HCON := Lib.hid hcon
    obtain ⟨hgr, hm2, hm12, hlen, hun, -⟩ := gmB_true hg
    have hn8 := hgr.n8
    have hn1 := hgr.n1
    have HG := Lib.hid hg
    have HUN := Lib.hid hun
    have HLEN := Lib.hid hlen
    clear hcon hg hun hlen hgr
    by_cases he : 0 ≤ el ∧ el ≤ (t.length : Int) - 1
    · by_cases hxx : 0 ≤ x ∧ x ≤ m - 1
      · obtain ⟨M, rfl⟩ : ∃ M : Nat, m = (M : Int) := ⟨m.toNat, by omega⟩
        obtain ⟨E, rfl⟩ := Int.eq_ofNat_of_zero_le he.1
        obtain ⟨X, rfl⟩ := Int.eq_ofNat_of_zero_le hxx.1
        have hE : E < t.length := by omega
        have hXM : X < M := by omega
        have hM2 : 2 ≤ M := by omega
        have hM12 : M ≤ 12 := by omega
        have hin : InR M us := by have := units_inR HUN.out (by omega); simpa using this
        have HIN := Lib.hid hin
        have HP := Lib.hid (leadR_in HG.out hE hXM)
        have hEu : E < us.length := by rw [HLEN.out]; exact hE
        obtain ⟨ek, rk⟩ := im_eq hin hEu
        obtain ⟨bx, ox, rfl, hbx, hcx⟩ := HX.out.at_ hEu
        rw [ek] at hcx
        obtain ⟨he1, he2⟩ := he
        obtain ⟨hx1, hx2⟩ := hxx
        have h1 : im us E * X ≤ 144 := Nat.le_trans (Nat.mul_le_mul (show im us E ≤ 12 by omega) (show X ≤ 12 by omega)) (by omega)
        obtain ⟨z, hz⟩ : ∃ z, im us E * X % M = z := ⟨_, rfl⟩
        have ht : Int.tmod ((im us E : Int) * (X : Int)) (M : Int) = (z : Int) := by rw [← hz, ← tmod_nat]; simp
        have hp : (im us E : Int) * (X : Int) = ((im us E * X : Nat) : Int) := by simp
        have hne : ((M : Int) != 0) = true := by simp; omega
        have hzM : z < M := by rw [← hz]; exact Nat.mod_lt _ (by omega)
        have HZ : Hid (umul M (im us E) X = z) := hz
        have HCX := Lib.hid hcx
        rw [hp] at ht
        clear hin ek HIN HUN HLEN hz hcx HX
        generalize im us E * X = y at *
        generalize im us E = u at *
        go_enter Try.func60, Try.ntmps60
        go_wp2_with fail
        refine HCON.out.mono ?_
        rintro e W2 ⟨rfl, hb2⟩
        have hbw := hb0.trans (hb2.mono hz0)
        have hg2 := HLD.out.g.below hb2 HLD.out.g.lt
        have ha2 := HLD.out.a.below hb2 HLD.out.a.lt
        have hc0 := hg2.cell 0
        have hc1 := ha2.cell 0
        have hc2 := ha2.cell 1
        have hcx := (hbw.cell (p := ⟨bx, ox + E, none⟩) (by show bx < _; omega)).trans HCX.out
        clear hg2 ha2 hb2
        go_wp2_with fail
        refine (l01In_yes _ _ _ _ he1 he2).mono ?_
        rintro e w' ⟨rfl, rfl⟩
        go_wp2_with fail
        refine (l01In_yes _ _ _ _ hx1 hx2).mono ?_
        rintro e w' ⟨rfl, rfl⟩
        go_wp2_with fail
        go_quiet (fail)
        go_wp2_with fail
        go_ret2
        exact ⟨by rw [HP.out, HZ.out]; rfl, below_drewN hbw _⟩
      · have HP := Lib.hid (leadR_out (el := el) (x := x) HG.out (by omega))
        have hr : x < 0 ∨ m - 1 < x := by omega
        obtain ⟨he1, he2⟩ := he
        clear hxx
        go_enter Try.func60, Try.ntmps60
        go_wp2_with fail
        refine HCON.out.mono ?_
        rintro e W2 ⟨rfl, hb2⟩
        have hbw := hb0.trans (hb2.mono hz0)
        have hg2 := HLD.out.g.below hb2 HLD.out.g.lt
        have ha2 := HLD.out.a.below hb2 HLD.out.a.lt
        have hc0 := hg2.cell 0
        have hc1 := ha2.cell 0
        clear hg2 ha2 hb2
        go_wp2_with fail
        refine (l01In_yes _ _ _ _ he1 he2).mono ?_
        rintro e w' ⟨rfl, rfl⟩
        go_wp2_with fail
        refine (l01In_no _ _ _ _ hr).mono ?_
        rintro e w' ⟨rfl, rfl⟩
        go_wp2_with fail
        go_ret2
        exact ⟨by rw [HP.out]; rfl, hbw⟩
    · have HP := Lib.hid (leadR_out (el := el) (x := x) HG.out (by omega))
      have hr : el < 0 ∨ (t.length : Int) - 1 < el := by omega
      clear he
      go_enter Try.func60, Try.ntmps60
      go_wp2_with fail
      refine HCON.out.mono ?_
      rintro e W2 ⟨rfl, hb2⟩
      have hbw := hb0.trans (hb2.mono hz0)
      have hg2 := HLD.out.g.below hb2 HLD.out.g.lt
      have hc0 := hg2.cell 0
      clear hg2 hb2
      go_wp2_with fail
      refine (l01In_no _ _ _ _ hr).mono ?_
      rintro e w' ⟨rfl, rfl⟩
      go_wp2_with fail
      go_ret2
      exact ⟨by rw [HP.out]; rfl, hbw⟩

set_option maxRecDepth 100000 in
set_option maxHeartbeats 1000000 in
theorem implLeadNumber_any (A L : Option Addr) (t : List (List Int)) (m : Int) (us : List Int) (c c' : Nat) (el x : Int) (B B' : Nat) (w : World) (hR : Rws w B A t) (hX : Ints w B' L us) (hB : B ≤ w.heap.size) (hB' : B' ≤ w.heap.size)
    (hn : t.length ≤ 1048576) (hl : ∀ i, i < t.length → (row t i).length ≤ 1048576) (hx : us.length ≤ 1048576) :
    Calls Try.prog 61 #[.agg #[.slice A t.length c], .agg #[.int .i64 m, .slice L us.length c'], .int .i64 el, .int .i64 x] w fun e w' => e = .returned (.tuple #[.int .i64 (leadR t m us el x).1, .int .i64 (leadR t m us el x).2]) ∧ Below w.heap.size w w' := by
  have hlaid := Laid2.mk_ w A L t.length c us.length c' m
  have hb0 := hlaid.below
  have hz0 := hb0.size
  have hcon := isModule_any A L t m us c c' B B' _ (hR.below hb0 hB) (hX.below hb0 hB') (by omega) (by omega) hn hl hx
  have HLD := Lib.hid hlaid
  have HX := Lib.hid hX
  clear hl hR hX hlaid
  cases hg : gmB t m us with
  | false =>
    rw [hg] at hcon
    have HCON := Lib.hid hcon
    have HP := Lib.hid (leadR_none (el := el) (x := x) hg)
    clear hcon hg
    go_enter Try.func61, Try.ntmps61
    go_wp2_with fail
    refine HCON.out.mono ?_
    rintro e W2 ⟨rfl, hb2⟩
    have hbw := hb0.trans (hb2.mono hz0)
    go_wp2_with fail
    go_ret2
    exact ⟨by rw [HP.out]; rfl, hbw⟩
  | true =>
    rw [hg] at hcon
    have HCON := Lib.hid hcon
    obtain ⟨hgr, hm2, hm12, hlen, hun, -⟩ := gmB_true hg
    have hn8 := hgr.n8
    have hn1 := hgr.n1
    have HG := Lib.hid hg
    have HUN := Lib.hid hun
    have HLEN := Lib.hid hlen
    have HEL := Lib.hid (fun W => isElement_any A t.length c el W hn)
    clear hcon hg hun hlen hgr
    by_cases he : 0 ≤ el ∧ el < (t.length : Int)
    · have hed := decide_eq_true he
      by_cases hx0 : 0 ≤ x
      · have hx0d : decide (x < 0) = false := by simp; omega
        by_cases hxm : x < m
        · have hxmd : decide (m ≤ x) = false := by simp; omega
          obtain ⟨M, rfl⟩ : ∃ M : Nat, m = (M : Int) := ⟨m.toNat, by omega⟩
          obtain ⟨E, rfl⟩ := Int.eq_ofNat_of_zero_le he.1
          obtain ⟨X, rfl⟩ := Int.eq_ofNat_of_zero_le hx0
          have hE : E < t.length := by omega
          have hXM : X < M := by omega
          have hM2 : 2 ≤ M := by omega
          have hM12 : M ≤ 12 := by omega
          have hin : InR M us := by have := units_inR HUN.out (by omega); simpa using this
          have HP := Lib.hid (leadR_in HG.out hE hXM)
          have hEu : E < us.length := by rw [HLEN.out]; exact hE
          obtain ⟨ek, rk⟩ := im_eq hin hEu
          obtain ⟨bx, ox, rfl, hbx, hcx⟩ := HX.out.at_ hEu
          rw [ek] at hcx
          have h1 : im us E * X ≤ 144 := Nat.le_trans (Nat.mul_le_mul (show im us E ≤ 12 by omega) (show X ≤ 12 by omega)) (by omega)
          obtain ⟨z, hz⟩ : ∃ z, im us E * X % M = z := ⟨_, rfl⟩
          have hp : (X : Int) * (im us E : Int) = ((im us E * X : Nat) : Int) := by rw [Int.mul_comm]; simp
          have ht : Int.tmod (((im us E * X : Nat) : Int)) (M : Int) = (z : Int) := by rw [← hz, ← tmod_nat]
          have hne : ((M : Int) != 0) = true := by simp; omega
          have hzM : z < M := by rw [← hz]; exact Nat.mod_lt _ (by omega)
          have HZ : Hid (umul M (im us E) X = z) := hz
          have HCX := Lib.hid hcx
          have HED := Lib.hid hed
          clear hin ek HUN HLEN hz hcx HX he hed
          generalize im us E * X = y at *
          generalize im us E = u at *
          go_enter Try.func61, Try.ntmps61
          go_wp2_with fail
          refine HCON.out.mono ?_
          rintro e W2 ⟨rfl, hb2⟩
          have hbw := hb0.trans (hb2.mono hz0)
          have hg2 := HLD.out.g.below hb2 HLD.out.g.lt
          have ha2 := HLD.out.a.below hb2 HLD.out.a.lt
          have HA2 := Lib.hid ha2
          have hc0 := hg2.cell 0
          have hzw := hbw.size
          clear hg2 hb2 ha2
          go_wp2_with fail
          refine (HEL.out W2).mono ?_
          rintro e W3 ⟨rfl, hb3⟩
          rw [HED.out]
          have hbw3 := hbw.trans (hb3.mono hzw)
          have ha3 := HA2.out.below hb3 HA2.out.lt
          have hc1 := ha3.cell 0
          have hc2 := ha3.cell 1
          have hcx := (hbw3.cell (p := ⟨bx, ox + E, none⟩) (by show bx < _; omega)).trans HCX.out
          clear hb3 ha3 hc0
          go_wp2_with fail
          go_quiet (fail)
          go_wp2_with fail
          go_ret2
          exact ⟨by rw [HP.out, HZ.out]; rfl, below_drewN hbw3 _⟩
        · have hxmd : decide (m ≤ x) = true := by simp; omega
          have HP := Lib.hid (leadR_out (el := el) (x := x) HG.out (by omega))
          have HED := Lib.hid hed
          clear he hed
          go_enter Try.func61, Try.ntmps61
          go_wp2_with fail
          refine HCON.out.mono ?_
          rintro e W2 ⟨rfl, hb2⟩
          have hbw := hb0.trans (hb2.mono hz0)
          have hg2 := HLD.out.g.below hb2 HLD.out.g.lt
          have ha2 := HLD.out.a.below hb2 HLD.out.a.lt
          have HA2 := Lib.hid ha2
          have hc0 := hg2.cell 0
          have hzw := hbw.size
          clear hg2 hb2 ha2
          go_wp2_with fail
          refine (HEL.out W2).mono ?_
          rintro e W3 ⟨rfl, hb3⟩
          rw [HED.out]
          have hbw3 := hbw.trans (hb3.mono hzw)
          have hc1 := (HA2.out.below hb3 HA2.out.lt).cell 0
          clear hb3 hc0
          go_wp2_with fail
          go_ret2
          exact ⟨by rw [HP.out]; rfl, hbw3⟩
      · have hx0d : decide (x < 0) = true := by simp; omega
        have HP := Lib.hid (leadR_out (el := el) (x := x) HG.out (by omega))
        have HED := Lib.hid hed
        clear he hed
        go_enter Try.func61, Try.ntmps61
        go_wp2_with fail
        refine HCON.out.mono ?_
        rintro e W2 ⟨rfl, hb2⟩
        have hbw := hb0.trans (hb2.mono hz0)
        have hc0 := (HLD.out.g.below hb2 HLD.out.g.lt).cell 0
        have hzw := hbw.size
        clear hb2
        go_wp2_with fail
        refine (HEL.out W2).mono ?_
        rintro e W3 ⟨rfl, hb3⟩
        rw [HED.out]
        have hbw3 := hbw.trans (hb3.mono hzw)
        clear hb3 hc0
        go_wp2_with fail
        go_ret2
        exact ⟨by rw [HP.out]; rfl, hbw3⟩
    · have hed := decide_eq_false he
      have HP := Lib.hid (leadR_out (el := el) (x := x) HG.out (by omega))
      have HED := Lib.hid hed
      clear he hed
      go_enter Try.func61, Try.ntmps61
      go_wp2_with fail
      refine HCON.out.mono ?_
      rintro e W2 ⟨rfl, hb2⟩
      have hbw := hb0.trans (hb2.mono hz0)
      have hc0 := (HLD.out.g.below hb2 HLD.out.g.lt).cell 0
      have hzw := hbw.size
      clear hb2
      go_wp2_with fail
      refine (HEL.out W2).mono ?_
      rintro e W3 ⟨rfl, hb3⟩
      rw [HED.out]
      have hbw3 := hbw.trans (hb3.mono hzw)
      clear hb3 hc0
      go_wp2_with fail
      go_ret2
      exact ⟨by rw [HP.out]; rfl, hbw3⟩

end Go.Proofs.Ytahilkhnlobaoaa
