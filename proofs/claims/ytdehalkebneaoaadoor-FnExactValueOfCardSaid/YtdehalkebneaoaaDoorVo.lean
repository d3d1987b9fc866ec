/- ValueOf: both contracts. -/
import Derived.Test.YtdehalkebneaoaaDoorVd
namespace Go.Proofs.YtdehalkebneaoaaDoor
open Go.RowKit

theorem inR_below {N : Nat} {xs : List Int} (h : InR N xs) : belowB (N : Int) xs = true := by
  refine List.all_eq_true.2 fun x hx => ?_
  obtain ⟨j, hj, rfl⟩ := List.getElem_of_mem hx
  have h1 := h j hj
  rw [show nth xs j = xs[j] by simp [nth, hj]] at h1
  exact inB_of h1.1 (by omega)

noncomputable def qValueOf0 (t : List (List Int)) (m : Int) (us : List Int) (n : Int) (fs xs : List Int) : Int := if gmcB t m us n fs = true ∧ lisB t.length n.toNat xs = true then valR t.length fs xs else 0
noncomputable def qValueOf1 (t : List (List Int)) (m : Int) (us : List Int) (n : Int) (fs xs : List Int) : Int := if gmcB t m us n fs = true then (if lisB t.length n.toNat xs = true then 0 else 2) else 1
section
variable {t : List (List Int)} {m n : Int} {us fs xs : List Int}
theorem vo_no (h : gmcB t m us n fs = false) : qValueOf0 t m us n fs xs = 0 ∧ qValueOf1 t m us n fs xs = 1 := by simp [qValueOf0, qValueOf1, h]
theorem vo_out {k : Nat} (h : gmcB t m us (k : Int) fs = true) (h2 : lisB t.length k xs = false) : qValueOf0 t m us (k : Int) fs xs = 0 ∧ qValueOf1 t m us (k : Int) fs xs = 2 := by simp [qValueOf0, qValueOf1, h, h2]
theorem vo_yes {k : Nat} (h : gmcB t m us (k : Int) fs = true) (h2 : lisB t.length k xs = true) : qValueOf0 t m us (k : Int) fs xs = valR t.length fs xs ∧ qValueOf1 t m us (k : Int) fs xs = 0 := by simp [qValueOf0, qValueOf1, h, h2]
end

set_option maxRecDepth 100000 in
set_option maxHeartbeats 4000000 in
theorem specValueOf_ex (t0 : List (List Int)) (m1 : Int) (t1 : List Int) (m2 : Int) (t2 t3 : List Int) : ∀ (B0 : Option Addr) (d0 : Nat) (B1 : Option Addr) (d1 : Nat) (B2 : Option Addr) (d2 : Nat) (B3 : Option Addr) (d3 : Nat) (W : World), RwsW W B0 t0 → IntsW W B1 t1 → IntsW W B2 t2 → IntsW W B3 t3 → SmallT t0 → t1.length ≤ 1048576 → t2.length ≤ 1048576 → t3.length ≤ 1048576 →
    Calls Tryd.prog 26 #[.agg #[.slice B0 t0.length d0], .agg #[.int .i64 m1, .slice B1 t1.length d1], .agg #[.int .i64 m2, .slice B2 t2.length d2], .slice B3 t3.length d3] W fun e W' => e = .returned (.tuple #[.int .i64 (qValueOf0 t0 m1 t1 m2 t2 t3), .int .i64 (qValueOf1 t0 m1 t1 m2 t2 t3)]) ∧ Ex W W' := by
  intro B0 d0 B1 d1 B2 d2 B3 d3 w hR hX hF hL hs hu hf hl
  have e0 : Ex w ((((w.alloc (.cells #[.slice B0 t0.length d0] 29)).alloc (.cells #[.int .i64 m1, .slice B1 t1.length d1] 44)).alloc (.cells #[.int .i64 m2, .slice B2 t2.length d2] 46)).alloc (.cells #[.int .i64 m2, .slice B2 t2.length d2] 46)) := ((((Ex.refl w).alloc _).alloc _).alloc _).alloc _
  have b0 : Has ((((w.alloc (.cells #[.slice B0 t0.length d0] 29)).alloc (.cells #[.int .i64 m1, .slice B1 t1.length d1] 44)).alloc (.cells #[.int .i64 m2, .slice B2 t2.length d2] 46)).alloc (.cells #[.int .i64 m2, .slice B2 t2.length d2] 46)) (w.heap.size) 29 #[.slice B0 t0.length d0] := ((((Has.newAt (w := w) (e := 29) (cs := #[.slice B0 t0.length d0]) (k := w.heap.size) (by simp)).alloc _).alloc _).alloc _)
  have b1 : Has ((((w.alloc (.cells #[.slice B0 t0.length d0] 29)).alloc (.cells #[.int .i64 m1, .slice B1 t1.length d1] 44)).alloc (.cells #[.int .i64 m2, .slice B2 t2.length d2] 46)).alloc (.cells #[.int .i64 m2, .slice B2 t2.length d2] 46)) (w.heap.size + 1) 44 #[.int .i64 m1, .slice B1 t1.length d1] := (((Has.newAt (w := (w.alloc (.cells #[.slice B0 t0.length d0] 29))) (e := 44) (cs := #[.int .i64 m1, .slice B1 t1.length d1]) (k := w.heap.size + 1) (by simp)).alloc _).alloc _)
  have b2 : Has ((((w.alloc (.cells #[.slice B0 t0.length d0] 29)).alloc (.cells #[.int .i64 m1, .slice B1 t1.length d1] 44)).alloc (.cells #[.int .i64 m2, .slice B2 t2.length d2] 46)).alloc (.cells #[.int .i64 m2, .slice B2 t2.length d2] 46)) (w.heap.size + 1 + 1) 46 #[.int .i64 m2, .slice B2 t2.length d2] := ((Has.newAt (w := ((w.alloc (.cells #[.slice B0 t0.length d0] 29)).alloc (.cells #[.int .i64 m1, .slice B1 t1.length d1] 44))) (e := 46) (cs := #[.int .i64 m2, .slice B2 t2.length d2]) (k := w.heap.size + 1 + 1) (by simp)).alloc _)
  have b3 : Has ((((w.alloc (.cells #[.slice B0 t0.length d0] 29)).alloc (.cells #[.int .i64 m1, .slice B1 t1.length d1] 44)).alloc (.cells #[.int .i64 m2, .slice B2 t2.length d2] 46)).alloc (.cells #[.int .i64 m2, .slice B2 t2.length d2] 46)) (w.heap.size + 1 + 1 + 1) 46 #[.int .i64 m2, .slice B2 t2.length d2] := (Has.newAt (w := (((w.alloc (.cells #[.slice B0 t0.length d0] 29)).alloc (.cells #[.int .i64 m1, .slice B1 t1.length d1] 44)).alloc (.cells #[.int .i64 m2, .slice B2 t2.length d2] 46))) (e := 46) (cs := #[.int .i64 m2, .slice B2 t2.length d2]) (k := w.heap.size + 1 + 1 + 1) (by simp))
  have HC := Lib.hid (l03Code1_ex B0 B1 B2 t0 m1 t1 m2 t2 d0 d1 d2 (w.heap.size + 1 + 1 + 1) _ (hR.ex e0) (hX.ex e0) (hF.ex e0) hs hu hf b3)
  have HEL := Lib.hid (fun W (he : Ex ((((w.alloc (.cells #[.slice B0 t0.length d0] 29)).alloc (.cells #[.int .i64 m1, .slice B1 t1.length d1] 44)).alloc (.cells #[.int .i64 m2, .slice B2 t2.length d2] 46)).alloc (.cells #[.int .i64 m2, .slice B2 t2.length d2] 46)) W) => l01Elements_any B0 B3 t0 t3 d0 d3 _ _ W (hR.ex (e0.trans he)).rws (hL.ex (e0.trans he)).ints (Nat.le_refl _) (Nat.le_refl _) hs.1 hs.2 hl)
  cases hg : gmcB t0 m1 t1 m2 t2 with
  | false =>
    rw [hg] at HC
    have HQ := Lib.hid (vo_no (xs := t3) hg)
    clear hg hR hX hF hL HEL
    go_enter Tryd.func26, Tryd.ntmps26
    go_wp2_with fail
    generalize ((((w.alloc (.cells #[.slice B0 t0.length d0] 29)).alloc (.cells #[.int .i64 m1, .slice B1 t1.length d1] 44)).alloc (.cells #[.int .i64 m2, .slice B2 t2.length d2] 46)).alloc (.cells #[.int .i64 m2, .slice B2 t2.length d2] 46)) = W0 at *
    refine HC.out.mono ?_
    rintro e W1 ⟨rfl, he1⟩
    have HE1 := Lib.hid (e0.trans he1)
    clear b0 b1 b2 b3 e0 he1
    go_wp2_with fail
    go_ret2
    exact ⟨by rw [HQ.out.1, HQ.out.2]; rfl, HE1.out⟩
  | true =>
    rw [hg] at HC
    obtain ⟨M, k, rfl, rfl, hMF, hk3, hlen, h343, hfr⟩ := gmc_facts hg
    have hgr := hMF.g
    have hN8 := hgr.n8
    have hN1 := hgr.n1
    by_cases hlk : t3.length = k
    · have hne : ((t3.length : Int) != (k : Int)) = false := by simp [hlk]
      by_cases hr : InR t0.length t3
      · have hli : lisB t0.length k t3 = true := by simp [lisB, hlk, inR_below hr]
        have HQ := Lib.hid (vo_yes hg hli)
        have he0 : elemR t0 t3 = 0 := by simp [elemR, hgr, hr]
        rw [he0] at HEL
        have HAT := Lib.hid (fun W (he : Ex _ W) => l03At_any B0 B2 B3 k t0.length t2 t3 d0 d2 d3 W (hF.ex (e0.trans he)) (hL.ex (e0.trans he)) hN8 hN1 (by omega) hlk hlen hr)
        obtain ⟨v, hv⟩ : ∃ v, valR t0.length t2 t3 = v := ⟨_, rfl⟩
        rw [hv] at HQ HAT
        clear hg hR hX hF hL hMF hgr hs hu hf hlen hfr hr hli he0 hv hlk
        go_enter Tryd.func26, Tryd.ntmps26
        go_wp2_with fail
        generalize ((((w.alloc (.cells #[.slice B0 t0.length d0] 29)).alloc (.cells #[.int .i64 (M : Int), .slice B1 t1.length d1] 44)).alloc (.cells #[.int .i64 (k : Int), .slice B2 t2.length d2] 46)).alloc (.cells #[.int .i64 (k : Int), .slice B2 t2.length d2] 46)) = W0 at *
        refine HC.out.mono ?_
        rintro e W1 ⟨rfl, he1⟩
        have HE01 := Lib.hid he1
        have HE1 := Lib.hid (e0.trans he1)
        have HB0 := Lib.hid (b0.ex he1)
        have HB2 := Lib.hid (b2.ex he1)
        have c0 := HB0.out.cell 0
        have c2 := HB2.out.cell 0
        have HEL1 := Lib.hid (HEL.out W1 he1)
        clear b0 b1 b2 b3 e0 he1 HEL
        go_wp2_with (go_at_call 72; refine HEL1.out.mono ?_; rintro e W2 ⟨rfl, he2⟩; have HE2 := Lib.hid he2; have c0' := (HB0.out.ex he2).cell 0; have c2' := (HB2.out.ex he2).cell 0; have c2'' := (HB2.out.ex he2).cell 1; clear he2)
        refine (HAT.out W2 (HE01.out.trans HE2.out)).mono ?_
        rintro e W3 ⟨rfl, he3⟩
        have HE3 := Lib.hid (HE1.out.trans (Ex.trans HE2.out he3))
        clear he3
        go_wp2_with fail
        go_ret2
        exact ⟨by rw [HQ.out.1, HQ.out.2]; rfl, HE3.out⟩
      · have hli : lisB t0.length k t3 = false := by
          cases hb : belowB (t0.length : Int) t3
          · simp [lisB, hb]
          · exact absurd (belowB_inR hb) hr
        have HQ := Lib.hid (vo_out hg hli)
        have he0 : elemR t0 t3 = 2 := by simp [elemR, hgr, hr]
        rw [he0] at HEL
        clear hg hR hX hF hL hMF hgr hs hu hf hlen hfr hr hli he0 hlk
        go_enter Tryd.func26, Tryd.ntmps26
        go_wp2_with fail
        generalize ((((w.alloc (.cells #[.slice B0 t0.length d0] 29)).alloc (.cells #[.int .i64 (M : Int), .slice B1 t1.length d1] 44)).alloc (.cells #[.int .i64 (k : Int), .slice B2 t2.length d2] 46)).alloc (.cells #[.int .i64 (k : Int), .slice B2 t2.length d2] 46)) = W0 at *
        refine HC.out.mono ?_
        rintro e W1 ⟨rfl, he1⟩
        have HE1 := Lib.hid (e0.trans he1)
        have c0 := (b0.ex he1).cell 0
        have c2 := (b2.ex he1).cell 0
        have HEL1 := Lib.hid (HEL.out W1 he1)
        clear b0 b1 b2 b3 e0 he1 HEL
        go_wp2_with (go_at_call 72; refine HEL1.out.mono ?_; rintro e W2 ⟨rfl, he2⟩; have HE2 := Lib.hid (HE1.out.trans he2); clear he2)
        go_ret2
        exact ⟨by rw [HQ.out.1, HQ.out.2]; rfl, HE2.out⟩
    · have hne : ((t3.length : Int) != (k : Int)) = true := by simp; omega
      have hli : lisB t0.length k t3 = false := by simp [lisB, hlk]
      have HQ := Lib.hid (vo_out hg hli)
      clear hg hR hX hF hL hMF hgr hs hu hf hlen hfr hli hlk HEL
      go_enter Tryd.func26, Tryd.ntmps26
      go_wp2_with fail
      generalize ((((w.alloc (.cells #[.slice B0 t0.length d0] 29)).alloc (.cells #[.int .i64 (M : Int), .slice B1 t1.length d1] 44)).alloc (.cells #[.int .i64 (k : Int), .slice B2 t2.length d2] 46)).alloc (.cells #[.int .i64 (k : Int), .slice B2 t2.length d2] 46)) = W0 at *
      refine HC.out.mono ?_
      rintro e W1 ⟨rfl, he1⟩
      have HE1 := Lib.hid (e0.trans he1)
      have c2 := (b2.ex he1).cell 0
      clear b0 b1 b2 b3 e0 he1
      go_wp2_with fail
      go_ret2
      exact ⟨by rw [HQ.out.1, HQ.out.2]; rfl, HE1.out⟩

set_option maxRecDepth 100000 in
set_option maxHeartbeats 4000000 in
theorem implValueOf_ex (t0 : List (List Int)) (m1 : Int) (t1 : List Int) (m2 : Int) (t2 t3 : List Int) : ∀ (B0 : Option Addr) (d0 : Nat) (B1 : Option Addr) (d1 : Nat) (B2 : Option Addr) (d2 : Nat) (B3 : Option Addr) (d3 : Nat) (W : World), RwsW W B0 t0 → IntsW W B1 t1 → IntsW W B2 t2 → IntsW W B3 t3 → SmallT t0 → t1.length ≤ 1048576 → t2.length ≤ 1048576 → t3.length ≤ 1048576 → ErrL W →
    Calls Tryd.prog 30 #[.agg #[.slice B0 t0.length d0], .agg #[.int .i64 m1, .slice B1 t1.length d1], .agg #[.int .i64 m2, .slice B2 t2.length d2], .slice B3 t3.length d3] W fun e W' => e = .returned (.tuple #[.int .i64 (qValueOf0 t0 m1 t1 m2 t2 t3), .int .i64 (qValueOf1 t0 m1 t1 m2 t2 t3)]) ∧ Ex W W' := by
  intro B0 d0 B1 d1 B2 d2 B3 d3 w hR hX hF hL hs hu hf hl hE
  have e0 : Ex w ((((w.alloc (.cells #[.slice B0 t0.length d0] 29)).alloc (.cells #[.int .i64 m1, .slice B1 t1.length d1] 44)).alloc (.cells #[.int .i64 m2, .slice B2 t2.length d2] 46)).alloc (.cells #[.slice B3 t3.length d3] 26)) := ((((Ex.refl w).alloc _).alloc _).alloc _).alloc _
  have b0 : Has ((((w.alloc (.cells #[.slice B0 t0.length d0] 29)).alloc (.cells #[.int .i64 m1, .slice B1 t1.length d1] 44)).alloc (.cells #[.int .i64 m2, .slice B2 t2.length d2] 46)).alloc (.cells #[.slice B3 t3.length d3] 26)) (w.heap.size) 29 #[.slice B0 t0.length d0] := ((((Has.newAt (w := w) (e := 29) (cs := #[.slice B0 t0.length d0]) (k := w.heap.size) (by simp)).alloc _).alloc _).alloc _)
  have b1 : Has ((((w.alloc (.cells #[.slice B0 t0.length d0] 29)).alloc (.cells #[.int .i64 m1, .slice B1 t1.length d1] 44)).alloc (.cells #[.int .i64 m2, .slice B2 t2.length d2] 46)).alloc (.cells #[.slice B3 t3.length d3] 26)) (w.heap.size + 1) 44 #[.int .i64 m1, .slice B1 t1.length d1] := (((Has.newAt (w := (w.alloc (.cells #[.slice B0 t0.length d0] 29))) (e := 44) (cs := #[.int .i64 m1, .slice B1 t1.length d1]) (k := w.heap.size + 1) (by simp)).alloc _).alloc _)
  have b2 : Has ((((w.alloc (.cells #[.slice B0 t0.length d0] 29)).alloc (.cells #[.int .i64 m1, .slice B1 t1.length d1] 44)).alloc (.cells #[.int .i64 m2, .slice B2 t2.length d2] 46)).alloc (.cells #[.slice B3 t3.length d3] 26)) (w.heap.size + 1 + 1) 46 #[.int .i64 m2, .slice B2 t2.length d2] := ((Has.newAt (w := ((w.alloc (.cells #[.slice B0 t0.length d0] 29)).alloc (.cells #[.int .i64 m1, .slice B1 t1.length d1] 44))) (e := 46) (cs := #[.int .i64 m2, .slice B2 t2.length d2]) (k := w.heap.size + 1 + 1) (by simp)).alloc _)
  have b3 : Has ((((w.alloc (.cells #[.slice B0 t0.length d0] 29)).alloc (.cells #[.int .i64 m1, .slice B1 t1.length d1] 44)).alloc (.cells #[.int .i64 m2, .slice B2 t2.length d2] 46)).alloc (.cells #[.slice B3 t3.length d3] 26)) (w.heap.size + 1 + 1 + 1) 26 #[.slice B3 t3.length d3] := (Has.newAt (w := (((w.alloc (.cells #[.slice B0 t0.length d0] 29)).alloc (.cells #[.int .i64 m1, .slice B1 t1.length d1] 44)).alloc (.cells #[.int .i64 m2, .slice B2 t2.length d2] 46))) (e := 26) (cs := #[.slice B3 t3.length d3]) (k := w.heap.size + 1 + 1 + 1) (by simp))
  have hmf : ∀ (fn : Fn) (first cap : Array Value) (w : World), (Instr.makeFunc fn first cap).run Tryd.prog w = .ok (.func fn first cap) w := fun _ _ _ _ => rfl
  have hC := isCochain_any B0 B1 B2 t0 m1 t1 m2 t2 d0 d1 d2 _ (hR.ex e0) (hX.ex e0) (hF.ex e0) hs hu hf
  rw [show (gmB t0 m1 t1 && cocB t0.length m1 m2 t2) = gmcB t0 m1 t1 m2 t2 from rfl] at hC
  have HC := Lib.hid hC
  clear hC
  cases hg : gmcB t0 m1 t1 m2 t2 with
  | false =>
    rw [hg] at HC
    have HQ := Lib.hid (vo_no (xs := t3) hg)
    clear hg hR hX hF hL hE
    go_enter Tryd.func30, Tryd.ntmps30
    go_wp2_with fail
    generalize ((((w.alloc (.cells #[.slice B0 t0.length d0] 29)).alloc (.cells #[.int .i64 m1, .slice B1 t1.length d1] 44)).alloc (.cells #[.int .i64 m2, .slice B2 t2.length d2] 46)).alloc (.cells #[.slice B3 t3.length d3] 26)) = W0 at *
    refine HC.out.mono ?_
    rintro e W1 ⟨rfl, he1⟩
    have HE1 := Lib.hid (e0.trans he1)
    clear b0 b1 b2 b3 e0 he1
    go_wp2_with fail
    go_ret2
    exact ⟨by rw [HQ.out.1, HQ.out.2]; rfl, HE1.out⟩
  | true =>
    rw [hg] at HC
    obtain ⟨M, k, rfl, rfl, hMF, hk3, hlen, h343, hfr⟩ := gmc_facts hg
    have hN8 := hMF.g.n8
    have hN1 := hMF.g.n1
    cases hli : lisB t0.length k t3 with
    | true =>
      have hl2 : t3.length = k ∧ belowB (t0.length : Int) t3 = true := by
        simp only [lisB, Bool.and_eq_true, decide_eq_true_eq] at hli
        exact hli
      have HQ := Lib.hid (vo_yes hg hli)
      have HDO := Lib.hid (fun W (he : Ex _ W) => door_yes #[.pointer (some ⟨w.heap.size, 0, none⟩), .pointer (some ⟨w.heap.size + 1 + 1, 0, none⟩), .pointer (some ⟨w.heap.size + 1 + 1 + 1, 0, none⟩)] (valR t0.length t2 t3) W
        (fun W' he' => vclo_yes _ _ _ B0 B2 B3 k t0.length t2 t3 d0 d2 d3 W' (b0.ex (he.trans he')) (b2.ex (he.trans he')) (b3.ex (he.trans he')) (hF.ex (e0.trans (he.trans he'))) (hL.ex (e0.trans (he.trans he'))) hN8 hN1 (by omega) hl2.1 hlen hl2.2))
      obtain ⟨v, hv⟩ : ∃ v, valR t0.length t2 t3 = v := ⟨_, rfl⟩
      rw [hv] at HQ HDO
      clear hg hR hX hF hL hE hMF hs hu hf hlen hfr hli hl2 hv
      go_enter Tryd.func30, Tryd.ntmps30
      go_wp2_with fail
      generalize ((((w.alloc (.cells #[.slice B0 t0.length d0] 29)).alloc (.cells #[.int .i64 (M : Int), .slice B1 t1.length d1] 44)).alloc (.cells #[.int .i64 (k : Int), .slice B2 t2.length d2] 46)).alloc (.cells #[.slice B3 t3.length d3] 26)) = W0 at *
      refine HC.out.mono ?_
      rintro e W1 ⟨rfl, he1⟩
      have HE1 := Lib.hid (e0.trans he1)
      have HDO1 := Lib.hid (HDO.out W1 he1)
      clear b0 b1 b2 b3 e0 he1 HDO
      go_wp2_with fail
      refine HDO1.out.mono ?_
      rintro e W2 ⟨rfl, he2⟩
      have HE2 := Lib.hid (HE1.out.trans he2)
      clear he2
      go_wp2_with fail
      go_ret2
      exact ⟨by rw [HQ.out.1, HQ.out.2]; rfl, HE2.out⟩
    | false =>
      have HQ := Lib.hid (vo_out hg hli)
      have HDO := Lib.hid (fun W (he : Ex _ W) => door_no #[.pointer (some ⟨w.heap.size, 0, none⟩), .pointer (some ⟨w.heap.size + 1 + 1, 0, none⟩), .pointer (some ⟨w.heap.size + 1 + 1 + 1, 0, none⟩)] W
        (fun W' he' => vclo_no _ _ _ B0 B2 B3 k t0.length t2.length t3 d0 d2 d3 W' (b0.ex (he.trans he')) (b2.ex (he.trans he')) (b3.ex (he.trans he')) (hL.ex (e0.trans (he.trans he'))) hN8 hl hli (hE.ex (e0.trans (he.trans he')))))
      clear hg hR hX hF hL hE hMF hs hu hf hlen hfr hli
      go_enter Tryd.func30, Tryd.ntmps30
      go_wp2_with fail
      generalize ((((w.alloc (.cells #[.slice B0 t0.length d0] 29)).alloc (.cells #[.int .i64 (M : Int), .slice B1 t1.length d1] 44)).alloc (.cells #[.int .i64 (k : Int), .slice B2 t2.length d2] 46)).alloc (.cells #[.slice B3 t3.length d3] 26)) = W0 at *
      refine HC.out.mono ?_
      rintro e W1 ⟨rfl, he1⟩
      have HE1 := Lib.hid (e0.trans he1)
      have HDO1 := Lib.hid (HDO.out W1 he1)
      clear b0 b1 b2 b3 e0 he1 HDO
      go_wp2_with fail
      refine HDO1.out.mono ?_
      rintro e W2 ⟨rfl, he2⟩
      have HE2 := Lib.hid (HE1.out.trans he2)
      clear he2
      go_wp2_with fail
      go_ret2
      exact ⟨by rw [HQ.out.1, HQ.out.2]; rfl, HE2.out⟩

end Go.Proofs.YtdehalkebneaoaaDoor
