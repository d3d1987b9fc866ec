/- Products, inverses and orders of pairs: both contracts. -/
import Derived.Test.YtfafccldngekgaaQa
import Derived.Test.YtfafccldngekgaaQt
import Derived.Test.YtfafccldngekgaaQb
namespace Go.Proofs.Ytfafccldngekgaa
open Go.RowKit

noncomputable def qPairProduct0 (t : List (List Int)) (m : Int) (us : List Int) (p q : Int) : Int := if prC t m us [p, q] = 0 then (pairV t m.toNat us p.toNat q.toNat : Int) else 0
noncomputable def qPairProduct1 (t : List (List Int)) (m : Int) (us : List Int) (p q : Int) : Int := prC t m us [p, q]
noncomputable def qPairInverse0 (t : List (List Int)) (m : Int) (us : List Int) (p : Int) : Int := if prC t m us [p] = 0 then (pairI t m.toNat us p.toNat : Int) else 0
noncomputable def qPairInverse1 (t : List (List Int)) (m : Int) (us : List Int) (p : Int) : Int := prC t m us [p]
noncomputable def qPairOrder0 (t : List (List Int)) (m : Int) (us : List Int) (p : Int) : Int := if prC t m us [p] = 0 then ((ordP t m.toNat us p.toNat + 1 : Nat) : Int) else 0
noncomputable def qPairOrder1 (t : List (List Int)) (m : Int) (us : List Int) (p : Int) : Int := prC t m us [p]

theorem ints_one {w : World} {k : Nat} {x : Int} (h : Has w k 2 #[.int .i64 x]) : IntsW w (some ⟨k, 0, none⟩) [x] := .inr ⟨k, 0, rfl, h.lt, fun j hj => by
  obtain rfl : j = 0 := by simp at hj; exact hj
  exact h.cell 0⟩
theorem ints_two {w : World} {k : Nat} {x y : Int} (h : Has w k 2 #[.int .i64 x, .int .i64 y]) : IntsW w (some ⟨k, 0, none⟩) [x, y] := .inr ⟨k, 0, rfl, h.lt, fun j hj => by
  have : j = 0 ∨ j = 1 := by simp at hj; omega
  rcases this with rfl | rfl
  · exact h.cell 0
  · exact h.cell 1⟩
theorem pr_one {t : List (List Int)} {m p : Int} {us : List Int} (h : prC t m us [p] = 0) : ∃ M P : Nat, m = (M : Int) ∧ p = (P : Int) ∧ gmB t (M : Int) us = true ∧ ModF t M us ∧ P < M * t.length := by
  obtain ⟨hg, hb⟩ := prC_zero h
  obtain ⟨M, rfl, hm⟩ := gmB_f hg
  have hp := inB_true (belowB_iff.1 hb 0 (by simp))
  simp only [nth, List.getElem?_cons_zero, Option.getD_some] at hp
  have e : ((M * t.length : Nat) : Int) = (M : Int) * (t.length : Int) := by simp
  exact ⟨M, p.toNat, rfl, by omega, hg, hm, by omega⟩
theorem pr_two {t : List (List Int)} {m p q : Int} {us : List Int} (h : prC t m us [p, q] = 0) : ∃ M P Q : Nat, m = (M : Int) ∧ p = (P : Int) ∧ q = (Q : Int) ∧ gmB t (M : Int) us = true ∧ ModF t M us ∧ P < M * t.length ∧ Q < M * t.length := by
  obtain ⟨hg, hb⟩ := prC_zero h
  obtain ⟨M, rfl, hm⟩ := gmB_f hg
  have hp := inB_true (belowB_iff.1 hb 0 (by simp))
  have hq := inB_true (belowB_iff.1 hb 1 (by simp))
  simp only [nth, List.getElem?_cons_zero, List.getElem?_cons_succ, Option.getD_some] at hp hq
  have e : ((M * t.length : Nat) : Int) = (M : Int) * (t.length : Int) := by simp
  exact ⟨M, p.toNat, q.toNat, rfl, by omega, by omega, hg, hm, by omega, by omega⟩

set_option maxRecDepth 100000 in
set_option maxHeartbeats 4000000 in
theorem specPairProduct_ex (t0 : List (List Int)) (m1 : Int) (t1 : List Int) (m2 m3 : Int) : ∀ (B0 : Option Addr) (d0 : Nat) (B1 : Option Addr) (d1 : Nat) (W : World), RwsW W B0 t0 → IntsW W B1 t1 → SmallT t0 → t1.length ≤ 1048576 →
    Calls Try.prog 31 #[.agg #[.slice B0 t0.length d0], .agg #[.int .i64 m1, .slice B1 t1.length d1], .int .i64 m2, .int .i64 m3] W fun e W' => e = .returned (.tuple #[.int .i64 (qPairProduct0 t0 m1 t1 m2 m3), .int .i64 (qPairProduct1 t0 m1 t1 m2 m3)]) ∧ Ex W W' := by
  intro B0 d0 B1 d1 w hR hX hs hu
  have e0 : Ex w (((w.alloc (.cells #[.slice B0 t0.length d0] 32)).alloc (.cells #[.int .i64 m1, .slice B1 t1.length d1] 34)).alloc (.cells #[.int .i64 m2, .int .i64 m3] 2)) := (((Ex.refl w).alloc _).alloc _).alloc _
  have b0 : Has (((w.alloc (.cells #[.slice B0 t0.length d0] 32)).alloc (.cells #[.int .i64 m1, .slice B1 t1.length d1] 34)).alloc (.cells #[.int .i64 m2, .int .i64 m3] 2)) (w.heap.size) 32 #[.slice B0 t0.length d0] := (((Has.newAt (w := w) (e := 32) (cs := #[.slice B0 t0.length d0]) (k := w.heap.size) (by simp)).alloc _).alloc _)
  have b1 : Has (((w.alloc (.cells #[.slice B0 t0.length d0] 32)).alloc (.cells #[.int .i64 m1, .slice B1 t1.length d1] 34)).alloc (.cells #[.int .i64 m2, .int .i64 m3] 2)) (w.heap.size + 1) 34 #[.int .i64 m1, .slice B1 t1.length d1] := ((Has.newAt (w := (w.alloc (.cells #[.slice B0 t0.length d0] 32))) (e := 34) (cs := #[.int .i64 m1, .slice B1 t1.length d1]) (k := w.heap.size + 1) (by simp)).alloc _)
  have b2 : Has (((w.alloc (.cells #[.slice B0 t0.length d0] 32)).alloc (.cells #[.int .i64 m1, .slice B1 t1.length d1] 34)).alloc (.cells #[.int .i64 m2, .int .i64 m3] 2)) (w.heap.size + 1 + 1) 2 #[.int .i64 m2, .int .i64 m3] := (Has.newAt (w := ((w.alloc (.cells #[.slice B0 t0.length d0] 32)).alloc (.cells #[.int .i64 m1, .slice B1 t1.length d1] 34))) (e := 2) (cs := #[.int .i64 m2, .int .i64 m3]) (k := w.heap.size + 1 + 1) (by simp))
  have HC := Lib.hid (l05Pairs_ex B0 B1 (some ⟨w.heap.size + 1 + 1, 0, none⟩) t0 m1 t1 [m2, m3] d0 d1 2 _ (hR.ex e0) (hX.ex e0) (ints_two b2) hs hu (by simp))
  have HE0 := Lib.hid e0
  by_cases hg : prC t0 m1 t1 [m2, m3] = 0
  · have hgz := hg
    obtain ⟨M, P, Q, rfl, rfl, rfl, -, hm, hp, hq⟩ := pr_two hg
    rw [hg] at HC
    have HT := Lib.hid (fun W (he : Ex w W) => l05Times_any B0 B1 t0 M t1 d0 d1 P Q W (hR.ex he) (hX.ex he) hm hp hq)
    have HQ : Hid (qPairProduct0 t0 (M : Int) t1 (P : Int) (Q : Int) = (pairV t0 M t1 P Q : Int) ∧ qPairProduct1 t0 (M : Int) t1 (P : Int) (Q : Int) = 0) := Lib.hid ⟨by rw [qPairProduct0, if_pos hgz, Int.toNat_natCast, Int.toNat_natCast, Int.toNat_natCast], hgz⟩
    obtain ⟨v, hv⟩ : ∃ v, pairV t0 M t1 P Q = v := ⟨_, rfl⟩
    rw [hv] at HT HQ
    clear hR hX hs hu hg hgz hm hp hq hv
    go_enter Try.func31, Try.ntmps31
    go_wp2_with fail
    generalize (((w.alloc (.cells #[.slice B0 t0.length d0] 32)).alloc (.cells #[.int .i64 (M : Int), .slice B1 t1.length d1] 34)).alloc (.cells #[.int .i64 (P : Int), .int .i64 (Q : Int)] 2)) = W0 at *
    refine HC.out.mono ?_
    rintro e W1 ⟨rfl, he1⟩
    have c0 := (b0.ex he1).cell 0
    have c1 := (b1.ex he1).cell 0
    have c1' := (b1.ex he1).cell 1
    go_wp2_with fail
    refine (HT.out W1 (HE0.out.trans he1)).mono ?_
    rintro e W2 ⟨rfl, he2⟩
    go_wp2_with fail
    go_ret2
    exact ⟨by rw [HQ.out.1, HQ.out.2]; rfl, HE0.out.trans (he1.trans he2)⟩
  · have HQ : Hid (qPairProduct0 t0 m1 t1 m2 m3 = 0 ∧ qPairProduct1 t0 m1 t1 m2 m3 = prC t0 m1 t1 [m2, m3]) := Lib.hid ⟨by rw [qPairProduct0, if_neg hg], rfl⟩
    obtain ⟨z, hz⟩ : ∃ z, prC t0 m1 t1 [m2, m3] = z := ⟨_, rfl⟩
    rw [hz] at HC HQ hg
    have hzb : (z != 0) = true := by simpa using hg
    clear hR hX hg hz
    go_enter Try.func31, Try.ntmps31
    go_wp2_with fail
    generalize (((w.alloc (.cells #[.slice B0 t0.length d0] 32)).alloc (.cells #[.int .i64 m1, .slice B1 t1.length d1] 34)).alloc (.cells #[.int .i64 m2, .int .i64 m3] 2)) = W0 at *
    refine HC.out.mono ?_
    rintro e W1 ⟨rfl, he1⟩
    go_wp2_with fail
    go_ret2
    exact ⟨by rw [HQ.out.1, HQ.out.2]; rfl, HE0.out.trans he1⟩

set_option maxRecDepth 100000 in
set_option maxHeartbeats 4000000 in
theorem implPairProduct_ex (t0 : List (List Int)) (m1 : Int) (t1 : List Int) (m2 m3 : Int) : ∀ (B0 : Option Addr) (d0 : Nat) (B1 : Option Addr) (d1 : Nat) (W : World), RwsW W B0 t0 → IntsW W B1 t1 → SmallT t0 → t1.length ≤ 1048576 →
    Calls Try.prog 32 #[.agg #[.slice B0 t0.length d0], .agg #[.int .i64 m1, .slice B1 t1.length d1], .int .i64 m2, .int .i64 m3] W fun e W' => e = .returned (.tuple #[.int .i64 (qPairProduct0 t0 m1 t1 m2 m3), .int .i64 (qPairProduct1 t0 m1 t1 m2 m3)]) ∧ Ex W W' := by
  intro B0 d0 B1 d1 w hR hX hs hu
  have e0 : Ex w (((w.alloc (.cells #[.slice B0 t0.length d0] 32)).alloc (.cells #[.int .i64 m1, .slice B1 t1.length d1] 34)).alloc (.cells #[.int .i64 m2, .int .i64 m3] 2)) := (((Ex.refl w).alloc _).alloc _).alloc _
  have b0 : Has (((w.alloc (.cells #[.slice B0 t0.length d0] 32)).alloc (.cells #[.int .i64 m1, .slice B1 t1.length d1] 34)).alloc (.cells #[.int .i64 m2, .int .i64 m3] 2)) (w.heap.size) 32 #[.slice B0 t0.length d0] := (((Has.newAt (w := w) (e := 32) (cs := #[.slice B0 t0.length d0]) (k := w.heap.size) (by simp)).alloc _).alloc _)
  have b1 : Has (((w.alloc (.cells #[.slice B0 t0.length d0] 32)).alloc (.cells #[.int .i64 m1, .slice B1 t1.length d1] 34)).alloc (.cells #[.int .i64 m2, .int .i64 m3] 2)) (w.heap.size + 1) 34 #[.int .i64 m1, .slice B1 t1.length d1] := ((Has.newAt (w := (w.alloc (.cells #[.slice B0 t0.length d0] 32))) (e := 34) (cs := #[.int .i64 m1, .slice B1 t1.length d1]) (k := w.heap.size + 1) (by simp)).alloc _)
  have b2 : Has (((w.alloc (.cells #[.slice B0 t0.length d0] 32)).alloc (.cells #[.int .i64 m1, .slice B1 t1.length d1] 34)).alloc (.cells #[.int .i64 m2, .int .i64 m3] 2)) (w.heap.size + 1 + 1) 2 #[.int .i64 m2, .int .i64 m3] := (Has.newAt (w := ((w.alloc (.cells #[.slice B0 t0.length d0] 32)).alloc (.cells #[.int .i64 m1, .slice B1 t1.length d1] 34))) (e := 2) (cs := #[.int .i64 m2, .int .i64 m3]) (k := w.heap.size + 1 + 1) (by simp))
  have HC := Lib.hid (pairsCode_ex B0 B1 (some ⟨w.heap.size + 1 + 1, 0, none⟩) t0 m1 t1 [m2, m3] d0 d1 2 _ (hR.ex e0) (hX.ex e0) (ints_two b2) hs hu (by simp))
  have HE0 := Lib.hid e0
  by_cases hg : prC t0 m1 t1 [m2, m3] = 0
  · have hgz := hg
    obtain ⟨M, P, Q, rfl, rfl, rfl, -, hm, hp, hq⟩ := pr_two hg
    rw [hg] at HC
    have HT := Lib.hid (fun W (he : Ex w W) => pairProduct_any B0 B1 t0 M t1 d0 d1 P Q W (hR.ex he) (hX.ex he) hm hp hq)
    have HQ : Hid (qPairProduct0 t0 (M : Int) t1 (P : Int) (Q : Int) = (pairV t0 M t1 P Q : Int) ∧ qPairProduct1 t0 (M : Int) t1 (P : Int) (Q : Int) = 0) := Lib.hid ⟨by rw [qPairProduct0, if_pos hgz, Int.toNat_natCast, Int.toNat_natCast, Int.toNat_natCast], hgz⟩
    obtain ⟨v, hv⟩ : ∃ v, pairV t0 M t1 P Q = v := ⟨_, rfl⟩
    rw [hv] at HT HQ
    clear hR hX hs hu hg hgz hm hp hq hv
    go_enter Try.func32, Try.ntmps32
    go_wp2_with fail
    generalize (((w.alloc (.cells #[.slice B0 t0.length d0] 32)).alloc (.cells #[.int .i64 (M : Int), .slice B1 t1.length d1] 34)).alloc (.cells #[.int .i64 (P : Int), .int .i64 (Q : Int)] 2)) = W0 at *
    refine HC.out.mono ?_
    rintro e W1 ⟨rfl, he1⟩
    have c0 := (b0.ex he1).cell 0
    have c1 := (b1.ex he1).cell 0
    have c1' := (b1.ex he1).cell 1
    go_wp2_with fail
    refine (HT.out W1 (HE0.out.trans he1)).mono ?_
    rintro e W2 ⟨rfl, he2⟩
    go_wp2_with fail
    go_ret2
    exact ⟨by rw [HQ.out.1, HQ.out.2]; rfl, HE0.out.trans (he1.trans he2)⟩
  · have HQ : Hid (qPairProduct0 t0 m1 t1 m2 m3 = 0 ∧ qPairProduct1 t0 m1 t1 m2 m3 = prC t0 m1 t1 [m2, m3]) := Lib.hid ⟨by rw [qPairProduct0, if_neg hg], rfl⟩
    obtain ⟨z, hz⟩ : ∃ z, prC t0 m1 t1 [m2, m3] = z := ⟨_, rfl⟩
    rw [hz] at HC HQ hg
    have hzb : (z != 0) = true := by simpa using hg
    clear hR hX hg hz
    go_enter Try.func32, Try.ntmps32
    go_wp2_with fail
    generalize (((w.alloc (.cells #[.slice B0 t0.length d0] 32)).alloc (.cells #[.int .i64 m1, .slice B1 t1.length d1] 34)).alloc (.cells #[.int .i64 m2, .int .i64 m3] 2)) = W0 at *
    refine HC.out.mono ?_
    rintro e W1 ⟨rfl, he1⟩
    go_wp2_with fail
    go_ret2
    exact ⟨by rw [HQ.out.1, HQ.out.2]; rfl, HE0.out.trans he1⟩

set_option maxRecDepth 100000 in
set_option maxHeartbeats 4000000 in
theorem specPairOrder_ex (t0 : List (List Int)) (m1 : Int) (t1 : List Int) (m2 : Int) : ∀ (B0 : Option Addr) (d0 : Nat) (B1 : Option Addr) (d1 : Nat) (W : World), RwsW W B0 t0 → IntsW W B1 t1 → SmallT t0 → t1.length ≤ 1048576 →
    Calls Try.prog 35 #[.agg #[.slice B0 t0.length d0], .agg #[.int .i64 m1, .slice B1 t1.length d1], .int .i64 m2] W fun e W' => e = .returned (.tuple #[.int .i64 (qPairOrder0 t0 m1 t1 m2), .int .i64 (qPairOrder1 t0 m1 t1 m2)]) ∧ Ex W W' := by
  intro B0 d0 B1 d1 w hR hX hs hu
  have e0 : Ex w (((w.alloc (.cells #[.slice B0 t0.length d0] 32)).alloc (.cells #[.int .i64 m1, .slice B1 t1.length d1] 34)).alloc (.cells #[.int .i64 m2] 2)) := (((Ex.refl w).alloc _).alloc _).alloc _
  have b0 : Has (((w.alloc (.cells #[.slice B0 t0.length d0] 32)).alloc (.cells #[.int .i64 m1, .slice B1 t1.length d1] 34)).alloc (.cells #[.int .i64 m2] 2)) (w.heap.size) 32 #[.slice B0 t0.length d0] := (((Has.newAt (w := w) (e := 32) (cs := #[.slice B0 t0.length d0]) (k := w.heap.size) (by simp)).alloc _).alloc _)
  have b1 : Has (((w.alloc (.cells #[.slice B0 t0.length d0] 32)).alloc (.cells #[.int .i64 m1, .slice B1 t1.length d1] 34)).alloc (.cells #[.int .i64 m2] 2)) (w.heap.size + 1) 34 #[.int .i64 m1, .slice B1 t1.length d1] := ((Has.newAt (w := (w.alloc (.cells #[.slice B0 t0.length d0] 32))) (e := 34) (cs := #[.int .i64 m1, .slice B1 t1.length d1]) (k := w.heap.size + 1) (by simp)).alloc _)
  have b2 : Has (((w.alloc (.cells #[.slice B0 t0.length d0] 32)).alloc (.cells #[.int .i64 m1, .slice B1 t1.length d1] 34)).alloc (.cells #[.int .i64 m2] 2)) (w.heap.size + 1 + 1) 2 #[.int .i64 m2] := (Has.newAt (w := ((w.alloc (.cells #[.slice B0 t0.length d0] 32)).alloc (.cells #[.int .i64 m1, .slice B1 t1.length d1] 34))) (e := 2) (cs := #[.int .i64 m2]) (k := w.heap.size + 1 + 1) (by simp))
  have HC := Lib.hid (l05Pairs_ex B0 B1 (some ⟨w.heap.size + 1 + 1, 0, none⟩) t0 m1 t1 [m2] d0 d1 1 _ (hR.ex e0) (hX.ex e0) (ints_one b2) hs hu (by simp))
  have HE0 := Lib.hid e0
  by_cases hg : prC t0 m1 t1 [m2] = 0
  · have hgz := hg
    obtain ⟨M, P, rfl, rfl, hgm, hm, hp⟩ := pr_one hg
    rw [hg] at HC
    have hK96 : M * t0.length ≤ 96 := Nat.le_trans (Nat.mul_le_mul hm.m12 hm.g.n8) (by omega)
    obtain ⟨o1, o2, o3⟩ := ordP_spec hgm hm hp
    have HT := Lib.hid (fun k W (he : Ex w W) => l05Times_any B0 B1 t0 M t1 d0 d1 (pqs t0 M t1 P k) P W (hR.ex he) (hX.ex he) hm (pqs_lt hm hp k) hp)
    have HQ : Hid (qPairOrder0 t0 (M : Int) t1 (P : Int) = ((ordP t0 M t1 P + 1 : Nat) : Int) ∧ qPairOrder1 t0 (M : Int) t1 (P : Int) = 0) := Lib.hid ⟨by rw [qPairOrder0, if_pos hgz, Int.toNat_natCast, Int.toNat_natCast], hgz⟩
    have HT : Hid (∀ k W, Ex w W → Calls Try.prog 68 #[.agg #[.slice B0 t0.length d0], .agg #[.int .i64 (M : Int), .slice B1 t1.length d1], .int .i64 (pqs t0 M t1 P k : Int), .int .i64 (P : Int)] W fun e w' => e = .returned (.int .i64 (pqs t0 M t1 P (k + 1) : Int)) ∧ Ex W w') := HT
    have HP0 : Hid ((P : Int) = (pqs t0 M t1 P 0 : Int)) := Lib.hid rfl
    obtain ⟨g, hgf⟩ : ∃ g, pqs t0 M t1 P = g := ⟨_, rfl⟩
    rw [hgf] at HT HP0 o2 o3
    obtain ⟨O, hO⟩ : ∃ O, ordP t0 M t1 P = O := ⟨_, rfl⟩
    rw [hO] at HQ o1 o2 o3
    have HO2 := Lib.hid o2
    have HO3 := Lib.hid o3
    have hO96 : O ≤ 96 := by omega
    clear hR hX hs hu hg hgz hm hp hgf hO hgm o1 o2 o3 hK96
    go_enter Try.func35, Try.ntmps35
    go_wp2_with fail
    generalize (((w.alloc (.cells #[.slice B0 t0.length d0] 32)).alloc (.cells #[.int .i64 (M : Int), .slice B1 t1.length d1] 34)).alloc (.cells #[.int .i64 (P : Int)] 2)) = W0 at *
    refine HC.out.mono ?_
    rintro e W1 ⟨rfl, he1⟩
    have HE1 := Lib.hid (HE0.out.trans he1)
    have HB0 := Lib.hid (b0.ex he1)
    have HB1 := Lib.hid (b1.ex he1)
    clear b0 b1 b2 e0 he1
    go_wp2_with fail
    go_loopw [9, 10] (fun k v wr => ∃ i : Nat, i ≤ O ∧ k = .int .i64 ((i : Int) + 1) ∧ v = .int .i64 (g i : Int) ∧ Hid (Ex W1 wr)) (fun k _ _ => O + 1 - (intOf k).toNat)
    case atStart => exact ⟨0, Nat.zero_le _, rfl, by rw [HP0.out], Lib.hid (Ex.refl _)⟩
    case round =>
      obtain ⟨i, hi, rfl, rfl, HE⟩ := hrel
      have hwn : IntKind.i64.wrap ((i : Int) + 1 + 1) = (i : Int) + 1 + 1 := IntWalk.i64_in _ (by omega)
      by_cases hlt : i < O
      · have c0 := (HB0.out.ex HE.out).cell 0
        have c1 := (HB1.out.ex HE.out).cell 0
        have c1' := (HB1.out.ex HE.out).cell 1
        have hne : ((g i : Int) != 0) = true := by have := HO3.out i hlt; simpa using this
        go_wp2_with fail
        refine (HT.out i _ (HE1.out.trans HE.out)).mono ?_
        rintro e wn ⟨rfl, hen⟩
        have HEN := Lib.hid (HE.out.trans hen)
        clear hen
        go_wp2_with fail
        go_roundw
        case rel => exact ⟨i + 1, by omega, by go_num, rfl, HEN⟩
        case measure => simp [intOf]; omega
      · obtain rfl : i = O := by omega
        have hne : ((g i : Int) != 0) = false := by rw [HO2.out]; rfl
        go_wp2_with fail
        go_ret2
        exact ⟨by rw [HQ.out.1, HQ.out.2]; rfl, HE1.out.trans HE.out⟩
  · have HQ : Hid (qPairOrder0 t0 m1 t1 m2 = 0 ∧ qPairOrder1 t0 m1 t1 m2 = prC t0 m1 t1 [m2]) := Lib.hid ⟨by rw [qPairOrder0, if_neg hg], rfl⟩
    obtain ⟨z, hz⟩ : ∃ z, prC t0 m1 t1 [m2] = z := ⟨_, rfl⟩
    rw [hz] at HC HQ hg
    have hzb : (z != 0) = true := by simpa using hg
    clear hR hX hg hz
    go_enter Try.func35, Try.ntmps35
    go_wp2_with fail
    generalize (((w.alloc (.cells #[.slice B0 t0.length d0] 32)).alloc (.cells #[.int .i64 m1, .slice B1 t1.length d1] 34)).alloc (.cells #[.int .i64 m2] 2)) = W0 at *
    refine HC.out.mono ?_
    rintro e W1 ⟨rfl, he1⟩
    go_wp2_with fail
    go_ret2
    exact ⟨by rw [HQ.out.1, HQ.out.2]; rfl, HE0.out.trans he1⟩

set_option maxRecDepth 100000 in
set_option maxHeartbeats 4000000 in
theorem implPairOrder_ex (t0 : List (List Int)) (m1 : Int) (t1 : List Int) (m2 : Int) : ∀ (B0 : Option Addr) (d0 : Nat) (B1 : Option Addr) (d1 : Nat) (W : World), RwsW W B0 t0 → IntsW W B1 t1 → SmallT t0 → t1.length ≤ 1048576 →
    Calls Try.prog 36 #[.agg #[.slice B0 t0.length d0], .agg #[.int .i64 m1, .slice B1 t1.length d1], .int .i64 m2] W fun e W' => e = .returned (.tuple #[.int .i64 (qPairOrder0 t0 m1 t1 m2), .int .i64 (qPairOrder1 t0 m1 t1 m2)]) ∧ Ex W W' := by
  intro B0 d0 B1 d1 w hR hX hs hu
  have e0 : Ex w (((w.alloc (.cells #[.slice B0 t0.length d0] 32)).alloc (.cells #[.int .i64 m1, .slice B1 t1.length d1] 34)).alloc (.cells #[.int .i64 m2] 2)) := (((Ex.refl w).alloc _).alloc _).alloc _
  have b0 : Has (((w.alloc (.cells #[.slice B0 t0.length d0] 32)).alloc (.cells #[.int .i64 m1, .slice B1 t1.length d1] 34)).alloc (.cells #[.int .i64 m2] 2)) (w.heap.size) 32 #[.slice B0 t0.length d0] := (((Has.newAt (w := w) (e := 32) (cs := #[.slice B0 t0.length d0]) (k := w.heap.size) (by simp)).alloc _).alloc _)
  have b1 : Has (((w.alloc (.cells #[.slice B0 t0.length d0] 32)).alloc (.cells #[.int .i64 m1, .slice B1 t1.length d1] 34)).alloc (.cells #[.int .i64 m2] 2)) (w.heap.size + 1) 34 #[.int .i64 m1, .slice B1 t1.length d1] := ((Has.newAt (w := (w.alloc (.cells #[.slice B0 t0.length d0] 32))) (e := 34) (cs := #[.int .i64 m1, .slice B1 t1.length d1]) (k := w.heap.size + 1) (by simp)).alloc _)
  have b2 : Has (((w.alloc (.cells #[.slice B0 t0.length d0] 32)).alloc (.cells #[.int .i64 m1, .slice B1 t1.length d1] 34)).alloc (.cells #[.int .i64 m2] 2)) (w.heap.size + 1 + 1) 2 #[.int .i64 m2] := (Has.newAt (w := ((w.alloc (.cells #[.slice B0 t0.length d0] 32)).alloc (.cells #[.int .i64 m1, .slice B1 t1.length d1] 34))) (e := 2) (cs := #[.int .i64 m2]) (k := w.heap.size + 1 + 1) (by simp))
  have HC := Lib.hid (pairsCode_ex B0 B1 (some ⟨w.heap.size + 1 + 1, 0, none⟩) t0 m1 t1 [m2] d0 d1 1 _ (hR.ex e0) (hX.ex e0) (ints_one b2) hs hu (by simp))
  have HE0 := Lib.hid e0
  by_cases hg : prC t0 m1 t1 [m2] = 0
  · have hgz := hg
    obtain ⟨M, P, rfl, rfl, hgm, hm, hp⟩ := pr_one hg
    rw [hg] at HC
    have hK96 : M * t0.length ≤ 96 := Nat.le_trans (Nat.mul_le_mul hm.m12 hm.g.n8) (by omega)
    obtain ⟨o1, o2, o3⟩ := ordP_spec hgm hm hp
    have HT := Lib.hid (fun k W (he : Ex w W) => pairProduct_any B0 B1 t0 M t1 d0 d1 (pqs t0 M t1 P k) P W (hR.ex he) (hX.ex he) hm (pqs_lt hm hp k) hp)
    have HQ : Hid (qPairOrder0 t0 (M : Int) t1 (P : Int) = ((ordP t0 M t1 P + 1 : Nat) : Int) ∧ qPairOrder1 t0 (M : Int) t1 (P : Int) = 0) := Lib.hid ⟨by rw [qPairOrder0, if_pos hgz, Int.toNat_natCast, Int.toNat_natCast], hgz⟩
    have HT : Hid (∀ k W, Ex w W → Calls Try.prog 70 #[.agg #[.slice B0 t0.length d0], .agg #[.int .i64 (M : Int), .slice B1 t1.length d1], .int .i64 (pqs t0 M t1 P k : Int), .int .i64 (P : Int)] W fun e w' => e = .returned (.int .i64 (pqs t0 M t1 P (k + 1) : Int)) ∧ Ex W w') := HT
    have HP0 : Hid ((P : Int) = (pqs t0 M t1 P 0 : Int)) := Lib.hid rfl
    obtain ⟨g, hgf⟩ : ∃ g, pqs t0 M t1 P = g := ⟨_, rfl⟩
    rw [hgf] at HT HP0 o2 o3
    obtain ⟨O, hO⟩ : ∃ O, ordP t0 M t1 P = O := ⟨_, rfl⟩
    rw [hO] at HQ o1 o2 o3
    have HO2 := Lib.hid o2
    have HO3 := Lib.hid o3
    have hO96 : O ≤ 96 := by omega
    clear hR hX hs hu hg hgz hm hp hgf hO hgm o1 o2 o3 hK96
    go_enter Try.func36, Try.ntmps36
    go_wp2_with fail
    generalize (((w.alloc (.cells #[.slice B0 t0.length d0] 32)).alloc (.cells #[.int .i64 (M : Int), .slice B1 t1.length d1] 34)).alloc (.cells #[.int .i64 (P : Int)] 2)) = W0 at *
    refine HC.out.mono ?_
    rintro e W1 ⟨rfl, he1⟩
    have HE1 := Lib.hid (HE0.out.trans he1)
    have HB0 := Lib.hid (b0.ex he1)
    have HB1 := Lib.hid (b1.ex he1)
    clear b0 b1 b2 e0 he1
    go_wp2_with fail
    go_loopw [9, 10] (fun k v wr => ∃ i : Nat, i ≤ O ∧ k = .int .i64 ((i : Int) + 1) ∧ v = .int .i64 (g i : Int) ∧ Hid (Ex W1 wr)) (fun k _ _ => O + 1 - (intOf k).toNat)
    case atStart => exact ⟨0, Nat.zero_le _, rfl, by rw [HP0.out], Lib.hid (Ex.refl _)⟩
    case round =>
      obtain ⟨i, hi, rfl, rfl, HE⟩ := hrel
      have hwn : IntKind.i64.wrap ((i : Int) + 1 + 1) = (i : Int) + 1 + 1 := IntWalk.i64_in _ (by omega)
      by_cases hlt : i < O
      · have c0 := (HB0.out.ex HE.out).cell 0
        have c1 := (HB1.out.ex HE.out).cell 0
        have c1' := (HB1.out.ex HE.out).cell 1
        have hne : ((g i : Int) != 0) = true := by have := HO3.out i hlt; simpa using this
        go_wp2_with fail
        refine (HT.out i _ (HE1.out.trans HE.out)).mono ?_
        rintro e wn ⟨rfl, hen⟩
        have HEN := Lib.hid (HE.out.trans hen)
        clear hen
        go_wp2_with fail
        go_roundw
        case rel => exact ⟨i + 1, by omega, by go_num, rfl, HEN⟩
        case measure => simp [intOf]; omega
      · obtain rfl : i = O := by omega
        have hne : ((g i : Int) != 0) = false := by rw [HO2.out]; rfl
        go_wp2_with fail
        go_ret2
        exact ⟨by rw [HQ.out.1, HQ.out.2]; rfl, HE1.out.trans HE.out⟩
  · have HQ : Hid (qPairOrder0 t0 m1 t1 m2 = 0 ∧ qPairOrder1 t0 m1 t1 m2 = prC t0 m1 t1 [m2]) := Lib.hid ⟨by rw [qPairOrder0, if_neg hg], rfl⟩
    obtain ⟨z, hz⟩ : ∃ z, prC t0 m1 t1 [m2] = z := ⟨_, rfl⟩
    rw [hz] at HC HQ hg
    have hzb : (z != 0) = true := by simpa using hg
    clear hR hX hg hz
    go_enter Try.func36, Try.ntmps36
    go_wp2_with fail
    generalize (((w.alloc (.cells #[.slice B0 t0.length d0] 32)).alloc (.cells #[.int .i64 m1, .slice B1 t1.length d1] 34)).alloc (.cells #[.int .i64 m2] 2)) = W0 at *
    refine HC.out.mono ?_
    rintro e W1 ⟨rfl, he1⟩
    go_wp2_with fail
    go_ret2
    exact ⟨by rw [HQ.out.1, HQ.out.2]; rfl, HE0.out.trans he1⟩

end Go.Proofs.Ytfafccldngekgaa
