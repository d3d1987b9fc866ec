/- IsCrossed: both contracts. -/
import Derived.Test.YtfafccldngekgaaCa
import Derived.Test.YtfafccldngekgaaCb
namespace Go.Proofs.Ytfafccldngekgaa
open Go.RowKit

noncomputable def qIsCrossed0 (t : List (List Int)) (m : Int) (us fs : List Int) : Bool := if ncC t m us fs = 0 then crsB t m.toNat us fs else false
noncomputable def qIsCrossed1 (t : List (List Int)) (m : Int) (us fs : List Int) : Int := ncC t m us fs

set_option maxHeartbeats 1000000 in
theorem specIsCrossed_ex (t0 : List (List Int)) (m1 : Int) (t1 : List Int) (t2 : List Int) : ∀ (B0 : Option Addr) (d0 : Nat) (B1 : Option Addr) (d1 : Nat) (B2 : Option Addr) (d2 : Nat) (W : World), RwsW W B0 t0 → IntsW W B1 t1 → IntsW W B2 t2 → SmallT t0 → t1.length ≤ 1048576 → t2.length ≤ 1048576 →
    Calls Try.prog 17 #[.agg #[.slice B0 t0.length d0], .agg #[.int .i64 m1, .slice B1 t1.length d1], .slice B2 t2.length d2] W fun e W' => e = .returned (.tuple #[.bool (qIsCrossed0 t0 m1 t1 t2), .int .i64 (qIsCrossed1 t0 m1 t1 t2)]) ∧ Ex W W' := by
  intro B0 d0 B1 d1 B2 d2 w hR hX hF hs hu hf
  have e0 : Ex w ((w.alloc (.cells #[.slice B0 t0.length d0] 32)).alloc (.cells #[.int .i64 m1, .slice B1 t1.length d1] 34)) := ((Ex.refl w).alloc _).alloc _
  have b0 : Has ((w.alloc (.cells #[.slice B0 t0.length d0] 32)).alloc (.cells #[.int .i64 m1, .slice B1 t1.length d1] 34)) (w.heap.size) 32 #[.slice B0 t0.length d0] := ((Has.newAt (w := w) (e := 32) (cs := #[.slice B0 t0.length d0]) (k := w.heap.size) (by simp)).alloc _)
  have b1 : Has ((w.alloc (.cells #[.slice B0 t0.length d0] 32)).alloc (.cells #[.int .i64 m1, .slice B1 t1.length d1] 34)) (w.heap.size + 1) 34 #[.int .i64 m1, .slice B1 t1.length d1] := (Has.newAt (w := (w.alloc (.cells #[.slice B0 t0.length d0] 32))) (e := 34) (cs := #[.int .i64 m1, .slice B1 t1.length d1]) (k := w.heap.size + 1) (by simp))
  have HC := Lib.hid (l05Code_ex B0 B1 B2 t0 m1 t1 t2 d0 d1 d2 _ (hR.ex e0) (hX.ex e0) (hF.ex e0) hs hu hf)
  have HE0 := Lib.hid e0
  by_cases hg : ncC t0 m1 t1 t2 = 0
  · obtain ⟨hg1, hg2⟩ := ncC_zero hg
    rw [hg] at HC
    obtain ⟨M, rfl, hMF⟩ := gmB_f hg1
    obtain ⟨hl, hr⟩ := numB_true hg2
    have HT := Lib.hid (fun W (he : Ex w W) => l05Crossed_any B0 B1 B2 t0 M t1 t2 d0 d1 d2 W (hR.ex he) (hX.ex he) (hF.ex he) hMF hl hr)
    have HQ : Hid (qIsCrossed0 t0 (M : Int) t1 t2 = crsB t0 M t1 t2 ∧ qIsCrossed1 t0 (M : Int) t1 t2 = 0) := Lib.hid ⟨by rw [qIsCrossed0, if_pos hg, Int.toNat_natCast], hg⟩
    obtain ⟨bv, hbv⟩ : ∃ b, crsB t0 M t1 t2 = b := ⟨_, rfl⟩
    rw [hbv] at HT HQ
    clear hR hX hF hs hu hg hg1 hg2 hMF hr hbv hl
    go_enter Try.func17, Try.ntmps17
    go_wp2_with fail
    generalize ((w.alloc (.cells #[.slice B0 t0.length d0] 32)).alloc (.cells #[.int .i64 (M : Int), .slice B1 t1.length d1] 34)) = W0 at *
    refine HC.out.mono ?_
    rintro e W1 ⟨rfl, he1⟩
    have c0 := (b0.ex he1).cell 0
    have c1 := (b1.ex he1).cell 0
    have c1' := (b1.ex he1).cell 1
    go_wp2_with fail
    refine (HT.out W1 (HE0.out.trans he1)).mono ?_
    rintro e W2 ⟨rfl, he2⟩
    go_wp2_with fail
    go_ret2
    exact ⟨by rw [HQ.out.1, HQ.out.2]; rfl, HE0.out.trans (he1.trans he2)⟩
  · have HQ : Hid (qIsCrossed0 t0 m1 t1 t2 = false ∧ qIsCrossed1 t0 m1 t1 t2 = ncC t0 m1 t1 t2) := Lib.hid ⟨by rw [qIsCrossed0, if_neg hg], rfl⟩
    obtain ⟨z, hz⟩ : ∃ z, ncC t0 m1 t1 t2 = z := ⟨_, rfl⟩
    rw [hz] at HC HQ hg
    have hzb : (z != 0) = true := by simpa using hg
    clear hR hX hF hg hz
    go_enter Try.func17, Try.ntmps17
    go_wp2_with fail
    generalize ((w.alloc (.cells #[.slice B0 t0.length d0] 32)).alloc (.cells #[.int .i64 m1, .slice B1 t1.length d1] 34)) = W0 at *
    refine HC.out.mono ?_
    rintro e W1 ⟨rfl, he1⟩
    go_wp2_with fail
    go_ret2
    exact ⟨by rw [HQ.out.1, HQ.out.2]; rfl, HE0.out.trans he1⟩

set_option maxHeartbeats 1000000 in
theorem implIsCrossed_ex (t0 : List (List Int)) (m1 : Int) (t1 : List Int) (t2 : List Int) : ∀ (B0 : Option Addr) (d0 : Nat) (B1 : Option Addr) (d1 : Nat) (B2 : Option Addr) (d2 : Nat) (W : World), RwsW W B0 t0 → IntsW W B1 t1 → IntsW W B2 t2 → SmallT t0 → t1.length ≤ 1048576 → t2.length ≤ 1048576 →
    Calls Try.prog 21 #[.agg #[.slice B0 t0.length d0], .agg #[.int .i64 m1, .slice B1 t1.length d1], .slice B2 t2.length d2] W fun e W' => e = .returned (.tuple #[.bool (qIsCrossed0 t0 m1 t1 t2), .int .i64 (qIsCrossed1 t0 m1 t1 t2)]) ∧ Ex W W' := by
  intro B0 d0 B1 d1 B2 d2 w hR hX hF hs hu hf
  have e0 : Ex w ((w.alloc (.cells #[.slice B0 t0.length d0] 32)).alloc (.cells #[.int .i64 m1, .slice B1 t1.length d1] 34)) := ((Ex.refl w).alloc _).alloc _
  have b0 : Has ((w.alloc (.cells #[.slice B0 t0.length d0] 32)).alloc (.cells #[.int .i64 m1, .slice B1 t1.length d1] 34)) (w.heap.size) 32 #[.slice B0 t0.length d0] := ((Has.newAt (w := w) (e := 32) (cs := #[.slice B0 t0.length d0]) (k := w.heap.size) (by simp)).alloc _)
  have b1 : Has ((w.alloc (.cells #[.slice B0 t0.length d0] 32)).alloc (.cells #[.int .i64 m1, .slice B1 t1.length d1] 34)) (w.heap.size + 1) 34 #[.int .i64 m1, .slice B1 t1.length d1] := (Has.newAt (w := (w.alloc (.cells #[.slice B0 t0.length d0] 32))) (e := 34) (cs := #[.int .i64 m1, .slice B1 t1.length d1]) (k := w.heap.size + 1) (by simp))
  have HC := Lib.hid (listCode_ex B0 B1 B2 t0 m1 t1 t2 d0 d1 d2 _ (hR.ex e0) (hX.ex e0) (hF.ex e0) hs hu hf)
  have HE0 := Lib.hid e0
  by_cases hg : ncC t0 m1 t1 t2 = 0
  · obtain ⟨hg1, hg2⟩ := ncC_zero hg
    rw [hg] at HC
    obtain ⟨M, rfl, hMF⟩ := gmB_f hg1
    obtain ⟨hl, hr⟩ := numB_true hg2
    have HT := Lib.hid (fun W (he : Ex w W) => isCrossed_any B0 B1 B2 t0 M t1 t2 d0 d1 d2 W (hR.ex he) (hX.ex he) (hF.ex he) hMF hl hr)
    have HQ : Hid (qIsCrossed0 t0 (M : Int) t1 t2 = crsB t0 M t1 t2 ∧ qIsCrossed1 t0 (M : Int) t1 t2 = 0) := Lib.hid ⟨by rw [qIsCrossed0, if_pos hg, Int.toNat_natCast], hg⟩
    obtain ⟨bv, hbv⟩ : ∃ b, crsB t0 M t1 t2 = b := ⟨_, rfl⟩
    rw [hbv] at HT HQ
    clear hR hX hF hs hu hg hg1 hg2 hMF hr hbv hl
    go_enter Try.func21, Try.ntmps21
    go_wp2_with fail
    generalize ((w.alloc (.cells #[.slice B0 t0.length d0] 32)).alloc (.cells #[.int .i64 (M : Int), .slice B1 t1.length d1] 34)) = W0 at *
    refine HC.out.mono ?_
    rintro e W1 ⟨rfl, he1⟩
    have c0 := (b0.ex he1).cell 0
    have c1 := (b1.ex he1).cell 0
    have c1' := (b1.ex he1).cell 1
    go_wp2_with fail
    refine (HT.out W1 (HE0.out.trans he1)).mono ?_
    rintro e W2 ⟨rfl, he2⟩
    go_wp2_with fail
    go_ret2
    exact ⟨by rw [HQ.out.1, HQ.out.2]; rfl, HE0.out.trans (he1.trans he2)⟩
  · have HQ : Hid (qIsCrossed0 t0 m1 t1 t2 = false ∧ qIsCrossed1 t0 m1 t1 t2 = ncC t0 m1 t1 t2) := Lib.hid ⟨by rw [qIsCrossed0, if_neg hg], rfl⟩
    obtain ⟨z, hz⟩ : ∃ z, ncC t0 m1 t1 t2 = z := ⟨_, rfl⟩
    rw [hz] at HC HQ hg
    have hzb : (z != 0) = true := by simpa using hg
    clear hR hX hF hg hz
    go_enter Try.func21, Try.ntmps21
    go_wp2_with fail
    generalize ((w.alloc (.cells #[.slice B0 t0.length d0] 32)).alloc (.cells #[.int .i64 m1, .slice B1 t1.length d1] 34)) = W0 at *
    refine HC.out.mono ?_
    rintro e W1 ⟨rfl, he1⟩
    go_wp2_with fail
    go_ret2
    exact ⟨by rw [HQ.out.1, HQ.out.2]; rfl, HE0.out.trans he1⟩

end Go.Proofs.Ytfafccldngekgaa
