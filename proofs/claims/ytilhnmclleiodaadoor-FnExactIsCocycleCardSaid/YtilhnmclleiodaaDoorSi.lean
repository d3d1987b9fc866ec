/- IsCocycle: the model, both contracts. -/
import Derived.Test.YtilhnmclleiodaaDoorBv
import Derived.Test.YtilhnmclleiodaaDoorSh
import Derived.Test.YtilhnmclleiodaaDoorFdc
namespace Go.Proofs.YtilhnmclleiodaaDoor
open Go.RowKit

noncomputable def qIsCocycle0 (t : List (List Int)) (m : Int) (us : List Int) (n : Int) (fs : List Int) : Bool := if gmcB t m us n fs = true then cyB t m.toNat n.toNat us fs else false
noncomputable def qIsCocycle1 (t : List (List Int)) (m : Int) (us : List Int) (n : Int) (fs : List Int) : Int := if gmcB t m us n fs = true then 0 else 1
section
variable {t : List (List Int)} {m n : Int} {us fs : List Int}
theorem cy_no (h : gmcB t m us n fs = false) : qIsCocycle0 t m us n fs = false ∧ qIsCocycle1 t m us n fs = 1 := by simp [qIsCocycle0, qIsCocycle1, h]
theorem cy_yes {M d : Nat} (h : gmcB t (M : Int) us (d : Int) fs = true) : qIsCocycle0 t (M : Int) us (d : Int) fs = cyB t M d us fs ∧ qIsCocycle1 t (M : Int) us (d : Int) fs = 0 := by
  simp [qIsCocycle0, qIsCocycle1, h]
end

set_option maxRecDepth 100000 in
set_option maxHeartbeats 4000000 in
theorem implIsCocycle_ex (t0 : List (List Int)) (m1 : Int) (t1 : List Int) (m2 : Int) (t2 : List Int) : ∀ (B0 : Option Addr) (d0 : Nat) (B1 : Option Addr) (d1 : Nat) (B2 : Option Addr) (d2 : Nat) (W : World), RwsW W B0 t0 → IntsW W B1 t1 → IntsW W B2 t2 → SmallT t0 → t1.length ≤ 1048576 → t2.length ≤ 1048576 →
    Calls Tryd.prog 35 #[.agg #[.slice B0 t0.length d0], .agg #[.int .i64 m1, .slice B1 t1.length d1], .agg #[.int .i64 m2, .slice B2 t2.length d2]] W fun e W' => e = .returned (.tuple #[.bool (qIsCocycle0 t0 m1 t1 m2 t2), .int .i64 (qIsCocycle1 t0 m1 t1 m2 t2)]) ∧ Ex W W' := by
  intro B0 d0 B1 d1 B2 d2 w hR hX hF hs hu hf
  have e0 : Ex w (((w.alloc (.cells #[.slice B0 t0.length d0] 31)).alloc (.cells #[.int .i64 m1, .slice B1 t1.length d1] 28)).alloc (.cells #[.int .i64 m2, .slice B2 t2.length d2] 43)) := (((Ex.refl w).alloc _).alloc _).alloc _
  have b0 : Has (((w.alloc (.cells #[.slice B0 t0.length d0] 31)).alloc (.cells #[.int .i64 m1, .slice B1 t1.length d1] 28)).alloc (.cells #[.int .i64 m2, .slice B2 t2.length d2] 43)) (w.heap.size) 31 #[.slice B0 t0.length d0] := (((Has.newAt (w := w) (e := 31) (cs := #[.slice B0 t0.length d0]) (k := w.heap.size) (by simp)).alloc _).alloc _)
  have b1 : Has (((w.alloc (.cells #[.slice B0 t0.length d0] 31)).alloc (.cells #[.int .i64 m1, .slice B1 t1.length d1] 28)).alloc (.cells #[.int .i64 m2, .slice B2 t2.length d2] 43)) (w.heap.size + 1) 28 #[.int .i64 m1, .slice B1 t1.length d1] := ((Has.newAt (w := (w.alloc (.cells #[.slice B0 t0.length d0] 31))) (e := 28) (cs := #[.int .i64 m1, .slice B1 t1.length d1]) (k := w.heap.size + 1) (by simp)).alloc _)
  have b2 : Has (((w.alloc (.cells #[.slice B0 t0.length d0] 31)).alloc (.cells #[.int .i64 m1, .slice B1 t1.length d1] 28)).alloc (.cells #[.int .i64 m2, .slice B2 t2.length d2] 43)) (w.heap.size + 1 + 1) 43 #[.int .i64 m2, .slice B2 t2.length d2] := (Has.newAt (w := ((w.alloc (.cells #[.slice B0 t0.length d0] 31)).alloc (.cells #[.int .i64 m1, .slice B1 t1.length d1] 28))) (e := 43) (cs := #[.int .i64 m2, .slice B2 t2.length d2]) (k := w.heap.size + 1 + 1) (by simp))
  have hC := isCochain_any B0 B1 B2 t0 m1 t1 m2 t2 d0 d1 d2 _ (hR.ex e0) (hX.ex e0) (hF.ex e0) hs hu hf
  rw [show (gmB t0 m1 t1 && cocB t0.length m1 m2 t2) = gmcB t0 m1 t1 m2 t2 from rfl] at hC
  have HC := Lib.hid hC
  clear hC
  cases hg : gmcB t0 m1 t1 m2 t2 with
  | false =>
    rw [hg] at HC
    have HQ := Lib.hid (cy_no hg)
    clear hg hR hX hF
    go_enter Tryd.func35, Tryd.ntmps35
    go_wp2_with fail
    generalize (((w.alloc (.cells #[.slice B0 t0.length d0] 31)).alloc (.cells #[.int .i64 m1, .slice B1 t1.length d1] 28)).alloc (.cells #[.int .i64 m2, .slice B2 t2.length d2] 43)) = W0 at *
    refine HC.out.mono ?_
    rintro e W1 ⟨rfl, he1⟩
    have HE1 := Lib.hid (e0.trans he1)
    clear b0 b1 b2 e0 he1
    go_wp2_with fail
    go_ret2
    exact ⟨by rw [HQ.out.1, HQ.out.2]; rfl, HE1.out⟩
  | true =>
    rw [hg] at HC
    obtain ⟨M, k, rfl, rfl, hMF, hk3, hlen, h343, hfr⟩ := gmc_facts hg
    have HQ := Lib.hid (cy_yes hg)
    have HMV := Lib.hid (fun W (he : Ex w W) => isCocycle_any B0 B1 B2 t0 M k t1 t2 d0 d1 d2 W (hR.ex he) (hX.ex he) (hF.ex he) hMF hk3 hlen hfr)
    clear hg hR hX hF hMF hs hu hf hlen hfr
    go_enter Tryd.func35, Tryd.ntmps35
    go_wp2_with fail
    generalize (((w.alloc (.cells #[.slice B0 t0.length d0] 31)).alloc (.cells #[.int .i64 (M : Int), .slice B1 t1.length d1] 28)).alloc (.cells #[.int .i64 (k : Int), .slice B2 t2.length d2] 43)) = W0 at *
    refine HC.out.mono ?_
    rintro e W1 ⟨rfl, he1⟩
    have HE1 := Lib.hid (e0.trans he1)
    have d0' := (b0.ex he1).cell 0
    have d1' := (b1.ex he1).cell 0
    have d1'' := (b1.ex he1).cell 1
    have d2' := (b2.ex he1).cell 0
    have d2'' := (b2.ex he1).cell 1
    clear b0 b1 b2 e0 he1
    go_wp2_with fail
    refine (HMV.out W1 HE1.out).mono ?_
    rintro e W3 ⟨rfl, he3⟩
    have HE3 := Lib.hid (HE1.out.trans he3)
    clear he3 d0' d1' d1'' d2' d2''
    go_wp2_with fail
    go_ret2
    exact ⟨by rw [HQ.out.1, HQ.out.2]; rfl, HE3.out⟩

set_option maxRecDepth 100000 in
set_option maxHeartbeats 4000000 in
theorem specIsCocycle_ex (t0 : List (List Int)) (m1 : Int) (t1 : List Int) (m2 : Int) (t2 : List Int) : ∀ (B0 : Option Addr) (d0 : Nat) (B1 : Option Addr) (d1 : Nat) (B2 : Option Addr) (d2 : Nat) (W : World), RwsW W B0 t0 → IntsW W B1 t1 → IntsW W B2 t2 → SmallT t0 → t1.length ≤ 1048576 → t2.length ≤ 1048576 →
    Calls Tryd.prog 34 #[.agg #[.slice B0 t0.length d0], .agg #[.int .i64 m1, .slice B1 t1.length d1], .agg #[.int .i64 m2, .slice B2 t2.length d2]] W fun e W' => e = .returned (.tuple #[.bool (qIsCocycle0 t0 m1 t1 m2 t2), .int .i64 (qIsCocycle1 t0 m1 t1 m2 t2)]) ∧ Ex W W' := by
  intro B0 d0 B1 d1 B2 d2 w hR hX hF hs hu hf
  have e0 : Ex w ((((w.alloc (.cells #[.slice B0 t0.length d0] 31)).alloc (.cells #[.int .i64 m1, .slice B1 t1.length d1] 28)).alloc (.cells #[.int .i64 m2, .slice B2 t2.length d2] 43)).alloc (.cells #[.int .i64 m2, .slice B2 t2.length d2] 43)) := ((((Ex.refl w).alloc _).alloc _).alloc _).alloc _
  have b0 : Has ((((w.alloc (.cells #[.slice B0 t0.length d0] 31)).alloc (.cells #[.int .i64 m1, .slice B1 t1.length d1] 28)).alloc (.cells #[.int .i64 m2, .slice B2 t2.length d2] 43)).alloc (.cells #[.int .i64 m2, .slice B2 t2.length d2] 43)) (w.heap.size) 31 #[.slice B0 t0.length d0] := ((((Has.newAt (w := w) (e := 31) (cs := #[.slice B0 t0.length d0]) (k := w.heap.size) (by simp)).alloc _).alloc _).alloc _)
  have b1 : Has ((((w.alloc (.cells #[.slice B0 t0.length d0] 31)).alloc (.cells #[.int .i64 m1, .slice B1 t1.length d1] 28)).alloc (.cells #[.int .i64 m2, .slice B2 t2.length d2] 43)).alloc (.cells #[.int .i64 m2, .slice B2 t2.length d2] 43)) (w.heap.size + 1) 28 #[.int .i64 m1, .slice B1 t1.length d1] := (((Has.newAt (w := (w.alloc (.cells #[.slice B0 t0.length d0] 31))) (e := 28) (cs := #[.int .i64 m1, .slice B1 t1.length d1]) (k := w.heap.size + 1) (by simp)).alloc _).alloc _)
  have b2 : Has ((((w.alloc (.cells #[.slice B0 t0.length d0] 31)).alloc (.cells #[.int .i64 m1, .slice B1 t1.length d1] 28)).alloc (.cells #[.int .i64 m2, .slice B2 t2.length d2] 43)).alloc (.cells #[.int .i64 m2, .slice B2 t2.length d2] 43)) (w.heap.size + 1 + 1) 43 #[.int .i64 m2, .slice B2 t2.length d2] := ((Has.newAt (w := ((w.alloc (.cells #[.slice B0 t0.length d0] 31)).alloc (.cells #[.int .i64 m1, .slice B1 t1.length d1] 28))) (e := 43) (cs := #[.int .i64 m2, .slice B2 t2.length d2]) (k := w.heap.size + 1 + 1) (by simp)).alloc _)
  have b4 : Has ((((w.alloc (.cells #[.slice B0 t0.length d0] 31)).alloc (.cells #[.int .i64 m1, .slice B1 t1.length d1] 28)).alloc (.cells #[.int .i64 m2, .slice B2 t2.length d2] 43)).alloc (.cells #[.int .i64 m2, .slice B2 t2.length d2] 43)) (w.heap.size + 1 + 1 + 1) 43 #[.int .i64 m2, .slice B2 t2.length d2] := (Has.newAt (w := (((w.alloc (.cells #[.slice B0 t0.length d0] 31)).alloc (.cells #[.int .i64 m1, .slice B1 t1.length d1] 28)).alloc (.cells #[.int .i64 m2, .slice B2 t2.length d2] 43))) (e := 43) (cs := #[.int .i64 m2, .slice B2 t2.length d2]) (k := w.heap.size + 1 + 1 + 1) (by simp))
  have HC := Lib.hid (l03Code1_ex B0 B1 B2 t0 m1 t1 m2 t2 d0 d1 d2 (w.heap.size + 1 + 1 + 1) _ (hR.ex e0) (hX.ex e0) (hF.ex e0) hs hu hf b4)
  cases hg : gmcB t0 m1 t1 m2 t2 with
  | false =>
    rw [hg] at HC
    have HQ := Lib.hid (cy_no hg)
    clear hg hR hX hF
    go_enter Tryd.func34, Tryd.ntmps34
    go_wp2_with fail
    generalize ((((w.alloc (.cells #[.slice B0 t0.length d0] 31)).alloc (.cells #[.int .i64 m1, .slice B1 t1.length d1] 28)).alloc (.cells #[.int .i64 m2, .slice B2 t2.length d2] 43)).alloc (.cells #[.int .i64 m2, .slice B2 t2.length d2] 43)) = W0 at *
    refine HC.out.mono ?_
    rintro e W1 ⟨rfl, he1⟩
    have HE1 := Lib.hid (e0.trans he1)
    clear b0 b1 b2 b4 e0 he1
    go_wp2_with fail
    go_ret2
    exact ⟨by rw [HQ.out.1, HQ.out.2]; rfl, HE1.out⟩
  | true =>
    rw [hg] at HC
    obtain ⟨M, k, rfl, rfl, hMF, hk3, hlen, h343, hfr⟩ := gmc_facts hg
    have HQ := Lib.hid (cy_yes hg)
    have HMV := Lib.hid (fun W (he : Ex w W) => l03Cocycle_any B0 B1 B2 t0 M k t1 t2 d0 d1 d2 W (hR.ex he) (hX.ex he) (hF.ex he) hMF hk3 hlen hfr)
    clear hg hR hX hF hMF hs hu hf hlen hfr
    go_enter Tryd.func34, Tryd.ntmps34
    go_wp2_with fail
    generalize ((((w.alloc (.cells #[.slice B0 t0.length d0] 31)).alloc (.cells #[.int .i64 (M : Int), .slice B1 t1.length d1] 28)).alloc (.cells #[.int .i64 (k : Int), .slice B2 t2.length d2] 43)).alloc (.cells #[.int .i64 (k : Int), .slice B2 t2.length d2] 43)) = W0 at *
    refine HC.out.mono ?_
    rintro e W1 ⟨rfl, he1⟩
    have HE1 := Lib.hid (e0.trans he1)
    have d0' := (b0.ex he1).cell 0
    have d1' := (b1.ex he1).cell 0
    have d1'' := (b1.ex he1).cell 1
    have d2' := (b2.ex he1).cell 0
    have d2'' := (b2.ex he1).cell 1
    clear b0 b1 b2 b4 e0 he1
    go_wp2_with fail
    refine (HMV.out W1 HE1.out).mono ?_
    rintro e W3 ⟨rfl, he3⟩
    have HE3 := Lib.hid (HE1.out.trans he3)
    clear he3 d0' d1' d1'' d2' d2''
    go_wp2_with fail
    go_ret2
    exact ⟨by rw [HQ.out.1, HQ.out.2]; rfl, HE3.out⟩

end Go.Proofs.YtilhnmclleiodaaDoor
