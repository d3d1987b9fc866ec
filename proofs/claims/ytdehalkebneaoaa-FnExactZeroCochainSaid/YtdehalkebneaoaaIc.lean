/- IsCochain: both contracts. -/
import Derived.Test.YtdehalkebneaoaaFd
namespace Go.Proofs.Ytdehalkebneaoaa
open Go.RowKit

/-- The code where no cochain is asked for. -/
theorem coC_nil (t : List (List Int)) (m : Int) (us : List Int) (ns : Nat → Int) (fss : Nat → List Int) : coC t m us 0 ns fss = gmC t m us := by
  simp [coC, gmC, cocsB]
theorem l03Code_none (B0 B1 : Option Addr) (t0 : List (List Int)) (m : Int) (us : List Int) (d0 d1 : Nat) (w : World) (hR : RwsW w B0 t0) (hX : IntsW w B1 us) (hs : SmallT t0) (hu : us.length ≤ 1048576) :
    Calls Try.prog 89 #[.agg #[.slice B0 t0.length d0], .agg #[.int .i64 m, .slice B1 us.length d1], .slice none 0 0] w fun e w' => e = .returned (.int .i64 (gmC t0 m us)) ∧ Ex w w' := by
  rw [← coC_nil t0 m us (fun _ => 0) (fun _ => [])]
  exact l03Code_any B0 B1 none t0 m us 0 0 0 _ _ (fun _ => none) (fun _ => 0) d0 d1 w hR hX hs hu (by omega) (fun h => absurd h (by omega))

noncomputable def qIsCochain0 (t : List (List Int)) (m : Int) (us : List Int) (n : Int) (fs : List Int) : Bool := gmB t m us && cocB t.length m n fs
noncomputable def qIsCochain1 (t : List (List Int)) (m : Int) (us : List Int) (_ : Int) (_ : List Int) : Int := gmC t m us

set_option maxHeartbeats 1000000 in
theorem specIsCochain_ex (t0 : List (List Int)) (m1 : Int) (t1 : List Int) (m2 : Int) (t2 : List Int) : ∀ (B0 : Option Addr) (d0 : Nat) (B1 : Option Addr) (d1 : Nat) (B2 : Option Addr) (d2 : Nat) (W : World), RwsW W B0 t0 → IntsW W B1 t1 → IntsW W B2 t2 → SmallT t0 → t1.length ≤ 1048576 → t2.length ≤ 1048576 →
    Calls Try.prog 46 #[.agg #[.slice B0 t0.length d0], .agg #[.int .i64 m1, .slice B1 t1.length d1], .agg #[.int .i64 m2, .slice B2 t2.length d2]] W fun e W' => e = .returned (.tuple #[.bool (qIsCochain0 t0 m1 t1 m2 t2), .int .i64 (qIsCochain1 t0 m1 t1 m2 t2)]) ∧ Ex W W' := by
  intro B0 d0 B1 d1 B2 d2 w hR hX hF hs hu hx
  have e0 : Ex w (((w.alloc (.cells #[.slice B0 t0.length d0] 29)).alloc (.cells #[.int .i64 m1, .slice B1 t1.length d1] 36)).alloc (.cells #[.int .i64 m2, .slice B2 t2.length d2] 66)) := (((Ex.refl w).alloc _).alloc _).alloc _
  have b0 : Has (((w.alloc (.cells #[.slice B0 t0.length d0] 29)).alloc (.cells #[.int .i64 m1, .slice B1 t1.length d1] 36)).alloc (.cells #[.int .i64 m2, .slice B2 t2.length d2] 66)) (w.heap.size) 29 #[.slice B0 t0.length d0] := (((Has.newAt (w := w) (e := 29) (cs := #[.slice B0 t0.length d0]) (k := w.heap.size) (by simp)).alloc _).alloc _)
  have b1 : Has (((w.alloc (.cells #[.slice B0 t0.length d0] 29)).alloc (.cells #[.int .i64 m1, .slice B1 t1.length d1] 36)).alloc (.cells #[.int .i64 m2, .slice B2 t2.length d2] 66)) (w.heap.size + 1) 36 #[.int .i64 m1, .slice B1 t1.length d1] := ((Has.newAt (w := (w.alloc (.cells #[.slice B0 t0.length d0] 29))) (e := 36) (cs := #[.int .i64 m1, .slice B1 t1.length d1]) (k := w.heap.size + 1) (by simp)).alloc _)
  have b2 : Has (((w.alloc (.cells #[.slice B0 t0.length d0] 29)).alloc (.cells #[.int .i64 m1, .slice B1 t1.length d1] 36)).alloc (.cells #[.int .i64 m2, .slice B2 t2.length d2] 66)) (w.heap.size + 1 + 1) 66 #[.int .i64 m2, .slice B2 t2.length d2] := (Has.newAt (w := ((w.alloc (.cells #[.slice B0 t0.length d0] 29)).alloc (.cells #[.int .i64 m1, .slice B1 t1.length d1] 36))) (e := 66) (cs := #[.int .i64 m2, .slice B2 t2.length d2]) (k := w.heap.size + 1 + 1) (by simp))
  have HC := Lib.hid (l03Code_none B0 B1 t0 m1 t1 d0 d1 _ (hR.ex e0) (hX.ex e0) hs hu)
  have HF := Lib.hid (hF.ex e0)
  clear hR hX hF
  cases hg : gmB t0 m1 t1 with
  | false =>
    rw [gmC_no hg] at HC
    have HQ : Hid (qIsCochain0 t0 m1 t1 m2 t2 = false ∧ qIsCochain1 t0 m1 t1 m2 t2 = 1) := Lib.hid ⟨by rw [qIsCochain0, hg]; rfl, gmC_no hg⟩
    clear hg
    go_enter Try.func46, Try.ntmps46
    go_wp2_with fail
    generalize (((w.alloc (.cells #[.slice B0 t0.length d0] 29)).alloc (.cells #[.int .i64 m1, .slice B1 t1.length d1] 36)).alloc (.cells #[.int .i64 m2, .slice B2 t2.length d2] 66)) = W0 at *
    refine HC.out.mono ?_
    rintro e W1 ⟨rfl, he1⟩
    go_wp2_with fail
    go_ret2
    exact ⟨by rw [HQ.out.1, HQ.out.2]; rfl, e0.trans he1⟩
  | true =>
    rw [gmC_yes hg] at HC
    have HQ : Hid (qIsCochain0 t0 m1 t1 m2 t2 = cocB t0.length m1 m2 t2 ∧ qIsCochain1 t0 m1 t1 m2 t2 = 0) := Lib.hid ⟨by rw [qIsCochain0, hg]; rfl, gmC_yes hg⟩
    obtain ⟨M, rfl, hF⟩ := gmB_f hg
    have hm2 := hF.m2
    have hm12 := hF.m12
    have hn1 := hF.g.n1
    have hn8 := hF.g.n8
    clear hg hF
    go_enter Try.func46, Try.ntmps46
    go_wp2_with fail
    generalize (((w.alloc (.cells #[.slice B0 t0.length d0] 29)).alloc (.cells #[.int .i64 (M : Int), .slice B1 t1.length d1] 36)).alloc (.cells #[.int .i64 m2, .slice B2 t2.length d2] 66)) = W0 at *
    refine HC.out.mono ?_
    rintro e W1 ⟨rfl, he1⟩
    have c0 := (b0.ex he1).cell 0
    have c1 := (b1.ex he1).cell 0
    have c1' := (b1.ex he1).cell 1
    have c2 := (b2.ex he1).cell 0
    have c2' := (b2.ex he1).cell 1
    obtain ⟨bv, hbv⟩ : ∃ b, cocB t0.length (M : Int) m2 t2 = b := ⟨_, rfl⟩
    have HBV := Lib.hid hbv
    clear hbv
    go_wp2_with (go_at_call 90; refine (l03Is_any B0 B1 B2 t0 M t1 m2 t2 d0 d1 d2 _ hn1 hn8 hm2 hm12 (HF.out.ex he1) hx).mono ?_; rw [HBV.out]; rintro e w' ⟨rfl, he2⟩)
    go_ret2
    exact ⟨by rw [HQ.out.1, HQ.out.2, HBV.out]; rfl, e0.trans (he1.trans he2)⟩

set_option maxHeartbeats 1000000 in
theorem implIsCochain_ex (t0 : List (List Int)) (m1 : Int) (t1 : List Int) (m2 : Int) (t2 : List Int) : ∀ (B0 : Option Addr) (d0 : Nat) (B1 : Option Addr) (d1 : Nat) (B2 : Option Addr) (d2 : Nat) (W : World), RwsW W B0 t0 → IntsW W B1 t1 → IntsW W B2 t2 → SmallT t0 → t1.length ≤ 1048576 → t2.length ≤ 1048576 →
    Calls Try.prog 48 #[.agg #[.slice B0 t0.length d0], .agg #[.int .i64 m1, .slice B1 t1.length d1], .agg #[.int .i64 m2, .slice B2 t2.length d2]] W fun e W' => e = .returned (.tuple #[.bool (qIsCochain0 t0 m1 t1 m2 t2), .int .i64 (qIsCochain1 t0 m1 t1 m2 t2)]) ∧ Ex W W' := by
  intro B0 d0 B1 d1 B2 d2 w hR hX hF hs hu hx
  have e0 : Ex w (((w.alloc (.cells #[.slice B0 t0.length d0] 29)).alloc (.cells #[.int .i64 m1, .slice B1 t1.length d1] 36)).alloc (.cells #[.int .i64 m2, .slice B2 t2.length d2] 66)) := (((Ex.refl w).alloc _).alloc _).alloc _
  have b0 : Has (((w.alloc (.cells #[.slice B0 t0.length d0] 29)).alloc (.cells #[.int .i64 m1, .slice B1 t1.length d1] 36)).alloc (.cells #[.int .i64 m2, .slice B2 t2.length d2] 66)) (w.heap.size) 29 #[.slice B0 t0.length d0] := (((Has.newAt (w := w) (e := 29) (cs := #[.slice B0 t0.length d0]) (k := w.heap.size) (by simp)).alloc _).alloc _)
  have b1 : Has (((w.alloc (.cells #[.slice B0 t0.length d0] 29)).alloc (.cells #[.int .i64 m1, .slice B1 t1.length d1] 36)).alloc (.cells #[.int .i64 m2, .slice B2 t2.length d2] 66)) (w.heap.size + 1) 36 #[.int .i64 m1, .slice B1 t1.length d1] := ((Has.newAt (w := (w.alloc (.cells #[.slice B0 t0.length d0] 29))) (e := 36) (cs := #[.int .i64 m1, .slice B1 t1.length d1]) (k := w.heap.size + 1) (by simp)).alloc _)
  have b2 : Has (((w.alloc (.cells #[.slice B0 t0.length d0] 29)).alloc (.cells #[.int .i64 m1, .slice B1 t1.length d1] 36)).alloc (.cells #[.int .i64 m2, .slice B2 t2.length d2] 66)) (w.heap.size + 1 + 1) 66 #[.int .i64 m2, .slice B2 t2.length d2] := (Has.newAt (w := ((w.alloc (.cells #[.slice B0 t0.length d0] 29)).alloc (.cells #[.int .i64 m1, .slice B1 t1.length d1] 36))) (e := 66) (cs := #[.int .i64 m2, .slice B2 t2.length d2]) (k := w.heap.size + 1 + 1) (by simp))
  have HC := Lib.hid (isModule_ex B0 B1 t0 m1 t1 d0 d1 _ (hR.ex e0) (hX.ex e0) hs hu)
  have HF := Lib.hid (hF.ex e0)
  clear hR hX hF
  cases hg : gmB t0 m1 t1 with
  | false =>
    rw [hg] at HC
    have HQ : Hid (qIsCochain0 t0 m1 t1 m2 t2 = false ∧ qIsCochain1 t0 m1 t1 m2 t2 = 1) := Lib.hid ⟨by rw [qIsCochain0, hg]; rfl, gmC_no hg⟩
    clear hg
    go_enter Try.func48, Try.ntmps48
    go_wp2_with fail
    generalize (((w.alloc (.cells #[.slice B0 t0.length d0] 29)).alloc (.cells #[.int .i64 m1, .slice B1 t1.length d1] 36)).alloc (.cells #[.int .i64 m2, .slice B2 t2.length d2] 66)) = W0 at *
    refine HC.out.mono ?_
    rintro e W1 ⟨rfl, he1⟩
    go_wp2_with fail
    go_ret2
    exact ⟨by rw [HQ.out.1, HQ.out.2]; rfl, e0.trans he1⟩
  | true =>
    rw [hg] at HC
    have HQ : Hid (qIsCochain0 t0 m1 t1 m2 t2 = cocB t0.length m1 m2 t2 ∧ qIsCochain1 t0 m1 t1 m2 t2 = 0) := Lib.hid ⟨by rw [qIsCochain0, hg]; rfl, gmC_yes hg⟩
    obtain ⟨M, rfl, hF⟩ := gmB_f hg
    have hm12 := hF.m12
    have hn1 := hF.g.n1
    have hn8 := hF.g.n8
    clear hg hF
    go_enter Try.func48, Try.ntmps48
    go_wp2_with fail
    generalize (((w.alloc (.cells #[.slice B0 t0.length d0] 29)).alloc (.cells #[.int .i64 (M : Int), .slice B1 t1.length d1] 36)).alloc (.cells #[.int .i64 m2, .slice B2 t2.length d2] 66)) = W0 at *
    refine HC.out.mono ?_
    rintro e W1 ⟨rfl, he1⟩
    have c0 := (b0.ex he1).cell 0
    have c1 := (b1.ex he1).cell 0
    have c1' := (b1.ex he1).cell 1
    have c2 := (b2.ex he1).cell 0
    have c2' := (b2.ex he1).cell 1
    obtain ⟨bv, hbv⟩ : ∃ b, cocB t0.length (M : Int) m2 t2 = b := ⟨_, rfl⟩
    have HBV := Lib.hid hbv
    clear hbv
    go_wp2_with (go_at_call 91; refine (fitsModule_any B0 B1 B2 t0 M t1 m2 t2 d0 d1 d2 _ hn1 hn8 hm12 (HF.out.ex he1) hx).mono ?_; rw [HBV.out]; rintro e w' ⟨rfl, he2⟩)
    go_ret2
    exact ⟨by rw [HQ.out.1, HQ.out.2, HBV.out]; rfl, e0.trans (he1.trans he2)⟩

end Go.Proofs.Ytdehalkebneaoaa
