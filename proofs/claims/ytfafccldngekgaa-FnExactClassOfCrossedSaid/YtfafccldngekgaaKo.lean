/- ClassOfCrossed: the specification's contract. -/
import Derived.Test.YtfafccldngekgaaKl
import Derived.Test.YtfafccldngekgaaKm
namespace Go.Proofs.Ytfafccldngekgaa
open Go.RowKit Go.Shelf

noncomputable def yClassOfCrossed0 (t : List (List Int)) (m : Int) (us fs : List Int) : List Int := if crC t m us fs = 0 then cls m.toNat us fs m.toNat else []
noncomputable def qClassOfCrossed1 (t : List (List Int)) (m : Int) (us fs : List Int) : Int := crC t m us fs
theorem classOfCrossed_small0 (t : List (List Int)) (m : Int) (us fs : List Int) : (yClassOfCrossed0 t m us fs).length ≤ 1048576 := by
  unfold yClassOfCrossed0
  split
  · rename_i h
    obtain ⟨M, _, hF, hl, _⟩ := crC_zero h
    have := hF.g.n8
    rw [cls_len]
    omega
  · simp

set_option maxRecDepth 100000 in
set_option maxHeartbeats 4000000 in
theorem specClassOfCrossed_ex (t0 : List (List Int)) (m1 : Int) (t1 : List Int) (t2 : List Int) : ∀ (B0 : Option Addr) (d0 : Nat) (B1 : Option Addr) (d1 : Nat) (B2 : Option Addr) (d2 : Nat) (W : World), RwsW W B0 t0 → IntsW W B1 t1 → IntsW W B2 t2 → SmallT t0 → t1.length ≤ 1048576 → t2.length ≤ 1048576 →
    Calls Try.prog 52 #[.agg #[.slice B0 t0.length d0], .agg #[.int .i64 m1, .slice B1 t1.length d1], .slice B2 t2.length d2] W fun e W' => ∃ (C0 : Option Addr) (e0 : Nat), e = .returned (.tuple #[.slice C0 (yClassOfCrossed0 t0 m1 t1 t2).length e0, .int .i64 (qClassOfCrossed1 t0 m1 t1 t2)]) ∧ Ex W W' ∧ OwnL W' W.heap.size W'.heap.size C0 (yClassOfCrossed0 t0 m1 t1 t2) := by
  intro B0 d0 B1 d1 B2 d2 w hR hX hF hs hu hf
  have e0 : Ex w ((w.alloc (.cells #[.slice B0 t0.length d0] 32)).alloc (.cells #[.int .i64 m1, .slice B1 t1.length d1] 34)) := ((Ex.refl w).alloc _).alloc _
  have b0 : Has ((w.alloc (.cells #[.slice B0 t0.length d0] 32)).alloc (.cells #[.int .i64 m1, .slice B1 t1.length d1] 34)) (w.heap.size) 32 #[.slice B0 t0.length d0] := ((Has.newAt (w := w) (e := 32) (cs := #[.slice B0 t0.length d0]) (k := w.heap.size) (by simp)).alloc _)
  have b1 : Has ((w.alloc (.cells #[.slice B0 t0.length d0] 32)).alloc (.cells #[.int .i64 m1, .slice B1 t1.length d1] 34)) (w.heap.size + 1) 34 #[.int .i64 m1, .slice B1 t1.length d1] := (Has.newAt (w := (w.alloc (.cells #[.slice B0 t0.length d0] 32))) (e := 34) (cs := #[.int .i64 m1, .slice B1 t1.length d1]) (k := w.heap.size + 1) (by simp))
  have HC := Lib.hid (l05Given_ex B0 B1 B2 t0 m1 t1 t2 d0 d1 d2 _ (hR.ex e0) (hX.ex e0) (hF.ex e0) hs hu hf)
  have HE0 := Lib.hid e0
  by_cases hg : crC t0 m1 t1 t2 = 0
  · obtain ⟨M, rfl, hm, hl, hr⟩ := crC_zero hg
    have HQ : Hid (yClassOfCrossed0 t0 (M : Int) t1 t2 = cls M t1 t2 M ∧ qClassOfCrossed1 t0 (M : Int) t1 t2 = 0) := Lib.hid ⟨by rw [yClassOfCrossed0, if_pos hg, Int.toNat_natCast], hg⟩
    rw [hg] at HC
    have HCL := Lib.hid (fun W (he : Ex w W) => l05Class_any B0 B1 B2 t0 M t1 t2 d0 d1 d2 W (hX.ex he) (hF.ex he) hm hl hr)
    clear hR hX hF hs hu hf hg hr hm hl
    go_enter Try.func52, Try.ntmps52
    go_wp2_with fail
    generalize ((w.alloc (.cells #[.slice B0 t0.length d0] 32)).alloc (.cells #[.int .i64 (M : Int), .slice B1 t1.length d1] 34)) = W0 at *
    refine HC.out.mono ?_
    rintro e W1 ⟨rfl, he1⟩
    have HE1 := Lib.hid (HE0.out.trans he1)
    have c0 := (b0.ex he1).cell 0
    have c10 := (b1.ex he1).cell 0
    have c11 := (b1.ex he1).cell 1
    clear b0 b1 e0 he1
    go_wp2_with fail
    refine (HCL.out _ HE1.out).mono ?_
    rintro e W2 ⟨A', n', rfl, he2, ho2⟩
    have HO := Lib.hid (ho2.mono HE1.out.size (Nat.le_refl _) ho2.le)
    have HE2 := Lib.hid (HE1.out.trans he2)
    clear he2 ho2 c0 c10 c11
    go_wp2_with fail
    go_ret2
    exact ⟨A', n', by rw [HQ.out.1, HQ.out.2]; rfl, HE2.out, by rw [HQ.out.1]; exact HO.out⟩
  · have HQ : Hid (yClassOfCrossed0 t0 m1 t1 t2 = [] ∧ qClassOfCrossed1 t0 m1 t1 t2 = crC t0 m1 t1 t2) := Lib.hid ⟨by rw [yClassOfCrossed0, if_neg hg], rfl⟩
    obtain ⟨z, hz⟩ : ∃ z, crC t0 m1 t1 t2 = z := ⟨_, rfl⟩
    rw [hz] at HC HQ hg
    have hzb : (z != 0) = true := by simpa using hg
    clear hR hX hF hg hz
    go_enter Try.func52, Try.ntmps52
    go_wp2_with fail
    generalize ((w.alloc (.cells #[.slice B0 t0.length d0] 32)).alloc (.cells #[.int .i64 m1, .slice B1 t1.length d1] 34)) = W0 at *
    refine HC.out.mono ?_
    rintro e W1 ⟨rfl, he1⟩
    go_wp2_with fail
    go_ret2
    exact ⟨none, 0, by rw [HQ.out.1, HQ.out.2]; rfl, HE0.out.trans he1, by rw [HQ.out.1]; exact OwnL.nil _ _ _ (Nat.le_refl _)⟩

end Go.Proofs.Ytfafccldngekgaa
