/- ModuleOfSubgroup: the program's contract. -/
import Derived.Test.YtfnjpbjlikajbaaGreatDoorUr
import Derived.Test.YtfnjpbjlikajbaaGreatDoorUn
namespace Go.Proofs.YtfnjpbjlikajbaaGreatDoor
open Go.RowKit

/-- The code of a module, a group's subgroup and elements. -/
noncomputable def mgE (t : List (List Int)) (m : Int) (us xs es : List Int) : Int := if gmB t m us = true then sgC t xs es else 1

set_option maxRecDepth 100000 in
set_option maxHeartbeats 2000000 in
theorem subgroupModuleCode_any (A U L E : Option Addr) (t : List (List Int)) (m : Int) (us xs es : List Int) (c c1 c2 c3 : Nat) (w : World) (hR : RwsW w A t) (hU : IntsW w U us) (hX : IntsW w L xs) (hY : IntsW w E es) (hs : SmallT t) (hu : us.length ≤ 1048576) (hx : xs.length ≤ 1048576) (hy : es.length ≤ 1048576) (hT : TabL w) :
    Calls Tryz.prog 101 #[.agg #[.slice A t.length c], .agg #[.int .i64 m, .slice U us.length c1], .slice L xs.length c2, .slice E es.length c3] w fun e w' => e = .returned (.int .i64 (mgE t m us xs es)) ∧ Ex w w' := by
  have e0 : Ex w ((w.alloc (.cells #[.slice A t.length c] 36)).alloc (.cells #[.int .i64 m, .slice U us.length c1] 38)) := ((Ex.refl w).alloc _).alloc _
  have b0 : Has ((w.alloc (.cells #[.slice A t.length c] 36)).alloc (.cells #[.int .i64 m, .slice U us.length c1] 38)) (w.heap.size) 36 #[.slice A t.length c] := ((Has.newAt (w := w) (e := 36) (cs := #[.slice A t.length c]) (k := w.heap.size) (by simp)).alloc _)
  have b1 : Has ((w.alloc (.cells #[.slice A t.length c] 36)).alloc (.cells #[.int .i64 m, .slice U us.length c1] 38)) (w.heap.size + 1) 38 #[.int .i64 m, .slice U us.length c1] := (Has.newAt (w := (w.alloc (.cells #[.slice A t.length c] 36))) (e := 38) (cs := #[.int .i64 m, .slice U us.length c1]) (k := w.heap.size + 1) (by simp))
  have HC := Lib.hid (isModule_ex A U t m us c c1 _ (hR.ex e0) (hU.ex e0) hs hu)
  have k0 := b0.cell 0
  have k1 := b1.cell 0
  have k1' := b1.cell 1
  cases hg : gmB t m us with
  | false =>
    rw [hg] at HC
    have HQ : Hid (mgE t m us xs es = 1) := Lib.hid (by simp [mgE, hg])
    clear hg hR hU hX hY hs hu hx hy hT
    go_enter Tryz.func101, Tryz.ntmps101
    go_wp2_with fail
    generalize ((w.alloc (.cells #[.slice A t.length c] 36)).alloc (.cells #[.int .i64 m, .slice U us.length c1] 38)) = W0 at *
    refine HC.out.mono ?_
    rintro e W1 ⟨rfl, he1⟩
    have HE1 := Lib.hid (e0.trans he1)
    clear b0 b1 e0 he1 k0 k1 k1'
    go_wp2_with fail
    go_ret
    exact ⟨by rw [HQ.out]; rfl, HE1.out⟩
  | true =>
    rw [hg] at HC
    have HQ : Hid (mgE t m us xs es = sgC t xs es) := Lib.hid (by simp [mgE, hg])
    have HK := Lib.hid (fun W (he : Ex w W) => subgroupCode_any A L E t xs es c c2 c3 W (hR.ex he) (hX.ex he) (hY.ex he) hs hx hy (hT.ex he))
    obtain ⟨q, hq⟩ : ∃ q, sgC t xs es = q := ⟨_, rfl⟩
    rw [hq] at HQ HK
    clear hg hR hU hX hY hs hu hx hy hT hq
    go_enter Tryz.func101, Tryz.ntmps101
    go_wp2_with fail
    generalize ((w.alloc (.cells #[.slice A t.length c] 36)).alloc (.cells #[.int .i64 m, .slice U us.length c1] 38)) = W0 at *
    refine HC.out.mono ?_
    rintro e W1 ⟨rfl, he1⟩
    have HE1 := Lib.hid (e0.trans he1)
    have c0 := (b0.ex he1).cell 0
    clear b0 b1 e0 he1 k0 k1 k1'
    go_wp2_with fail
    refine (HK.out W1 HE1.out).mono ?_
    rintro e W2 ⟨rfl, he2⟩
    have HE2 := Lib.hid (HE1.out.trans he2)
    clear he2 c0
    go_wp2_with fail
    go_ret
    exact ⟨by rw [HQ.out]; rfl, HE2.out⟩

end Go.Proofs.YtfnjpbjlikajbaaGreatDoor
