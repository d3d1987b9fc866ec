/- The law of LadderOf: the walk, whatever the contracts of both functions. -/
import Derived.Deep.RegionHeld3
import Derived.Deep.RegionWith
import Derived.Deep.DeepCutAuto
import Derived.Test.YtfnjpbjlikajbaaDoorExv
namespace Go.Proofs.YtfnjpbjlikajbaaDoor
open Go.RowKit

set_option maxRecDepth 100000 in
set_option maxHeartbeats 16000000 in
theorem lawLadderOf_any (m0 : Int) (m1 : Int) (m2 : Int) (m3 : Int) (q0 : Int) (y0 : List Int) (q1 : Int) (w : World) (hy0 : y0.length ≤ 1048576)
    (HS : ∀ (W : World), Calls Tryd.prog 11 #[.int .i64 m0, .int .i64 m1, .int .i64 m2, .int .i64 m3] W fun e W' => ∃ (C0 : Option Addr) (e0 : Nat), e = .returned (.tuple #[.agg #[.int .i64 q0, .slice C0 y0.length e0], .int .i64 q1]) ∧ Ex W W' ∧ OwnL W' W.heap.size W'.heap.size C0 y0)
    (HI : ∀ (W : World), Calls Tryd.prog 12 #[.int .i64 m0, .int .i64 m1, .int .i64 m2, .int .i64 m3] W fun e W' => ∃ (C0 : Option Addr) (e0 : Nat), e = .returned (.tuple #[.agg #[.int .i64 q0, .slice C0 y0.length e0], .int .i64 q1]) ∧ Ex W W' ∧ OwnL W' W.heap.size W'.heap.size C0 y0) :
    Calls Tryd.prog 4 #[.int .i64 m0, .int .i64 m1, .int .i64 m2, .int .i64 m3] w fun e w' => e = .returned (.bool true) ∧ Ex w w' := by
  have e0 : Ex w w := Ex.refl w
  have HY0 := Lib.hid hy0
  have HS := Lib.hid HS
  have HI := Lib.hid HI
  clear hy0
  go_enter Tryd.func4, Tryd.ntmps4
  go_wp2_with fail
  obtain ⟨W0, rfl⟩ : ∃ W0 : World, W0 = w := ⟨_, rfl⟩
  have EW := Lib.hid e0
  have EA := Lib.hid (Ex.refl W0)
  clear e0
  go_wp2_with fail
  refine (HS.out  W0).mono ?_
  rintro e Us ⟨Cs0, ns0, rfl, hes, hos0⟩
  have hfs : Ex W0 Us := hes
  have HOs0 := Lib.hid hos0.ints
  clear hos0
  clear hes
  have hbxs0 : Has (Us.alloc (.cells #[.int .i64 q0, .slice Cs0 y0.length ns0] 24)) (Us.heap.size) 24 #[.int .i64 q0, .slice Cs0 y0.length ns0] := (Has.newAt (w := Us) (e := 24) (cs := #[.int .i64 q0, .slice Cs0 y0.length ns0]) (k := Us.heap.size) (by simp))
  have hfbs : Ex W0 (Us.alloc (.cells #[.int .i64 q0, .slice Cs0 y0.length ns0] 24)) := (hfs).alloc _
  have hfus : Ex Us (Us.alloc (.cells #[.int .i64 q0, .slice Cs0 y0.length ns0] 24)) := (Ex.refl _).alloc _
  go_wp2_with fail
  generalize (Us.alloc (.cells #[.int .i64 q0, .slice Cs0 y0.length ns0] 24)) = W1 at *
  have HXs0 := Lib.hid hbxs0
  clear hbxs0
  have HOs0 := Lib.hid (HOs0.out.ex hfus)
  have hzus := hfus.size
  have EW := Lib.hid (EW.out.trans hfbs)
  have EA := Lib.hid (EA.out.trans hfbs)
  clear hfbs hfus hfs
  have ES := Lib.hid (Ex.refl W1)
  have hz00 := EW.out.size
  go_wp2_with fail
  refine (HI.out  W1).mono ?_
  rintro e Ug ⟨Cg0, ng0, rfl, heg, hog0⟩
  have HOg0 := Lib.hid hog0
  clear hog0
  have hfg : Ex W1 Ug := heg
  have hzg := heg.size
  clear heg
  have hq1 : (q1 != q1) = false := by simp
  have hbxg0 : Has (Ug.alloc (.cells #[.int .i64 q0, .slice Cg0 y0.length ng0] 24)) (Ug.heap.size) 24 #[.int .i64 q0, .slice Cg0 y0.length ng0] := (Has.newAt (w := Ug) (e := 24) (cs := #[.int .i64 q0, .slice Cg0 y0.length ng0]) (k := Ug.heap.size) (by simp))
  have hfbg : Ex W1 (Ug.alloc (.cells #[.int .i64 q0, .slice Cg0 y0.length ng0] 24)) := (hfg).alloc _
  have hfug : Ex Ug (Ug.alloc (.cells #[.int .i64 q0, .slice Cg0 y0.length ng0] 24)) := (Ex.refl _).alloc _
  have crg0 := hbxg0.cell 0
  have crg0' := hbxg0.cell 1
  have crs0 := (HXs0.out.ex (ES.out.trans hfbg)).cell 0
  have crs0' := (HXs0.out.ex (ES.out.trans hfbg)).cell 1
  go_wp2_with fail
  generalize (Ug.alloc (.cells #[.int .i64 q0, .slice Cg0 y0.length ng0] 24)) = W2 at *
  have HXg0 := Lib.hid hbxg0
  clear hbxg0
  have HOg0 := Lib.hid (HOg0.out.ex hfug)
  have hzug := hfug.size
  have EW := Lib.hid (EW.out.trans hfbg)
  have EA := Lib.hid (EA.out.trans hfbg)
  have ES := Lib.hid (ES.out.trans hfbg)
  clear hfbg hfug hfg
  have EG := Lib.hid (Ex.refl W2)
  clear crg0 crg0'
  clear crs0 crs0'
  refine (eqCochain_ex Cg0 Cs0 q0 y0 ng0 ns0 W2 (HOg0.out.ints.ex EG.out) (HOs0.out.ex ES.out) HY0.out).mono ?_
  rintro e W3 ⟨rfl, he⟩
  have EW := Lib.hid (EW.out.trans he)
  have EA := Lib.hid (EA.out.trans he)
  have ES := Lib.hid (ES.out.trans he)
  have EG := Lib.hid (EG.out.trans he)
  clear he
  -- marks in the copies
  have hzsz := ES.out.size
  -- marks in the result
  have HOg0 := Lib.hid (HOg0.out.ex EG.out)
  have HXg0 := Lib.hid (HXg0.out.ex EG.out)
  clear EG
  have crg0 := HXg0.out.cell 0
  have crg0' := HXg0.out.cell 1
  go_wp2_with fail
  clear crg0 crg0'
  have hcr0 : y0.length ≤ 1099511627776 := (by have := HY0.out; omega)
  have hgl := HOg0.out.le
  refine (markCochain_ex Cg0 q0 y0 ng0 1 W1.heap.size Ug.heap.size W3 HOg0.out HY0.out (by omega) (by omega)).mono ?_
  rintro e W4 ⟨rfl, ho, hmk⟩
  have HM0 := Lib.hid hmk
  clear hmk hgl
  have HXg0 := Lib.hid (HXg0.out.above ho (by omega))
  have hzr0 := ho.size
  have EW := Lib.hid (EW.out.only ho (by omega))
  have EA := Lib.hid (EA.out.only ho (by omega))
  have ES := Lib.hid (ES.out.only ho (by omega))
  obtain ⟨mn0, hmn0⟩ : ∃ mn : Nat, 1 + y0.length = mn := ⟨_, rfl⟩
  rw [hmn0]
  have hml0 : mn0 ≤ 1099511627777 := by omega
  have HMN0 := Lib.hid hmn0
  clear hmn0 ho
  have EM := Lib.hid (Ex.refl W4)
  obtain ⟨mm, hmm⟩ : ∃ mm : Int, (mn0 : Int) = mm := ⟨_, rfl⟩
  have h122 : (mm != mm) = false := by simp
  have HMM := Lib.hid hmm
  rw [hmm]
  clear hmm
  have hmneg0 : decide (mm < 0) = false := by have := HMM.out; simp only [decide_eq_false_iff_not]; omega
  have crg0 := (HXg0.out.ex EM.out).cell 0
  have crg0' := (HXg0.out.ex EM.out).cell 1
  go_wp2_with fail
  clear crg0 crg0'
  refine (heldCochain_ex Cg0 q0 y0.length ng0 1 W1.heap.size Ug.heap.size W4 (HM0.out.ex EM.out) HY0.out (by omega)).mono ?_
  rintro e W5 ⟨rfl, he⟩
  have EW := Lib.hid (EW.out.trans he)
  have EA := Lib.hid (EA.out.trans he)
  have ES := Lib.hid (ES.out.trans he)
  have EM := Lib.hid (EM.out.trans he)
  clear he
  rw [HMN0.out, HMM.out]
  -- the second call
  go_wp2_with fail
  refine (HI.out  W5).mono ?_
  rintro e Uh ⟨Ch0, nh0, rfl, heh, hoh0⟩
  have hfh : Ex W5 Uh := heh
  have HOh0 := Lib.hid hoh0.ints
  clear hoh0
  clear heh
  have hbxh0 : Has (Uh.alloc (.cells #[.int .i64 q0, .slice Ch0 y0.length nh0] 24)) (Uh.heap.size) 24 #[.int .i64 q0, .slice Ch0 y0.length nh0] := (Has.newAt (w := Uh) (e := 24) (cs := #[.int .i64 q0, .slice Ch0 y0.length nh0]) (k := Uh.heap.size) (by simp))
  have hfbh : Ex W5 (Uh.alloc (.cells #[.int .i64 q0, .slice Ch0 y0.length nh0] 24)) := (hfh).alloc _
  have hfuh : Ex Uh (Uh.alloc (.cells #[.int .i64 q0, .slice Ch0 y0.length nh0] 24)) := (Ex.refl _).alloc _
  have crh0 := hbxh0.cell 0
  have crh0' := hbxh0.cell 1
  have crs0 := (HXs0.out.ex (ES.out.trans hfbh)).cell 0
  have crs0' := (HXs0.out.ex (ES.out.trans hfbh)).cell 1
  go_wp2_with fail
  generalize (Uh.alloc (.cells #[.int .i64 q0, .slice Ch0 y0.length nh0] 24)) = W6 at *
  have HXh0 := Lib.hid hbxh0
  clear hbxh0
  have HOh0 := Lib.hid (HOh0.out.ex hfuh)
  have hzuh := hfuh.size
  have EW := Lib.hid (EW.out.trans hfbh)
  have EA := Lib.hid (EA.out.trans hfbh)
  have ES := Lib.hid (ES.out.trans hfbh)
  have EM := Lib.hid (EM.out.trans hfbh)
  clear hfbh hfuh hfh
  have EH := Lib.hid (Ex.refl W6)
  clear crh0 crh0'
  clear crs0 crs0'
  refine (eqCochain_ex Ch0 Cs0 q0 y0 nh0 ns0 W6 (HOh0.out.ex EH.out) (HOs0.out.ex ES.out) HY0.out).mono ?_
  rintro e W7 ⟨rfl, he⟩
  have EW := Lib.hid (EW.out.trans he)
  have EA := Lib.hid (EA.out.trans he)
  have ES := Lib.hid (ES.out.trans he)
  have EM := Lib.hid (EM.out.trans he)
  have EH := Lib.hid (EH.out.trans he)
  clear he
  have crg0 := (HXg0.out.ex EM.out).cell 0
  have crg0' := (HXg0.out.ex EM.out).cell 1
  go_wp2_with fail
  clear crg0 crg0'
  refine (heldCochain_ex Cg0 q0 y0.length ng0 1 W1.heap.size Ug.heap.size W7 (HM0.out.ex EM.out) HY0.out (by omega)).mono ?_
  rintro e W8 ⟨rfl, he⟩
  have EW := Lib.hid (EW.out.trans he)
  have EA := Lib.hid (EA.out.trans he)
  have ES := Lib.hid (ES.out.trans he)
  have EM := Lib.hid (EM.out.trans he)
  have EH := Lib.hid (EH.out.trans he)
  clear he
  rw [HMN0.out, HMM.out]
  go_wp2_with fail
  go_ret
  exact ⟨rfl, EW.out⟩

end Go.Proofs.YtfnjpbjlikajbaaDoor
