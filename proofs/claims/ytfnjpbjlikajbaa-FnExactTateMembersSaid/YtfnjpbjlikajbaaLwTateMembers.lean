/- The law of TateMembers: the walk, whatever the contracts of both functions. -/
import Derived.Deep.RegionHeld3
import Derived.Deep.RegionWith
import Derived.Deep.DeepCutAuto
import Derived.Test.YtfnjpbjlikajbaaExv
namespace Go.Proofs.Ytfnjpbjlikajbaa
open Go.RowKit

set_option maxRecDepth 100000 in
set_option maxHeartbeats 16000000 in
theorem lawTateMembers_any (m0 : Int) (m1 : Int) (m2 : Int) (m3 : Int) (y0 : List Int) (y1 : List Int) (q2 : Int) (w : World) (hy0 : y0.length ≤ 1048576) (hy1 : y1.length ≤ 1048576)
    (HS : ∀ (W : World), Calls Try.prog 17 #[.int .i64 m0, .int .i64 m1, .int .i64 m2, .int .i64 m3] W fun e W' => ∃ (C0 : Option Addr) (e0 : Nat) (C1 : Option Addr) (e1 : Nat), e = .returned (.tuple #[.slice C0 y0.length e0, .slice C1 y1.length e1, .int .i64 q2]) ∧ Ex W W' ∧ OwnL W' W.heap.size W'.heap.size C0 y0 ∧ OwnL W' W.heap.size W'.heap.size C1 y1)
    (HI : ∀ (W : World), Calls Try.prog 18 #[.int .i64 m0, .int .i64 m1, .int .i64 m2, .int .i64 m3] W fun e W' => ∃ (C0 : Option Addr) (e0 : Nat) (C1 : Option Addr) (e1 : Nat) (mid : Nat), e = .returned (.tuple #[.slice C0 y0.length e0, .slice C1 y1.length e1, .int .i64 q2]) ∧ Ex W W' ∧ W.heap.size ≤ mid ∧ mid ≤ W'.heap.size ∧ OwnL W' W.heap.size mid C0 y0 ∧ OwnL W' mid W'.heap.size C1 y1) :
    Calls Try.prog 6 #[.int .i64 m0, .int .i64 m1, .int .i64 m2, .int .i64 m3] w fun e w' => e = .returned (.bool true) ∧ Ex w w' := by
  have e0 : Ex w w := Ex.refl w
  have HY0 := Lib.hid hy0
  have HY1 := Lib.hid hy1
  have HS := Lib.hid HS
  have HI := Lib.hid HI
  clear hy0 hy1
  go_enter Try.func6, Try.ntmps6
  go_wp2_with fail
  obtain ⟨W0, rfl⟩ : ∃ W0 : World, W0 = w := ⟨_, rfl⟩
  have EW := Lib.hid e0
  have EA := Lib.hid (Ex.refl W0)
  clear e0
  go_wp2_with fail
  refine (HS.out  W0).mono ?_
  rintro e Us ⟨Cs0, ns0, Cs1, ns1, rfl, hes, hos0, hos1⟩
  have hfs : Ex W0 Us := hes
  have HOs0 := Lib.hid hos0.ints
  clear hos0
  have HOs1 := Lib.hid hos1.ints
  clear hos1
  clear hes
  have EW := Lib.hid (EW.out.trans hfs)
  have EA := Lib.hid (EA.out.trans hfs)
  clear hfs
  have ES := Lib.hid (Ex.refl Us)
  have hz00 := EW.out.size
  go_wp2_with fail
  refine (HI.out  Us).mono ?_
  rintro e Ug ⟨Cg0, ng0, Cg1, ng1, midg, rfl, heg, hm1g, hm2g, hog0, hog1⟩
  have HOg0 := Lib.hid hog0
  clear hog0
  have HOg1 := Lib.hid hog1
  clear hog1
  have hfg : Ex Us Ug := heg
  have hzg := heg.size
  clear heg
  have hq2 : (q2 != q2) = false := by simp
  have EW := Lib.hid (EW.out.trans hfg)
  have EA := Lib.hid (EA.out.trans hfg)
  have ES := Lib.hid (ES.out.trans hfg)
  clear hfg
  have EG := Lib.hid (Ex.refl Ug)
  go_wp2_with fail
  refine (eqInt64S_ex Cg0 Cs0 y0 ng0 ns0 Ug (HOg0.out.ints.ex EG.out) (HOs0.out.ex ES.out) HY0.out).mono ?_
  rintro e W1 ⟨rfl, he⟩
  have EW := Lib.hid (EW.out.trans he)
  have EA := Lib.hid (EA.out.trans he)
  have ES := Lib.hid (ES.out.trans he)
  have EG := Lib.hid (EG.out.trans he)
  clear he
  go_wp2_with fail
  refine (eqInt64S_ex Cg1 Cs1 y1 ng1 ns1 W1 (HOg1.out.ints.ex EG.out) (HOs1.out.ex ES.out) HY1.out).mono ?_
  rintro e W2 ⟨rfl, he⟩
  have EW := Lib.hid (EW.out.trans he)
  have EA := Lib.hid (EA.out.trans he)
  have ES := Lib.hid (ES.out.trans he)
  have EG := Lib.hid (EG.out.trans he)
  clear he
  -- marks in the copies
  have hzsz := ES.out.size
  -- marks in the result
  have HOg0 := Lib.hid (HOg0.out.ex EG.out)
  have HOg1 := Lib.hid (HOg1.out.ex EG.out)
  clear EG
  go_wp2_with fail
  have hcr0 : y0.length ≤ 1099511627776 := (by have := HY0.out; omega)
  have hgl := HOg0.out.le
  refine (markInt64S_ex Cg0 y0 ng0 1 Us.heap.size midg W2 HOg0.out HY0.out (by omega)).mono ?_
  rintro e W3 ⟨rfl, ho, hmk⟩
  have HM0 := Lib.hid hmk
  clear hmk hgl
  have HOg1 := Lib.hid (HOg1.out.above ho (by omega))
  have hzr0 := ho.size
  have EW := Lib.hid (EW.out.only ho (by omega))
  have EA := Lib.hid (EA.out.only ho (by omega))
  have ES := Lib.hid (ES.out.only ho (by omega))
  obtain ⟨mn0, hmn0⟩ : ∃ mn : Nat, 1 + y0.length = mn := ⟨_, rfl⟩
  rw [hmn0]
  have hml0 : mn0 ≤ 1099511627777 := by omega
  have HMN0 := Lib.hid hmn0
  clear hmn0 ho
  go_wp2_with fail
  have hcr1 : y1.length ≤ 1099511627776 := (by have := HY1.out; omega)
  have hgl := HOg1.out.le
  refine (markInt64S_ex Cg1 y1 ng1 mn0 midg Ug.heap.size W3 HOg1.out HY1.out (by omega)).mono ?_
  rintro e W4 ⟨rfl, ho, hmk⟩
  have HM1 := Lib.hid hmk
  clear hmk hgl
  have HM0 := Lib.hid (HM0.out.under ho (by omega))
  have hzr1 := ho.size
  have EW := Lib.hid (EW.out.only ho (by omega))
  have EA := Lib.hid (EA.out.only ho (by omega))
  have ES := Lib.hid (ES.out.only ho (by omega))
  obtain ⟨mn1, hmn1⟩ : ∃ mn : Nat, mn0 + y1.length = mn := ⟨_, rfl⟩
  rw [hmn1]
  have hml1 : mn1 ≤ 2199023255553 := by omega
  have HMN1 := Lib.hid hmn1
  clear hmn1 ho
  have EM := Lib.hid (Ex.refl W4)
  obtain ⟨mm, hmm⟩ : ∃ mm : Int, (mn1 : Int) = mm := ⟨_, rfl⟩
  have h122 : (mm != mm) = false := by simp
  have HMM := Lib.hid hmm
  rw [hmm]
  clear hmm
  have hmneg0 : decide ((mn0 : Int) < 0) = false := by have := HMM.out; simp only [decide_eq_false_iff_not]; omega
  have hmneg1 : decide (mm < 0) = false := by have := HMM.out; simp only [decide_eq_false_iff_not]; omega
  go_wp2_with fail
  refine (heldInt64S_ex Cg0 y0.length ng0 1 Us.heap.size midg W4 (HM0.out.ex EM.out) HY0.out (by omega)).mono ?_
  rintro e W5 ⟨rfl, he⟩
  have EW := Lib.hid (EW.out.trans he)
  have EA := Lib.hid (EA.out.trans he)
  have ES := Lib.hid (ES.out.trans he)
  have EM := Lib.hid (EM.out.trans he)
  clear he
  rw [HMN0.out]
  go_wp2_with fail
  refine (heldInt64S_ex Cg1 y1.length ng1 mn0 midg Ug.heap.size W5 (HM1.out.ex EM.out) HY1.out (by omega)).mono ?_
  rintro e W6 ⟨rfl, he⟩
  have EW := Lib.hid (EW.out.trans he)
  have EA := Lib.hid (EA.out.trans he)
  have ES := Lib.hid (ES.out.trans he)
  have EM := Lib.hid (EM.out.trans he)
  clear he
  rw [HMN1.out, HMM.out]
  -- the second call
  go_wp2_with fail
  refine (HI.out  W6).mono ?_
  rintro e Uh ⟨Ch0, nh0, Ch1, nh1, midh, rfl, heh, hm1h, hm2h, hoh0, hoh1⟩
  have hfh : Ex W6 Uh := heh
  have HOh0 := Lib.hid hoh0.ints
  clear hoh0
  have HOh1 := Lib.hid hoh1.ints
  clear hoh1
  clear heh
  have EW := Lib.hid (EW.out.trans hfh)
  have EA := Lib.hid (EA.out.trans hfh)
  have ES := Lib.hid (ES.out.trans hfh)
  have EM := Lib.hid (EM.out.trans hfh)
  clear hfh
  have EH := Lib.hid (Ex.refl Uh)
  go_wp2_with fail
  refine (eqInt64S_ex Ch0 Cs0 y0 nh0 ns0 Uh (HOh0.out.ex EH.out) (HOs0.out.ex ES.out) HY0.out).mono ?_
  rintro e W7 ⟨rfl, he⟩
  have EW := Lib.hid (EW.out.trans he)
  have EA := Lib.hid (EA.out.trans he)
  have ES := Lib.hid (ES.out.trans he)
  have EM := Lib.hid (EM.out.trans he)
  have EH := Lib.hid (EH.out.trans he)
  clear he
  go_wp2_with fail
  refine (eqInt64S_ex Ch1 Cs1 y1 nh1 ns1 W7 (HOh1.out.ex EH.out) (HOs1.out.ex ES.out) HY1.out).mono ?_
  rintro e W8 ⟨rfl, he⟩
  have EW := Lib.hid (EW.out.trans he)
  have EA := Lib.hid (EA.out.trans he)
  have ES := Lib.hid (ES.out.trans he)
  have EM := Lib.hid (EM.out.trans he)
  have EH := Lib.hid (EH.out.trans he)
  clear he
  go_wp2_with fail
  refine (heldInt64S_ex Cg0 y0.length ng0 1 Us.heap.size midg W8 (HM0.out.ex EM.out) HY0.out (by omega)).mono ?_
  rintro e W9 ⟨rfl, he⟩
  have EW := Lib.hid (EW.out.trans he)
  have EA := Lib.hid (EA.out.trans he)
  have ES := Lib.hid (ES.out.trans he)
  have EM := Lib.hid (EM.out.trans he)
  have EH := Lib.hid (EH.out.trans he)
  clear he
  rw [HMN0.out]
  go_wp2_with fail
  refine (heldInt64S_ex Cg1 y1.length ng1 mn0 midg Ug.heap.size W9 (HM1.out.ex EM.out) HY1.out (by omega)).mono ?_
  rintro e W10 ⟨rfl, he⟩
  have EW := Lib.hid (EW.out.trans he)
  have EA := Lib.hid (EA.out.trans he)
  have ES := Lib.hid (ES.out.trans he)
  have EM := Lib.hid (EM.out.trans he)
  have EH := Lib.hid (EH.out.trans he)
  clear he
  rw [HMN1.out, HMM.out]
  go_wp2_with fail
  go_ret
  exact ⟨rfl, EW.out⟩

end Go.Proofs.Ytfnjpbjlikajbaa
