/- The law of ReducedCircle: the walk, whatever the contracts of both functions. -/
import Derived.Deep.RegionHeld3
import Derived.Deep.RegionWith
import Derived.Deep.DeepCutAuto
import Derived.Test.YtfnjpbjlikajbaaExv
namespace Go.Proofs.Ytfnjpbjlikajbaa
open Go.RowKit

set_option maxRecDepth 100000 in
set_option maxHeartbeats 16000000 in
theorem lawReducedCircle_any (m0 : Int) (m1 : Int) (m2 : Int) (m3 : Int) (q0 : Int) (q1 : Int) (q2 : Int) (q3 : Int) (w : World)
    (HS : ∀ (W : World), Calls Try.prog 26 #[.int .i64 m0, .int .i64 m1, .int .i64 m2, .int .i64 m3] W fun e W' => e = .returned (.tuple #[.int .i64 q0, .int .i64 q1, .int .i64 q2, .int .i64 q3]) ∧ Ex W W')
    (HI : ∀ (W : World), Calls Try.prog 27 #[.int .i64 m0, .int .i64 m1, .int .i64 m2, .int .i64 m3] W fun e W' => e = .returned (.tuple #[.int .i64 q0, .int .i64 q1, .int .i64 q2, .int .i64 q3]) ∧ Ex W W') :
    Calls Try.prog 9 #[.int .i64 m0, .int .i64 m1, .int .i64 m2, .int .i64 m3] w fun e w' => e = .returned (.bool true) ∧ Ex w w' := by
  have e0 : Ex w w := Ex.refl w
  have HS := Lib.hid HS
  have HI := Lib.hid HI

  go_enter Try.func9, Try.ntmps9
  go_wp2_with fail
  obtain ⟨W0, rfl⟩ : ∃ W0 : World, W0 = w := ⟨_, rfl⟩
  have EW := Lib.hid e0
  have EA := Lib.hid (Ex.refl W0)
  clear e0
  go_wp2_with fail
  refine (HS.out  W0).mono ?_
  rintro e Us ⟨rfl, hes⟩
  have hfs : Ex W0 Us := hes
  clear hes
  have EW := Lib.hid (EW.out.trans hfs)
  have EA := Lib.hid (EA.out.trans hfs)
  clear hfs
  have ES := Lib.hid (Ex.refl Us)
  go_wp2_with fail
  refine (HI.out  Us).mono ?_
  rintro e Ug ⟨rfl, heg⟩
  have hfg : Ex Us Ug := heg
  have hzg := heg.size
  clear heg
  have hq0 : (q0 != q0) = false := by simp
  have hq1 : (q1 != q1) = false := by simp
  have hq2 : (q2 != q2) = false := by simp
  have hq3 : (q3 != q3) = false := by simp
  have EW := Lib.hid (EW.out.trans hfg)
  have EA := Lib.hid (EA.out.trans hfg)
  have ES := Lib.hid (ES.out.trans hfg)
  clear hfg
  have EG := Lib.hid (Ex.refl Ug)
  go_wp2_with fail
  go_ret
  exact ⟨rfl, EW.out⟩

end Go.Proofs.Ytfnjpbjlikajbaa
