/- The law of TrivialModule: the walk, whatever the contracts of both functions. -/
import Derived.Deep.RegionHeld3
import Derived.Deep.RegionWith
import Derived.Deep.DeepCutAuto
import Derived.Test.YtcdijeeabgmgmaaExv
namespace Go.Proofs.Ytcdijeeabgmgmaa
open Go.RowKit

set_option maxRecDepth 100000 in
set_option maxHeartbeats 16000000 in
theorem lawTrivialModule_any (A0 : Option Addr) (t0 : List (List Int)) (c0 : Nat) (m1 : Int) (q0 : Int) (y0 : List Int) (q1 : Int) (w : World) (hR0 : RwsW w A0 t0) (hn0 : t0.length ≤ maxLen) (hl0 : ∀ i, i < t0.length → (row t0 i).length ≤ maxLen) (hy0 : y0.length ≤ 1048576)
    (HS : ∀ (B0 : Option Addr) (d0 : Nat) (W : World), RwsW W B0 t0 → SmallT t0 → Calls Try.prog 6 #[.agg #[.slice B0 t0.length d0], .int .i64 m1] W fun e W' => ∃ (C0 : Option Addr) (e0 : Nat), e = .returned (.tuple #[.agg #[.int .i64 q0, .slice C0 y0.length e0], .int .i64 q1]) ∧ Ex W W' ∧ OwnL W' W.heap.size W'.heap.size C0 y0)
    (HI : ∀ (B0 : Option Addr) (d0 : Nat) (W : World), RwsW W B0 t0 → SmallT t0 → Calls Try.prog 8 #[.agg #[.slice B0 t0.length d0], .int .i64 m1] W fun e W' => ∃ (C0 : Option Addr) (e0 : Nat), e = .returned (.tuple #[.agg #[.int .i64 q0, .slice C0 y0.length e0], .int .i64 q1]) ∧ Ex W W' ∧ OwnL W' W.heap.size W'.heap.size C0 y0) :
    Calls Try.prog 3 #[.agg #[.slice A0 t0.length c0], .int .i64 m1] w fun e w' => e = .returned (.bool true) ∧ Ex w w' := by
  have e0 : Ex w (w.alloc (.cells #[.slice A0 t0.length c0] 24)) := (Ex.refl w).alloc _
  have b0 : Has (w.alloc (.cells #[.slice A0 t0.length c0] 24)) (w.heap.size) 24 #[.slice A0 t0.length c0] := (Has.newAt (w := w) (e := 24) (cs := #[.slice A0 t0.length c0]) (k := w.heap.size) (by simp))
  have HR0 := Lib.hid (hR0.ex e0)
  have HN0 := Lib.hid hn0
  have HL0 := Lib.hid hl0
  have HY0 := Lib.hid hy0
  have HS := Lib.hid HS
  have HI := Lib.hid HI
  clear hR0 hn0 hl0 hy0
  have cb0 := b0.cell 0
  have HB0 := Lib.hid b0
  clear b0
  go_enter Try.func3, Try.ntmps3
  go_wp2_with fail
  generalize (w.alloc (.cells #[.slice A0 t0.length c0] 24)) = W0 at *
  have EW := Lib.hid e0
  have EA := Lib.hid (Ex.refl W0)
  clear e0
  refine (szGroup_ex A0 t0 c0 1048576 W0 (HR0.out.ex EA.out) HN0.out HL0.out (by omega) (by omega)).mono ?_
  rintro e W1 ⟨⟨r0, rfl, hr⟩, he⟩
  have EW := Lib.hid (EW.out.trans he)
  have EA := Lib.hid (EA.out.trans he)
  clear he cb0
  rcases hr with rfl | ⟨hr0, hr1, hs⟩
  · go_wp2
    go_ret
    exact ⟨rfl, EW.out⟩
  have HX0 := Lib.hid hs
  have hneg : decide (r0 < 0) = false := by simp; omega
  clear hs
  clear HN0 HL0
  have cb0 := (HB0.out.ex (EA.out)).cell 0
  go_wp2_with fail
  refine (toGroup_ex A0 t0 c0 W1 (HR0.out.ex (EA.out)) HX0.out).mono ?_
  rintro e Vs0 ⟨Ds0, ks0, rfl, hvs0, hds0⟩
  have HDs0 := Lib.hid hds0
  clear hds0 cb0
  go_wp2_with fail
  refine (HS.out Ds0 ks0 Vs0 (HDs0.out.rws) HX0.out).mono ?_
  rintro e Us ⟨Cs0, ns0, rfl, hes, hos0⟩
  have hfs : Ex W1 Us := (hvs0).trans hes
  have HOs0 := Lib.hid hos0.ints
  clear hos0
  clear hes hvs0 HDs0
  have hbxs0 : Has (Us.alloc (.cells #[.int .i64 q0, .slice Cs0 y0.length ns0] 28)) (Us.heap.size) 28 #[.int .i64 q0, .slice Cs0 y0.length ns0] := (Has.newAt (w := Us) (e := 28) (cs := #[.int .i64 q0, .slice Cs0 y0.length ns0]) (k := Us.heap.size) (by simp))
  have hfbs : Ex W1 (Us.alloc (.cells #[.int .i64 q0, .slice Cs0 y0.length ns0] 28)) := (hfs).alloc _
  have hfus : Ex Us (Us.alloc (.cells #[.int .i64 q0, .slice Cs0 y0.length ns0] 28)) := (Ex.refl _).alloc _
  have cb0 := (HB0.out.ex (EA.out.trans hfbs)).cell 0
  go_wp2_with fail
  generalize (Us.alloc (.cells #[.int .i64 q0, .slice Cs0 y0.length ns0] 28)) = W2 at *
  have HXs0 := Lib.hid hbxs0
  clear hbxs0
  have HOs0 := Lib.hid (HOs0.out.ex hfus)
  have hzus := hfus.size
  have EW := Lib.hid (EW.out.trans hfbs)
  have EA := Lib.hid (EA.out.trans hfbs)
  clear hfbs hfus hfs
  have ES := Lib.hid (Ex.refl W2)
  have hzw := EW.out.size
  have hzl0 := EA.out.size
  have hzs0 := ES.out.size
  refine (toGroup_ex A0 t0 c0 W2 (HR0.out.ex EA.out) HX0.out).mono ?_
  rintro e W3 ⟨D0, k0, rfl, hv, hd⟩
  have hz0 := hv.size
  clear cb0
  have hbx : Has (W3.alloc (.cells #[.slice D0 t0.length k0] 31)) W3.heap.size 31 #[.slice D0 t0.length k0] := Has.new W3 31 #[.slice D0 t0.length k0]
  have hv1 : Ex W3 (W3.alloc (.cells #[.slice D0 t0.length k0] 31)) := Ex.new _ _
  have hv2 : Ex W2 (W3.alloc (.cells #[.slice D0 t0.length k0] 31)) := hv.trans hv1
  have cx0 := hbx.cell 0
  have HD0 := Lib.hid (hd.ex hv1)
  have HBX0 := Lib.hid hbx
  have hzb0 := hbx.lt
  clear hd hbx hv1 hv
  go_wp2_with fail
  generalize (W3.alloc (.cells #[.slice D0 t0.length k0] 31)) = W4 at *
  have EW := Lib.hid (EW.out.trans hv2)
  have EA := Lib.hid (EA.out.trans hv2)
  have ES := Lib.hid (ES.out.trans hv2)
  clear hv2
  have EX0 := Lib.hid (Ex.refl W4)
  refine (HI.out D0 k0 W4 (HD0.out.rws.ex EX0.out) HX0.out).mono ?_
  rintro e Ug ⟨Cg0, ng0, rfl, heg, hog0⟩
  have HOg0 := Lib.hid hog0
  clear hog0
  have hfg : Ex W4 Ug := heg
  have hzg := heg.size
  clear heg cx0
  have hq1 : (q1 != q1) = false := by simp
  have hbxg0 : Has (Ug.alloc (.cells #[.int .i64 q0, .slice Cg0 y0.length ng0] 28)) (Ug.heap.size) 28 #[.int .i64 q0, .slice Cg0 y0.length ng0] := (Has.newAt (w := Ug) (e := 28) (cs := #[.int .i64 q0, .slice Cg0 y0.length ng0]) (k := Ug.heap.size) (by simp))
  have hfbg : Ex W4 (Ug.alloc (.cells #[.int .i64 q0, .slice Cg0 y0.length ng0] 28)) := (hfg).alloc _
  have hfug : Ex Ug (Ug.alloc (.cells #[.int .i64 q0, .slice Cg0 y0.length ng0] 28)) := (Ex.refl _).alloc _
  have crg0 := hbxg0.cell 0
  have crg0' := hbxg0.cell 1
  have crs0 := (HXs0.out.ex (ES.out.trans hfbg)).cell 0
  have crs0' := (HXs0.out.ex (ES.out.trans hfbg)).cell 1
  go_wp2_with fail
  generalize (Ug.alloc (.cells #[.int .i64 q0, .slice Cg0 y0.length ng0] 28)) = W5 at *
  have HXg0 := Lib.hid hbxg0
  clear hbxg0
  have HOg0 := Lib.hid (HOg0.out.ex hfug)
  have hzug := hfug.size
  have EW := Lib.hid (EW.out.trans hfbg)
  have EA := Lib.hid (EA.out.trans hfbg)
  have ES := Lib.hid (ES.out.trans hfbg)
  have EX0 := Lib.hid (EX0.out.trans hfbg)
  clear hfbg hfug hfg
  have EG := Lib.hid (Ex.refl W5)
  clear crg0 crg0'
  clear crs0 crs0'
  refine (eqModule_ex Cg0 Cs0 q0 y0 ng0 ns0 W5 (HOg0.out.ints.ex EG.out) (HOs0.out.ex ES.out) HY0.out).mono ?_
  rintro e W6 ⟨rfl, he⟩
  have EW := Lib.hid (EW.out.trans he)
  have EA := Lib.hid (EA.out.trans he)
  have ES := Lib.hid (ES.out.trans he)
  have EX0 := Lib.hid (EX0.out.trans he)
  have EG := Lib.hid (EG.out.trans he)
  clear he
  have HK := Lib.hid (fun (W' : World) (hb : Ex W6.drew W') => (⟨(HB0.out.ex (EA.out.drew.trans hb)).cell 0, (HBX0.out.ex (EX0.out.drew.trans hb)).cell 0⟩ : (fun w' : World => w'.cell? ⟨w.heap.size, 0, none⟩ = some (.slice A0 t0.length c0) ∧ w'.cell? ⟨W3.heap.size, 0, none⟩ = some (.slice D0 t0.length k0)) W'))
  have ED := Lib.hid EA.out.drew
  have EDX := Lib.hid EX0.out.drew
  go_wp2_with fail
  go_region_held3 (fun w' : World => w'.cell? ⟨w.heap.size, 0, none⟩ = some (.slice A0 t0.length c0) ∧ w'.cell? ⟨W3.heap.size, 0, none⟩ = some (.slice D0 t0.length k0))
    (first
      | exact HK.out _ (Ex.refl _)
      | exact HK.out _ hv
      | exact HK.out _ ht)
    (first
      | (go_at_call 7; refine (toGroup_ex A0 t0 c0 W6.drew (HR0.out.ex ED.out) HX0.out).mono ?_; rintro e Va ⟨Da, ka, rfl, hv, hd⟩; have HDa := Lib.hid hd; clear hd)
      | (go_at_call 10; refine (eqGroup_ex D0 Da t0 k0 ka Va (HD0.out.rws.ex (EDX.out.trans hv)) HDa.out.rws HX0.out).mono ?_; rintro e Vb ⟨rfl, he⟩; have ht : Ex W6.drew Vb := hv.trans he))
  have hu : Ex W6 Vb := (Ex.refl W6).drew.trans ht
  clear HK ED EDX hv ht he HDa
  generalize Vb = W7 at *
  have EW := Lib.hid (EW.out.trans hu)
  have EA := Lib.hid (EA.out.trans hu)
  have ES := Lib.hid (ES.out.trans hu)
  have EX0 := Lib.hid (EX0.out.trans hu)
  have EG := Lib.hid (EG.out.trans hu)
  clear hu
  -- marks in the copies
  have hzsz := ES.out.size
  have cx0 := (HBX0.out.ex EX0.out).cell 0
  have HBX0 := Lib.hid (HBX0.out.ex EX0.out)
  have HD0 := Lib.hid (HD0.out.ex EX0.out)
  have HOg0 := Lib.hid (HOg0.out.ex EG.out)
  have HXg0 := Lib.hid (HXg0.out.ex EG.out)
  have hzgc := EG.out.size
  clear EG EX0
  go_wp2_with fail
  have hcn0 : cntT t0 ≤ 1099511627776 := HX0.out.cnt
  refine (markGroup_ex D0 t0 k0 1 W2.heap.size W3.heap.size W7 HD0.out HX0.out (by omega) (by omega)).mono ?_
  rintro e W8 ⟨rfl, ho, _⟩
  have HOg0 := Lib.hid (HOg0.out.above ho (by omega))
  have HXg0 := Lib.hid (HXg0.out.above ho (by omega))
  have hzm0 := ho.size
  have EW := Lib.hid (EW.out.only ho (by omega))
  have EA := Lib.hid (EA.out.only ho (by omega))
  have ES := Lib.hid (ES.out.only ho (by omega))
  obtain ⟨kn0, hkn0⟩ : ∃ kn : Nat, 1 + cntT t0 = kn := ⟨_, rfl⟩
  rw [hkn0]
  have hkl0 : kn0 ≤ 1099511627777 := by omega
  clear hkn0 ho cx0
  obtain ⟨kz, hkz⟩ : ∃ kz : Int, (kn0 : Int) = kz := ⟨_, rfl⟩
  have hkd : decide (kz < 0) = false := by simp only [decide_eq_false_iff_not]; omega
  rw [hkz]
  clear hkz
  have EG := Lib.hid (Ex.refl W8)
  -- the results again
  have crg0 := (HXg0.out.ex EG.out).cell 0
  have crg0' := (HXg0.out.ex EG.out).cell 1
  have crs0 := (HXs0.out.ex ES.out).cell 0
  have crs0' := (HXs0.out.ex ES.out).cell 1
  go_wp2_with fail
  clear crg0 crg0' crs0 crs0'
  refine (eqModule_ex Cg0 Cs0 q0 y0 ng0 ns0 W8 (HOg0.out.ints.ex EG.out) (HOs0.out.ex ES.out) HY0.out).mono ?_
  rintro e W9 ⟨rfl, he⟩
  have EW := Lib.hid (EW.out.trans he)
  have EA := Lib.hid (EA.out.trans he)
  have ES := Lib.hid (ES.out.trans he)
  have EG := Lib.hid (EG.out.trans he)
  clear he
  clear hkd
  -- marks in the result
  have HOg0 := Lib.hid (HOg0.out.ex EG.out)
  have HXg0 := Lib.hid (HXg0.out.ex EG.out)
  clear EG
  have crg0 := HXg0.out.cell 0
  have crg0' := HXg0.out.cell 1
  go_wp2_with fail
  clear crg0 crg0'
  have hcr0 : y0.length ≤ 1099511627776 := (by have := HY0.out; omega)
  have hgl := HOg0.out.le
  refine (markModule_ex Cg0 q0 y0 ng0 1 W4.heap.size Ug.heap.size W9 HOg0.out HY0.out (by omega) (by omega)).mono ?_
  rintro e W10 ⟨rfl, ho, hmk⟩
  have HM0 := Lib.hid hmk
  clear hmk hgl
  have HXg0 := Lib.hid (HXg0.out.above ho (by omega))
  have hzr0 := ho.size
  have EW := Lib.hid (EW.out.only ho (by omega))
  have EA := Lib.hid (EA.out.only ho (by omega))
  have ES := Lib.hid (ES.out.only ho (by omega))
  obtain ⟨mn0, hmn0⟩ : ∃ mn : Nat, 1 + y0.length = mn := ⟨_, rfl⟩
  rw [hmn0]
  have hml0 : mn0 ≤ 1099511627777 := by omega
  have HMN0 := Lib.hid hmn0
  clear hmn0 ho
  have EM := Lib.hid (Ex.refl W10)
  obtain ⟨mm, hmm⟩ : ∃ mm : Int, (mn0 : Int) = mm := ⟨_, rfl⟩
  have h122 : (mm != mm) = false := by simp
  have HMM := Lib.hid hmm
  rw [hmm]
  clear hmm
  have hmneg0 : decide (mm < 0) = false := by have := HMM.out; simp only [decide_eq_false_iff_not]; omega
  have crg0 := (HXg0.out.ex EM.out).cell 0
  have crg0' := (HXg0.out.ex EM.out).cell 1
  go_wp2_with fail
  clear crg0 crg0'
  refine (heldModule_ex Cg0 q0 y0.length ng0 1 W4.heap.size Ug.heap.size W10 (HM0.out.ex EM.out) HY0.out (by omega)).mono ?_
  rintro e W11 ⟨rfl, he⟩
  have EW := Lib.hid (EW.out.trans he)
  have EA := Lib.hid (EA.out.trans he)
  have ES := Lib.hid (ES.out.trans he)
  have EM := Lib.hid (EM.out.trans he)
  clear he
  rw [HMN0.out, HMM.out]
  -- the second call
  have cb0 := (HB0.out.ex (EA.out)).cell 0
  go_wp2_with fail
  refine (toGroup_ex A0 t0 c0 W11 (HR0.out.ex (EA.out)) HX0.out).mono ?_
  rintro e Vh0 ⟨Dh0, kh0, rfl, hvh0, hdh0⟩
  have HDh0 := Lib.hid hdh0
  clear hdh0 cb0
  go_wp2_with fail
  refine (HI.out Dh0 kh0 Vh0 (HDh0.out.rws) HX0.out).mono ?_
  rintro e Uh ⟨Ch0, nh0, rfl, heh, hoh0⟩
  have hfh : Ex W11 Uh := (hvh0).trans heh
  have HOh0 := Lib.hid hoh0.ints
  clear hoh0
  clear heh hvh0 HDh0
  have hbxh0 : Has (Uh.alloc (.cells #[.int .i64 q0, .slice Ch0 y0.length nh0] 28)) (Uh.heap.size) 28 #[.int .i64 q0, .slice Ch0 y0.length nh0] := (Has.newAt (w := Uh) (e := 28) (cs := #[.int .i64 q0, .slice Ch0 y0.length nh0]) (k := Uh.heap.size) (by simp))
  have hfbh : Ex W11 (Uh.alloc (.cells #[.int .i64 q0, .slice Ch0 y0.length nh0] 28)) := (hfh).alloc _
  have hfuh : Ex Uh (Uh.alloc (.cells #[.int .i64 q0, .slice Ch0 y0.length nh0] 28)) := (Ex.refl _).alloc _
  have crh0 := hbxh0.cell 0
  have crh0' := hbxh0.cell 1
  have crs0 := (HXs0.out.ex (ES.out.trans hfbh)).cell 0
  have crs0' := (HXs0.out.ex (ES.out.trans hfbh)).cell 1
  go_wp2_with fail
  generalize (Uh.alloc (.cells #[.int .i64 q0, .slice Ch0 y0.length nh0] 28)) = W12 at *
  have HXh0 := Lib.hid hbxh0
  clear hbxh0
  have HOh0 := Lib.hid (HOh0.out.ex hfuh)
  have hzuh := hfuh.size
  have EW := Lib.hid (EW.out.trans hfbh)
  have EA := Lib.hid (EA.out.trans hfbh)
  have ES := Lib.hid (ES.out.trans hfbh)
  have EM := Lib.hid (EM.out.trans hfbh)
  clear hfbh hfuh hfh
  have EH := Lib.hid (Ex.refl W12)
  clear crh0 crh0'
  clear crs0 crs0'
  refine (eqModule_ex Ch0 Cs0 q0 y0 nh0 ns0 W12 (HOh0.out.ex EH.out) (HOs0.out.ex ES.out) HY0.out).mono ?_
  rintro e W13 ⟨rfl, he⟩
  have EW := Lib.hid (EW.out.trans he)
  have EA := Lib.hid (EA.out.trans he)
  have ES := Lib.hid (ES.out.trans he)
  have EM := Lib.hid (EM.out.trans he)
  have EH := Lib.hid (EH.out.trans he)
  clear he
  have crg0 := (HXg0.out.ex EM.out).cell 0
  have crg0' := (HXg0.out.ex EM.out).cell 1
  go_wp2_with fail
  clear crg0 crg0'
  refine (heldModule_ex Cg0 q0 y0.length ng0 1 W4.heap.size Ug.heap.size W13 (HM0.out.ex EM.out) HY0.out (by omega)).mono ?_
  rintro e W14 ⟨rfl, he⟩
  have EW := Lib.hid (EW.out.trans he)
  have EA := Lib.hid (EA.out.trans he)
  have ES := Lib.hid (ES.out.trans he)
  have EM := Lib.hid (EM.out.trans he)
  have EH := Lib.hid (EH.out.trans he)
  clear he
  rw [HMN0.out, HMM.out]
  go_wp2_with fail
  go_ret
  exact ⟨rfl, EW.out⟩

end Go.Proofs.Ytcdijeeabgmgmaa
