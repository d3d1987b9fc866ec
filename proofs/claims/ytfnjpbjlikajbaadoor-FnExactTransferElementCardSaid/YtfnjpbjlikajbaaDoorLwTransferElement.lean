/- The law of TransferElement: the walk, whatever the contracts of both functions. -/
import Derived.Deep.RegionHeld3
import Derived.Deep.RegionWith
import Derived.Deep.DeepCutAuto
import Derived.Test.YtfnjpbjlikajbaaDoorExv
import Derived.Test.YtfnjpbjlikajbaaDoorSm
namespace Go.Proofs.YtfnjpbjlikajbaaDoor
open Go.RowKit

set_option maxRecDepth 100000 in
set_option maxHeartbeats 16000000 in
theorem lawTransferElement_any (A0 : Option Addr) (t0 : List (List Int)) (c0 : Nat) (A1 : Option Addr) (t1 : List Int) (c1 : Nat) (m2 : Int) (q0 : Int) (q1 : Int) (w : World) (hR0 : RwsW w A0 t0) (hn0 : t0.length ≤ maxLen) (hl0 : ∀ i, i < t0.length → (row t0 i).length ≤ maxLen) (hR1 : IntsW w A1 t1) (hn1 : t1.length ≤ maxLen) (hT : TabL w)
    (HS : ∀ (B0 : Option Addr) (d0 : Nat) (B1 : Option Addr) (d1 : Nat) (W : World), RwsW W B0 t0 → IntsW W B1 t1 → SmallT t0 → t1.length ≤ 1048576 → Calls Tryd.prog 14 #[.agg #[.slice B0 t0.length d0], .slice B1 t1.length d1, .int .i64 m2] W fun e W' => e = .returned (.tuple #[.int .i64 q0, .int .i64 q1]) ∧ Ex W W')
    (HI : ∀ (B0 : Option Addr) (d0 : Nat) (B1 : Option Addr) (d1 : Nat) (W : World), RwsW W B0 t0 → IntsW W B1 t1 → SmallT t0 → t1.length ≤ 1048576 → TabL W → Calls Tryd.prog 17 #[.agg #[.slice B0 t0.length d0], .slice B1 t1.length d1, .int .i64 m2] W fun e W' => e = .returned (.tuple #[.int .i64 q0, .int .i64 q1]) ∧ Ex W W') :
    Calls Tryd.prog 5 #[.agg #[.slice A0 t0.length c0], .slice A1 t1.length c1, .int .i64 m2] w fun e w' => e = .returned (.bool true) ∧ Ex w w' := by
  have e0 : Ex w (w.alloc (.cells #[.slice A0 t0.length c0] 32)) := (Ex.refl w).alloc _
  have b0 : Has (w.alloc (.cells #[.slice A0 t0.length c0] 32)) (w.heap.size) 32 #[.slice A0 t0.length c0] := (Has.newAt (w := w) (e := 32) (cs := #[.slice A0 t0.length c0]) (k := w.heap.size) (by simp))
  have HR0 := Lib.hid (hR0.ex e0)
  have HR1 := Lib.hid (hR1.ex e0)
  have HN0 := Lib.hid hn0
  have HL0 := Lib.hid hl0
  have HS := Lib.hid HS
  have HI := Lib.hid HI
  have HTL := Lib.hid hT
  clear hT
  clear hR0 hR1 hn0 hl0
  have cb0 := b0.cell 0
  have HB0 := Lib.hid b0
  clear b0
  unfold maxLen at hn1
  by_cases hbig : 1048576 < t1.length
  · have hbb1 : decide ((1048576 : Int) < (t1.length : Int)) = true := by simp; omega
    go_enter Tryd.func5, Tryd.ntmps5
    go_wp2
    go_ret
    exact ⟨rfl, e0⟩
  have hbb1 : decide ((1048576 : Int) < (t1.length : Int)) = false := by simp; omega
  have HX1 := Lib.hid (show t1.length ≤ 1048576 by omega)
  clear hbig hn1
  go_enter Tryd.func5, Tryd.ntmps5
  go_wp2_with fail
  generalize (w.alloc (.cells #[.slice A0 t0.length c0] 32)) = W0 at *
  have EW := Lib.hid e0
  have EA := Lib.hid (Ex.refl W0)
  clear e0
  clear hbb1
  refine (szGroup_ex A0 t0 c0 1048576 W0 (HR0.out.ex EA.out) HN0.out HL0.out (by omega) (by omega)).mono ?_
  rintro e W1 ⟨⟨r0, rfl, hr⟩, he⟩
  have EW := Lib.hid (EW.out.trans he)
  have EA := Lib.hid (EA.out.trans he)
  clear he cb0
  rcases hr with rfl | ⟨hr0, hr1, hs⟩
  · go_wp2
    go_ret
    exact ⟨rfl, EW.out⟩
  have HX0 := Lib.hid hs
  have hneg : decide (r0 < 0) = false := by simp; omega
  clear hs
  clear HN0 HL0
  have cb0 := (HB0.out.ex (EA.out)).cell 0
  go_wp2_with fail
  refine (toGroup_ex A0 t0 c0 W1 (HR0.out.ex (EA.out)) HX0.out).mono ?_
  rintro e Vs0 ⟨Ds0, ks0, rfl, hvs0, hds0⟩
  have HDs0 := Lib.hid hds0
  clear hds0 cb0
  go_wp2_with fail
  refine (toInt64S_ex A1 t1 c1 Vs0 (HR1.out.ex ((EA.out).trans hvs0)) HX1.out).mono ?_
  rintro e Vs1 ⟨Ds1, ks1, rfl, hvs1, hds1⟩
  have HDs1 := Lib.hid hds1
  have HDs0 := Lib.hid (HDs0.out.ex hvs1)
  clear hds1
  go_wp2_with fail
  refine (HS.out Ds0 ks0 Ds1 ks1 Vs1 (HDs0.out.rws) (HDs1.out.ints) HX0.out HX1.out).mono ?_
  rintro e Us ⟨rfl, hes⟩
  have hfs : Ex W1 Us := ((hvs0).trans (hvs1)).trans hes
  clear hes hvs0 HDs0 hvs1 HDs1
  have EW := Lib.hid (EW.out.trans hfs)
  have EA := Lib.hid (EA.out.trans hfs)
  clear hfs
  have ES := Lib.hid (Ex.refl Us)
  have cb0 := (HB0.out.ex EA.out).cell 0
  go_wp2_with fail
  have hzw := EW.out.size
  have hzl0 := EA.out.size
  have hzs0 := ES.out.size
  refine (toGroup_ex A0 t0 c0 Us (HR0.out.ex EA.out) HX0.out).mono ?_
  rintro e W2 ⟨D0, k0, rfl, hv, hd⟩
  have hz0 := hv.size
  clear cb0
  have hbx : Has (W2.alloc (.cells #[.slice D0 t0.length k0] 36)) W2.heap.size 36 #[.slice D0 t0.length k0] := Has.new W2 36 #[.slice D0 t0.length k0]
  have hv1 : Ex W2 (W2.alloc (.cells #[.slice D0 t0.length k0] 36)) := Ex.new _ _
  have hv2 : Ex Us (W2.alloc (.cells #[.slice D0 t0.length k0] 36)) := hv.trans hv1
  have HD0 := Lib.hid (hd.ex hv1)
  have HBX0 := Lib.hid hbx
  have hzb0 := hbx.lt
  clear hd hbx hv1 hv
  go_wp2_with fail
  generalize (W2.alloc (.cells #[.slice D0 t0.length k0] 36)) = W3 at *
  have EW := Lib.hid (EW.out.trans hv2)
  have EA := Lib.hid (EA.out.trans hv2)
  have ES := Lib.hid (ES.out.trans hv2)
  clear hv2
  have EX0 := Lib.hid (Ex.refl W3)
  have hzl1 := EA.out.size
  have hzs1 := ES.out.size
  refine (toInt64S_ex A1 t1 c1 W3 (HR1.out.ex EA.out) HX1.out).mono ?_
  rintro e W4 ⟨D1, k1, rfl, hv, hd⟩
  have hz1 := hv.size
  have HD1 := Lib.hid hd
  clear hd
  have EW := Lib.hid (EW.out.trans hv)
  have EA := Lib.hid (EA.out.trans hv)
  have ES := Lib.hid (ES.out.trans hv)
  have EX0 := Lib.hid (EX0.out.trans hv)
  clear hv
  have EX1 := Lib.hid (Ex.refl W4)
  have cx0 := (HBX0.out.ex EX0.out).cell 0
  go_wp2_with fail
  refine (HI.out D0 k0 D1 k1 W4 (HD0.out.rws.ex EX0.out) (HD1.out.ints.ex EX1.out) HX0.out HX1.out (HTL.out.ex (EW.out))).mono ?_
  rintro e Ug ⟨rfl, heg⟩
  have hfg : Ex W4 Ug := heg
  have hzg := heg.size
  clear heg cx0
  have hq0 : (q0 != q0) = false := by simp
  have hq1 : (q1 != q1) = false := by simp
  have EW := Lib.hid (EW.out.trans hfg)
  have EA := Lib.hid (EA.out.trans hfg)
  have ES := Lib.hid (ES.out.trans hfg)
  have EX0 := Lib.hid (EX0.out.trans hfg)
  have EX1 := Lib.hid (EX1.out.trans hfg)
  clear hfg
  have EG := Lib.hid (Ex.refl Ug)
  have HK := Lib.hid (fun (W' : World) (hb : Ex Ug.drew W') => (⟨(HB0.out.ex (EA.out.drew.trans hb)).cell 0, (HBX0.out.ex (EX0.out.drew.trans hb)).cell 0⟩ : (fun w' : World => w'.cell? ⟨w.heap.size, 0, none⟩ = some (.slice A0 t0.length c0) ∧ w'.cell? ⟨W2.heap.size, 0, none⟩ = some (.slice D0 t0.length k0)) W'))
  have ED := Lib.hid EA.out.drew
  have EDX := Lib.hid EX0.out.drew
  go_wp2_with fail
  go_region_held3 (fun w' : World => w'.cell? ⟨w.heap.size, 0, none⟩ = some (.slice A0 t0.length c0) ∧ w'.cell? ⟨W2.heap.size, 0, none⟩ = some (.slice D0 t0.length k0))
    (first
      | exact HK.out _ (Ex.refl _)
      | exact HK.out _ hv
      | exact HK.out _ ht)
    (first
      | (go_at_call 15; refine (toGroup_ex A0 t0 c0 Ug.drew (HR0.out.ex ED.out) HX0.out).mono ?_; rintro e Va ⟨Da, ka, rfl, hv, hd⟩; have HDa := Lib.hid hd; clear hd)
      | (go_at_call 18; refine (eqGroup_ex D0 Da t0 k0 ka Va (HD0.out.rws.ex (EDX.out.trans hv)) HDa.out.rws HX0.out).mono ?_; rintro e Vb ⟨rfl, he⟩; have ht : Ex Ug.drew Vb := hv.trans he))
  have hu : Ex Ug Vb := (Ex.refl Ug).drew.trans ht
  clear HK ED EDX hv ht he HDa
  generalize Vb = W5 at *
  have EW := Lib.hid (EW.out.trans hu)
  have EA := Lib.hid (EA.out.trans hu)
  have ES := Lib.hid (ES.out.trans hu)
  have EX0 := Lib.hid (EX0.out.trans hu)
  have EX1 := Lib.hid (EX1.out.trans hu)
  have EG := Lib.hid (EG.out.trans hu)
  clear hu
  go_wp2_with fail
  refine (toInt64S_ex A1 t1 c1 W5 (HR1.out.ex EA.out) HX1.out).mono ?_
  rintro e W6 ⟨Da, ka, rfl, hv, hd⟩
  have HDa := Lib.hid hd
  clear hd
  have EW := Lib.hid (EW.out.trans hv)
  have EA := Lib.hid (EA.out.trans hv)
  have ES := Lib.hid (ES.out.trans hv)
  have EX0 := Lib.hid (EX0.out.trans hv)
  have EX1 := Lib.hid (EX1.out.trans hv)
  have EG := Lib.hid (EG.out.trans hv)
  clear hv
  go_wp2_with fail
  refine (eqInt64S_ex D1 Da t1 k1 ka W6 (HD1.out.ints.ex EX1.out) HDa.out.ints HX1.out).mono ?_
  rintro e W7 ⟨rfl, he⟩
  clear HDa
  have EW := Lib.hid (EW.out.trans he)
  have EA := Lib.hid (EA.out.trans he)
  have ES := Lib.hid (ES.out.trans he)
  have EX0 := Lib.hid (EX0.out.trans he)
  have EX1 := Lib.hid (EX1.out.trans he)
  have EG := Lib.hid (EG.out.trans he)
  clear he
  go_wp2_with fail
  go_ret
  exact ⟨rfl, EW.out⟩

end Go.Proofs.YtfnjpbjlikajbaaDoor
