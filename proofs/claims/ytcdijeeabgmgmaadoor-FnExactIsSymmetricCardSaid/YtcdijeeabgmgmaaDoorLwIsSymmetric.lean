/- The law of IsSymmetric: the walk, whatever the contracts of both functions. -/
import Derived.Deep.RegionHeld3
import Derived.Deep.RegionWith
import Derived.Deep.DeepCutAuto
import Derived.Test.YtcdijeeabgmgmaaDoorExv
namespace Go.Proofs.YtcdijeeabgmgmaaDoor
open Go.RowKit

set_option maxRecDepth 100000 in
set_option maxHeartbeats 16000000 in
theorem lawIsSymmetric_any (A0 : Option Addr) (t0 : List (List Int)) (c0 : Nat) (m1 : Int) (m2 : Int) (A2 : Option Addr) (t2 : List Int) (c2 : Nat) (q0 : Bool) (q1 : Int) (w : World) (hR0 : RwsW w A0 t0) (hn0 : t0.length ≤ maxLen) (hl0 : ∀ i, i < t0.length → (row t0 i).length ≤ maxLen) (hR2 : IntsW w A2 t2) (hn2 : t2.length ≤ maxLen)
    (HS : ∀ (B0 : Option Addr) (d0 : Nat) (B2 : Option Addr) (d2 : Nat) (W : World), RwsW W B0 t0 → IntsW W B2 t2 → SmallT t0 → t2.length ≤ 1048576 → Calls Tryd.prog 15 #[.agg #[.slice B0 t0.length d0], .int .i64 m1, .agg #[.int .i64 m2, .slice B2 t2.length d2]] W fun e W' => e = .returned (.tuple #[.bool q0, .int .i64 q1]) ∧ Ex W W')
    (HI : ∀ (B0 : Option Addr) (d0 : Nat) (B2 : Option Addr) (d2 : Nat) (W : World), RwsW W B0 t0 → IntsW W B2 t2 → SmallT t0 → t2.length ≤ 1048576 → Calls Tryd.prog 18 #[.agg #[.slice B0 t0.length d0], .int .i64 m1, .agg #[.int .i64 m2, .slice B2 t2.length d2]] W fun e W' => e = .returned (.tuple #[.bool q0, .int .i64 q1]) ∧ Ex W W') :
    Calls Tryd.prog 3 #[.agg #[.slice A0 t0.length c0], .int .i64 m1, .agg #[.int .i64 m2, .slice A2 t2.length c2]] w fun e w' => e = .returned (.bool true) ∧ Ex w w' := by
  have e0 : Ex w ((w.alloc (.cells #[.slice A0 t0.length c0] 24)).alloc (.cells #[.int .i64 m2, .slice A2 t2.length c2] 27)) := ((Ex.refl w).alloc _).alloc _
  have b0 : Has ((w.alloc (.cells #[.slice A0 t0.length c0] 24)).alloc (.cells #[.int .i64 m2, .slice A2 t2.length c2] 27)) (w.heap.size) 24 #[.slice A0 t0.length c0] := ((Has.newAt (w := w) (e := 24) (cs := #[.slice A0 t0.length c0]) (k := w.heap.size) (by simp)).alloc _)
  have b2 : Has ((w.alloc (.cells #[.slice A0 t0.length c0] 24)).alloc (.cells #[.int .i64 m2, .slice A2 t2.length c2] 27)) (w.heap.size + 1) 27 #[.int .i64 m2, .slice A2 t2.length c2] := (Has.newAt (w := (w.alloc (.cells #[.slice A0 t0.length c0] 24))) (e := 27) (cs := #[.int .i64 m2, .slice A2 t2.length c2]) (k := w.heap.size + 1) (by simp))
  have HR0 := Lib.hid (hR0.ex e0)
  have HR2 := Lib.hid (hR2.ex e0)
  have HN0 := Lib.hid hn0
  have HL0 := Lib.hid hl0
  have HN2 := Lib.hid hn2
  have HS := Lib.hid HS
  have HI := Lib.hid HI
  clear hR0 hR2 hn0 hn2 hl0
  have cb0 := b0.cell 0
  have HB0 := Lib.hid b0
  have HB2 := Lib.hid b2
  clear b0 b2
  go_enter Tryd.func3, Tryd.ntmps3
  go_wp2_with fail
  generalize ((w.alloc (.cells #[.slice A0 t0.length c0] 24)).alloc (.cells #[.int .i64 m2, .slice A2 t2.length c2] 27)) = W0 at *
  have EW := Lib.hid e0
  have EA := Lib.hid (Ex.refl W0)
  clear e0
  refine (szGroup_ex A0 t0 c0 1048576 W0 (HR0.out.ex EA.out) HN0.out HL0.out (by omega) (by omega)).mono ?_
  rintro e W1 ⟨⟨r0, rfl, hr⟩, he⟩
  have EW := Lib.hid (EW.out.trans he)
  have EA := Lib.hid (EA.out.trans he)
  clear he cb0
  rcases hr with rfl | ⟨hr0, hr1, hs⟩
  · go_wp2
    go_ret
    exact ⟨rfl, EW.out⟩
  have HX0 := Lib.hid hs
  have hneg : decide (r0 < 0) = false := by simp; omega
  clear hs
  have cb2 := (HB2.out.ex EA.out).cell 0
  have cb2' := (HB2.out.ex EA.out).cell 1
  go_wp2_with fail
  refine (szCochain_ex A2 m2 t2 c2 r0 W1 HN2.out (by omega) (by omega)).mono ?_
  rintro e W2 ⟨⟨r2, rfl, hr⟩, he⟩
  have EW := Lib.hid (EW.out.trans he)
  have EA := Lib.hid (EA.out.trans he)
  clear he cb2 cb2' hneg
  rcases hr with rfl | ⟨hr0, hr1, hs⟩
  · go_wp2
    go_ret
    exact ⟨rfl, EW.out⟩
  have HX2 := Lib.hid hs
  have hrl : r2 ≤ 1048576 := by omega
  have hneg : decide (r2 < 0) = false := by simp; omega
  clear hs
  clear HN0 HN2 HL0
  have HKs := Lib.hid (fun (W' : World) (hb : Ex W2.drew W') => (⟨(HB0.out.ex ((EA.out.drew).trans hb)).cell 0, (HB2.out.ex ((EA.out.drew).trans hb)).cell 0, (HB2.out.ex ((EA.out.drew).trans hb)).cell 1⟩ : (fun w' : World => w'.cell? ⟨w.heap.size, 0, none⟩ = some (.slice A0 t0.length c0) ∧ w'.cell? ⟨w.heap.size + 1, 0, none⟩ = some (.int .i64 m2) ∧ w'.cell? ⟨w.heap.size + 1, 1, none⟩ = some (.slice A2 t2.length c2)) W'))
  have ED := Lib.hid (EA.out.drew)
  go_wp2_with fail
  go_region_held3 (fun w' : World => w'.cell? ⟨w.heap.size, 0, none⟩ = some (.slice A0 t0.length c0) ∧ w'.cell? ⟨w.heap.size + 1, 0, none⟩ = some (.int .i64 m2) ∧ w'.cell? ⟨w.heap.size + 1, 1, none⟩ = some (.slice A2 t2.length c2))
    (first
      | exact HKs.out _ (Ex.refl _)
      | exact HKs.out _ (by assumption))
    (first
      | (go_at_call 16; refine (toGroup_ex A0 t0 c0 _ (HR0.out.ex (ED.out.trans (by first | exact Ex.refl _ | assumption | exact Ex.alloc (Ex.refl _) _ | exact Ex.alloc (by assumption) _ | exact Ex.alloc (Ex.alloc (Ex.refl _) _) _ | exact Ex.alloc (Ex.alloc (by assumption) _) _))) HX0.out).mono ?_; rintro e Vs0 ⟨Ds0, ks0, rfl, hvs0, hds0⟩; have hts0 : Ex W2.drew Vs0 := Ex.trans (by first | exact Ex.refl _ | assumption | exact Ex.alloc (Ex.refl _) _ | exact Ex.alloc (by assumption) _ | exact Ex.alloc (Ex.alloc (Ex.refl _) _) _ | exact Ex.alloc (Ex.alloc (by assumption) _) _) hvs0; have HDs0 := Lib.hid hds0; clear hds0)
      | (go_at_call 17; refine (toCochain_ex A2 m2 t2 c2 _ (HR2.out.ex (ED.out.trans (by first | exact Ex.refl _ | assumption | exact Ex.alloc (Ex.refl _) _ | exact Ex.alloc (by assumption) _ | exact Ex.alloc (Ex.alloc (Ex.refl _) _) _ | exact Ex.alloc (Ex.alloc (by assumption) _) _))) HX2.out).mono ?_; rintro e Vs1 ⟨Ds2, ks2, rfl, hvs1, hds2⟩; have hts1 : Ex W2.drew Vs1 := Ex.trans (by first | exact Ex.refl _ | assumption | exact Ex.alloc (Ex.refl _) _ | exact Ex.alloc (by assumption) _ | exact Ex.alloc (Ex.alloc (Ex.refl _) _) _ | exact Ex.alloc (Ex.alloc (by assumption) _) _) hvs1; have HDs2 := Lib.hid hds2; clear hds2; have HDs0 := Lib.hid (HDs0.out.ex hvs1))
      | (go_at_call 15; refine (HS.out Ds0 ks0 Ds2 ks2 _ (HDs0.out.rws) (HDs2.out.ints) HX0.out HX2.out).mono ?_; rintro e Us ⟨rfl, hes⟩; have hts : Ex W2.drew Us := Ex.trans (by first | exact Ex.refl _ | assumption | exact Ex.alloc (Ex.refl _) _ | exact Ex.alloc (by assumption) _ | exact Ex.alloc (Ex.alloc (Ex.refl _) _) _ | exact Ex.alloc (Ex.alloc (by assumption) _) _) hes))
  have hfs : Ex W2 Us := (Ex.refl W2).drew.trans hts
  clear hvs0 hvs1 hts0 hts1 HDs0 HDs2 hts HKs ED hes
  have EW := Lib.hid (EW.out.trans hfs)
  have EA := Lib.hid (EA.out.trans hfs)
  clear hfs
  have ES := Lib.hid (Ex.refl Us)
  have cb0 := (HB0.out.ex EA.out).cell 0
  go_wp2_with fail
  have hzw := EW.out.size
  have hzl0 := EA.out.size
  have hzs0 := ES.out.size
  refine (toGroup_ex A0 t0 c0 Us (HR0.out.ex EA.out) HX0.out).mono ?_
  rintro e W3 ⟨D0, k0, rfl, hv, hd⟩
  have hz0 := hv.size
  clear cb0
  have hbx : Has (W3.alloc (.cells #[.slice D0 t0.length k0] 32)) W3.heap.size 32 #[.slice D0 t0.length k0] := Has.new W3 32 #[.slice D0 t0.length k0]
  have hv1 : Ex W3 (W3.alloc (.cells #[.slice D0 t0.length k0] 32)) := Ex.new _ _
  have hv2 : Ex Us (W3.alloc (.cells #[.slice D0 t0.length k0] 32)) := hv.trans hv1
  have cb2 := (HB2.out.ex (EA.out.trans hv2)).cell 0
  have cb2' := (HB2.out.ex (EA.out.trans hv2)).cell 1
  have HD0 := Lib.hid (hd.ex hv1)
  have HBX0 := Lib.hid hbx
  have hzb0 := hbx.lt
  clear hd hbx hv1 hv
  go_wp2_with fail
  generalize (W3.alloc (.cells #[.slice D0 t0.length k0] 32)) = W4 at *
  have EW := Lib.hid (EW.out.trans hv2)
  have EA := Lib.hid (EA.out.trans hv2)
  have ES := Lib.hid (ES.out.trans hv2)
  clear hv2
  have EX0 := Lib.hid (Ex.refl W4)
  have hzl2 := EA.out.size
  have hzs2 := ES.out.size
  refine (toCochain_ex A2 m2 t2 c2 W4 (HR2.out.ex EA.out) HX2.out).mono ?_
  rintro e W5 ⟨D2, k2, rfl, hv, hd⟩
  have hz2 := hv.size
  clear cb2 cb2'
  have hbx : Has (W5.alloc (.cells #[.int .i64 m2, .slice D2 t2.length k2] 34)) W5.heap.size 34 #[.int .i64 m2, .slice D2 t2.length k2] := Has.new W5 34 #[.int .i64 m2, .slice D2 t2.length k2]
  have hv1 : Ex W5 (W5.alloc (.cells #[.int .i64 m2, .slice D2 t2.length k2] 34)) := Ex.new _ _
  have hv2 : Ex W4 (W5.alloc (.cells #[.int .i64 m2, .slice D2 t2.length k2] 34)) := hv.trans hv1
  have cx0 := (HBX0.out.ex (EX0.out.trans hv2)).cell 0
  have cx2 := hbx.cell 0
  have cx2' := hbx.cell 1
  have HD2 := Lib.hid (hd.ex hv1)
  have HBX2 := Lib.hid hbx
  have hzb2 := hbx.lt
  clear hd hbx hv1 hv
  go_wp2_with fail
  generalize (W5.alloc (.cells #[.int .i64 m2, .slice D2 t2.length k2] 34)) = W6 at *
  have EW := Lib.hid (EW.out.trans hv2)
  have EA := Lib.hid (EA.out.trans hv2)
  have ES := Lib.hid (ES.out.trans hv2)
  have EX0 := Lib.hid (EX0.out.trans hv2)
  clear hv2
  have EX2 := Lib.hid (Ex.refl W6)
  refine (HI.out D0 k0 D2 k2 W6 (HD0.out.rws.ex EX0.out) (HD2.out.ints.ex EX2.out) HX0.out HX2.out).mono ?_
  rintro e Ug ⟨rfl, heg⟩
  have hfg : Ex W6 Ug := heg
  have hzg := heg.size
  clear heg cx0 cx2 cx2'
  have hq0 : (q0 != q0) = false := by simp
  have hq1 : (q1 != q1) = false := by simp
  have EW := Lib.hid (EW.out.trans hfg)
  have EA := Lib.hid (EA.out.trans hfg)
  have ES := Lib.hid (ES.out.trans hfg)
  have EX0 := Lib.hid (EX0.out.trans hfg)
  have EX2 := Lib.hid (EX2.out.trans hfg)
  clear hfg
  have EG := Lib.hid (Ex.refl Ug)
  have HK := Lib.hid (fun (W' : World) (hb : Ex Ug.drew W') => (⟨(HB0.out.ex (EA.out.drew.trans hb)).cell 0, (HBX0.out.ex (EX0.out.drew.trans hb)).cell 0⟩ : (fun w' : World => w'.cell? ⟨w.heap.size, 0, none⟩ = some (.slice A0 t0.length c0) ∧ w'.cell? ⟨W3.heap.size, 0, none⟩ = some (.slice D0 t0.length k0)) W'))
  have ED := Lib.hid EA.out.drew
  have EDX := Lib.hid EX0.out.drew
  go_wp2_with fail
  go_region_held3 (fun w' : World => w'.cell? ⟨w.heap.size, 0, none⟩ = some (.slice A0 t0.length c0) ∧ w'.cell? ⟨W3.heap.size, 0, none⟩ = some (.slice D0 t0.length k0))
    (first
      | exact HK.out _ (Ex.refl _)
      | exact HK.out _ hv
      | exact HK.out _ ht)
    (first
      | (go_at_call 16; refine (toGroup_ex A0 t0 c0 Ug.drew (HR0.out.ex ED.out) HX0.out).mono ?_; rintro e Va ⟨Da, ka, rfl, hv, hd⟩; have HDa := Lib.hid hd; clear hd)
      | (go_at_call 19; refine (eqGroup_ex D0 Da t0 k0 ka Va (HD0.out.rws.ex (EDX.out.trans hv)) HDa.out.rws HX0.out).mono ?_; rintro e Vb ⟨rfl, he⟩; have ht : Ex Ug.drew Vb := hv.trans he))
  have hu : Ex Ug Vb := (Ex.refl Ug).drew.trans ht
  clear HK ED EDX hv ht he HDa
  generalize Vb = W7 at *
  have EW := Lib.hid (EW.out.trans hu)
  have EA := Lib.hid (EA.out.trans hu)
  have ES := Lib.hid (ES.out.trans hu)
  have EX0 := Lib.hid (EX0.out.trans hu)
  have EX2 := Lib.hid (EX2.out.trans hu)
  have EG := Lib.hid (EG.out.trans hu)
  clear hu
  have HK := Lib.hid (fun (W' : World) (hb : Ex W7.drew W') => (⟨(HB2.out.ex (EA.out.drew.trans hb)).cell 0, (HB2.out.ex (EA.out.drew.trans hb)).cell 1, (HBX2.out.ex (EX2.out.drew.trans hb)).cell 0, (HBX2.out.ex (EX2.out.drew.trans hb)).cell 1⟩ : (fun w' : World => w'.cell? ⟨w.heap.size + 1, 0, none⟩ = some (.int .i64 m2) ∧ w'.cell? ⟨w.heap.size + 1, 1, none⟩ = some (.slice A2 t2.length c2) ∧ w'.cell? ⟨W5.heap.size, 0, none⟩ = some (.int .i64 m2) ∧ w'.cell? ⟨W5.heap.size, 1, none⟩ = some (.slice D2 t2.length k2)) W'))
  have ED := Lib.hid EA.out.drew
  have EDX := Lib.hid EX2.out.drew
  go_wp2_with fail
  go_region_held3 (fun w' : World => w'.cell? ⟨w.heap.size + 1, 0, none⟩ = some (.int .i64 m2) ∧ w'.cell? ⟨w.heap.size + 1, 1, none⟩ = some (.slice A2 t2.length c2) ∧ w'.cell? ⟨W5.heap.size, 0, none⟩ = some (.int .i64 m2) ∧ w'.cell? ⟨W5.heap.size, 1, none⟩ = some (.slice D2 t2.length k2))
    (first
      | exact HK.out _ (Ex.refl _)
      | exact HK.out _ hv
      | exact HK.out _ ht)
    (first
      | (go_at_call 17; refine (toCochain_ex A2 m2 t2 c2 W7.drew (HR2.out.ex ED.out) HX2.out).mono ?_; rintro e Va ⟨Da, ka, rfl, hv, hd⟩; have HDa := Lib.hid hd; clear hd)
      | (go_at_call 20; refine (eqCochain_ex D2 Da m2 t2 k2 ka Va (HD2.out.ints.ex (EDX.out.trans hv)) HDa.out.ints HX2.out).mono ?_; rintro e Vb ⟨rfl, he⟩; have ht : Ex W7.drew Vb := hv.trans he))
  have hu : Ex W7 Vb := (Ex.refl W7).drew.trans ht
  clear HK ED EDX hv ht he HDa
  generalize Vb = W8 at *
  have EW := Lib.hid (EW.out.trans hu)
  have EA := Lib.hid (EA.out.trans hu)
  have ES := Lib.hid (ES.out.trans hu)
  have EX0 := Lib.hid (EX0.out.trans hu)
  have EX2 := Lib.hid (EX2.out.trans hu)
  have EG := Lib.hid (EG.out.trans hu)
  clear hu
  go_wp2_with fail
  go_ret
  exact ⟨rfl, EW.out⟩

end Go.Proofs.YtcdijeeabgmgmaaDoor
