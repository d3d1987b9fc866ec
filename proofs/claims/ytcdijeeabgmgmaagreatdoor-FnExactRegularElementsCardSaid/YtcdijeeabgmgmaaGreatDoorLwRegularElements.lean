/- The law of RegularElements: the walk, whatever the contracts of both functions. -/
import Derived.Deep.RegionHeld3
import Derived.Deep.RegionWith
import Derived.Deep.DeepCutAuto
import Derived.Test.YtcdijeeabgmgmaaGreatDoorExv
import Derived.Test.YtcdijeeabgmgmaaGreatDoorSm
namespace Go.Proofs.YtcdijeeabgmgmaaGreatDoor
open Go.RowKit

set_option maxRecDepth 100000 in
set_option maxHeartbeats 16000000 in
theorem lawRegularElements_any (A0 : Option Addr) (t0 : List (List Int)) (c0 : Nat) (m1 : Int) (m2 : Int) (A2 : Option Addr) (t2 : List Int) (c2 : Nat) (y0 : List Int) (q1 : Int) (w : World) (hR0 : RwsW w A0 t0) (hn0 : t0.length ≤ maxLen) (hl0 : ∀ i, i < t0.length → (row t0 i).length ≤ maxLen) (hR2 : IntsW w A2 t2) (hn2 : t2.length ≤ maxLen) (hy0 : y0.length ≤ 1048576) (hT : TabL w)
    (HS : ∀ (B0 : Option Addr) (d0 : Nat) (B2 : Option Addr) (d2 : Nat) (W : World), RwsW W B0 t0 → IntsW W B2 t2 → SmallT t0 → t2.length ≤ 1048576 → Calls Tryz.prog 8 #[.agg #[.slice B0 t0.length d0], .int .i64 m1, .agg #[.int .i64 m2, .slice B2 t2.length d2]] W fun e W' => ∃ (C0 : Option Addr) (e0 : Nat), e = .returned (.tuple #[.slice C0 y0.length e0, .int .i64 q1]) ∧ Ex W W' ∧ OwnL W' W.heap.size W'.heap.size C0 y0)
    (HI : ∀ (B0 : Option Addr) (d0 : Nat) (B2 : Option Addr) (d2 : Nat) (W : World), RwsW W B0 t0 → IntsW W B2 t2 → SmallT t0 → t2.length ≤ 1048576 → TabL W → Calls Tryz.prog 11 #[.agg #[.slice B0 t0.length d0], .int .i64 m1, .agg #[.int .i64 m2, .slice B2 t2.length d2]] W fun e W' => ∃ (C0 : Option Addr) (e0 : Nat), e = .returned (.tuple #[.slice C0 y0.length e0, .int .i64 q1]) ∧ Ex W W' ∧ OwnL W' W.heap.size W'.heap.size C0 y0) :
    Calls Tryz.prog 3 #[.agg #[.slice A0 t0.length c0], .int .i64 m1, .agg #[.int .i64 m2, .slice A2 t2.length c2]] w fun e w' => e = .returned (.bool true) ∧ Ex w w' := by
  have e0 : Ex w ((w.alloc (.cells #[.slice A0 t0.length c0] 24)).alloc (.cells #[.int .i64 m2, .slice A2 t2.length c2] 27)) := ((Ex.refl w).alloc _).alloc _
  have b0 : Has ((w.alloc (.cells #[.slice A0 t0.length c0] 24)).alloc (.cells #[.int .i64 m2, .slice A2 t2.length c2] 27)) (w.heap.size) 24 #[.slice A0 t0.length c0] := ((Has.newAt (w := w) (e := 24) (cs := #[.slice A0 t0.length c0]) (k := w.heap.size) (by simp)).alloc _)
  have b2 : Has ((w.alloc (.cells #[.slice A0 t0.length c0] 24)).alloc (.cells #[.int .i64 m2, .slice A2 t2.length c2] 27)) (w.heap.size + 1) 27 #[.int .i64 m2, .slice A2 t2.length c2] := (Has.newAt (w := (w.alloc (.cells #[.slice A0 t0.length c0] 24))) (e := 27) (cs := #[.int .i64 m2, .slice A2 t2.length c2]) (k := w.heap.size + 1) (by simp))
  have HR0 := Lib.hid (hR0.ex e0)
  have HR2 := Lib.hid (hR2.ex e0)
  have HN0 := Lib.hid hn0
  have HL0 := Lib.hid hl0
  have HN2 := Lib.hid hn2
  have HY0 := Lib.hid hy0
  have HS := Lib.hid HS
  have HI := Lib.hid HI
  have HTL := Lib.hid hT
  clear hT
  clear hR0 hR2 hn0 hn2 hl0 hy0
  have cb0 := b0.cell 0
  have HB0 := Lib.hid b0
  have HB2 := Lib.hid b2
  clear b0 b2
  go_enter Tryz.func3, Tryz.ntmps3
  go_wp2_with fail
  generalize ((w.alloc (.cells #[.slice A0 t0.length c0] 24)).alloc (.cells #[.int .i64 m2, .slice A2 t2.length c2] 27)) = W0 at *
  have EW := Lib.hid e0
  have EA := Lib.hid (Ex.refl W0)
  clear e0
  refine (szGroup_ex A0 t0 c0 1048576 W0 (HR0.out.ex EA.out) HN0.out HL0.out (by omega) (by omega)).mono ?_
  rintro e W1 ⟨⟨r0, rfl, hr⟩, he⟩
  have EW := Lib.hid (EW.out.trans he)
  have EA := Lib.hid (EA.out.trans he)
  clear he cb0
  rcases hr with rfl | ⟨hr0, hr1, hs⟩
  · go_wp2
    go_ret
    exact ⟨rfl, EW.out⟩
  have HX0 := Lib.hid hs
  have hneg : decide (r0 < 0) = false := by simp; omega
  clear hs
  have cb2 := (HB2.out.ex EA.out).cell 0
  have cb2' := (HB2.out.ex EA.out).cell 1
  go_wp2_with fail
  refine (szCochain_ex A2 m2 t2 c2 r0 W1 HN2.out (by omega) (by omega)).mono ?_
  rintro e W2 ⟨⟨r2, rfl, hr⟩, he⟩
  have EW := Lib.hid (EW.out.trans he)
  have EA := Lib.hid (EA.out.trans he)
  clear he cb2 cb2' hneg
  rcases hr with rfl | ⟨hr0, hr1, hs⟩
  · go_wp2
    go_ret
    exact ⟨rfl, EW.out⟩
  have HX2 := Lib.hid hs
  have hrl : r2 ≤ 1048576 := by omega
  have hneg : decide (r2 < 0) = false := by simp; omega
  clear hs
  clear HN0 HN2 HL0
  have HKs := Lib.hid (fun (W' : World) (hb : Ex W2.drew W') => (⟨(HB0.out.ex ((EA.out.drew).trans hb)).cell 0, (HB2.out.ex ((EA.out.drew).trans hb)).cell 0, (HB2.out.ex ((EA.out.drew).trans hb)).cell 1⟩ : (fun w' : World => w'.cell? ⟨w.heap.size, 0, none⟩ = some (.slice A0 t0.length c0) ∧ w'.cell? ⟨w.heap.size + 1, 0, none⟩ = some (.int .i64 m2) ∧ w'.cell? ⟨w.heap.size + 1, 1, none⟩ = some (.slice A2 t2.length c2)) W'))
  have ED := Lib.hid (EA.out.drew)
  go_wp2_with fail
  go_region_held3 (fun w' : World => w'.cell? ⟨w.heap.size, 0, none⟩ = some (.slice A0 t0.length c0) ∧ w'.cell? ⟨w.heap.size + 1, 0, none⟩ = some (.int .i64 m2) ∧ w'.cell? ⟨w.heap.size + 1, 1, none⟩ = some (.slice A2 t2.length c2))
    (first
      | exact HKs.out _ (Ex.refl _)
      | exact HKs.out _ (by assumption))
    (first
      | (go_at_call 9; refine (toGroup_ex A0 t0 c0 _ (HR0.out.ex (ED.out.trans (by first | exact Ex.refl _ | assumption | exact Ex.alloc (Ex.refl _) _ | exact Ex.alloc (by assumption) _ | exact Ex.alloc (Ex.alloc (Ex.refl _) _) _ | exact Ex.alloc (Ex.alloc (by assumption) _) _))) HX0.out).mono ?_; rintro e Vs0 ⟨Ds0, ks0, rfl, hvs0, hds0⟩; have hts0 : Ex W2.drew Vs0 := Ex.trans (by first | exact Ex.refl _ | assumption | exact Ex.alloc (Ex.refl _) _ | exact Ex.alloc (by assumption) _ | exact Ex.alloc (Ex.alloc (Ex.refl _) _) _ | exact Ex.alloc (Ex.alloc (by assumption) _) _) hvs0; have HDs0 := Lib.hid hds0; clear hds0)
      | (go_at_call 10; refine (toCochain_ex A2 m2 t2 c2 _ (HR2.out.ex (ED.out.trans (by first | exact Ex.refl _ | assumption | exact Ex.alloc (Ex.refl _) _ | exact Ex.alloc (by assumption) _ | exact Ex.alloc (Ex.alloc (Ex.refl _) _) _ | exact Ex.alloc (Ex.alloc (by assumption) _) _))) HX2.out).mono ?_; rintro e Vs1 ⟨Ds2, ks2, rfl, hvs1, hds2⟩; have hts1 : Ex W2.drew Vs1 := Ex.trans (by first | exact Ex.refl _ | assumption | exact Ex.alloc (Ex.refl _) _ | exact Ex.alloc (by assumption) _ | exact Ex.alloc (Ex.alloc (Ex.refl _) _) _ | exact Ex.alloc (Ex.alloc (by assumption) _) _) hvs1; have HDs2 := Lib.hid hds2; clear hds2; have HDs0 := Lib.hid (HDs0.out.ex hvs1))
      | (go_at_call 8; refine (HS.out Ds0 ks0 Ds2 ks2 _ (HDs0.out.rws) (HDs2.out.ints) HX0.out HX2.out).mono ?_; rintro e Us ⟨Cs0, ns0, rfl, hes, hos0⟩; have hts : Ex W2.drew Us := Ex.trans (by first | exact Ex.refl _ | assumption | exact Ex.alloc (Ex.refl _) _ | exact Ex.alloc (by assumption) _ | exact Ex.alloc (Ex.alloc (Ex.refl _) _) _ | exact Ex.alloc (Ex.alloc (by assumption) _) _) hes; have HOs0 := Lib.hid hos0; clear hos0))
  have hfs : Ex W2 Us := (Ex.refl W2).drew.trans hts
  have HOs0 := Lib.hid HOs0.out.ints
  clear hvs0 hvs1 hts0 hts1 HDs0 HDs2 hts HKs ED hes
  have EW := Lib.hid (EW.out.trans hfs)
  have EA := Lib.hid (EA.out.trans hfs)
  clear hfs
  have ES := Lib.hid (Ex.refl Us)
  have cb0 := (HB0.out.ex EA.out).cell 0
  go_wp2_with fail
  have hzw := EW.out.size
  have hzl0 := EA.out.size
  have hzs0 := ES.out.size
  refine (toGroup_ex A0 t0 c0 Us (HR0.out.ex EA.out) HX0.out).mono ?_
  rintro e W3 ⟨D0, k0, rfl, hv, hd⟩
  have hz0 := hv.size
  clear cb0
  have hbx : Has (W3.alloc (.cells #[.slice D0 t0.length k0] 32)) W3.heap.size 32 #[.slice D0 t0.length k0] := Has.new W3 32 #[.slice D0 t0.length k0]
  have hv1 : Ex W3 (W3.alloc (.cells #[.slice D0 t0.length k0] 32)) := Ex.new _ _
  have hv2 : Ex Us (W3.alloc (.cells #[.slice D0 t0.length k0] 32)) := hv.trans hv1
  have cb2 := (HB2.out.ex (EA.out.trans hv2)).cell 0
  have cb2' := (HB2.out.ex (EA.out.trans hv2)).cell 1
  have HD0 := Lib.hid (hd.ex hv1)
  have HBX0 := Lib.hid hbx
  have hzb0 := hbx.lt
  clear hd hbx hv1 hv
  go_wp2_with fail
  generalize (W3.alloc (.cells #[.slice D0 t0.length k0] 32)) = W4 at *
  have EW := Lib.hid (EW.out.trans hv2)
  have EA := Lib.hid (EA.out.trans hv2)
  have ES := Lib.hid (ES.out.trans hv2)
  clear hv2
  have EX0 := Lib.hid (Ex.refl W4)
  have hzl2 := EA.out.size
  have hzs2 := ES.out.size
  refine (toCochain_ex A2 m2 t2 c2 W4 (HR2.out.ex EA.out) HX2.out).mono ?_
  rintro e W5 ⟨D2, k2, rfl, hv, hd⟩
  have hz2 := hv.size
  clear cb2 cb2'
  have hbx : Has (W5.alloc (.cells #[.int .i64 m2, .slice D2 t2.length k2] 34)) W5.heap.size 34 #[.int .i64 m2, .slice D2 t2.length k2] := Has.new W5 34 #[.int .i64 m2, .slice D2 t2.length k2]
  have hv1 : Ex W5 (W5.alloc (.cells #[.int .i64 m2, .slice D2 t2.length k2] 34)) := Ex.new _ _
  have hv2 : Ex W4 (W5.alloc (.cells #[.int .i64 m2, .slice D2 t2.length k2] 34)) := hv.trans hv1
  have cx0 := (HBX0.out.ex (EX0.out.trans hv2)).cell 0
  have cx2 := hbx.cell 0
  have cx2' := hbx.cell 1
  have HD2 := Lib.hid (hd.ex hv1)
  have HBX2 := Lib.hid hbx
  have hzb2 := hbx.lt
  clear hd hbx hv1 hv
  go_wp2_with fail
  generalize (W5.alloc (.cells #[.int .i64 m2, .slice D2 t2.length k2] 34)) = W6 at *
  have EW := Lib.hid (EW.out.trans hv2)
  have EA := Lib.hid (EA.out.trans hv2)
  have ES := Lib.hid (ES.out.trans hv2)
  have EX0 := Lib.hid (EX0.out.trans hv2)
  clear hv2
  have EX2 := Lib.hid (Ex.refl W6)
  refine (HI.out D0 k0 D2 k2 W6 (HD0.out.rws.ex EX0.out) (HD2.out.ints.ex EX2.out) HX0.out HX2.out (HTL.out.ex (EW.out))).mono ?_
  rintro e Ug ⟨Cg0, ng0, rfl, heg, hog0⟩
  have HOg0 := Lib.hid hog0
  clear hog0
  have hfg : Ex W6 Ug := heg
  have hzg := heg.size
  clear heg cx0 cx2 cx2'
  have hq1 : (q1 != q1) = false := by simp
  have EW := Lib.hid (EW.out.trans hfg)
  have EA := Lib.hid (EA.out.trans hfg)
  have ES := Lib.hid (ES.out.trans hfg)
  have EX0 := Lib.hid (EX0.out.trans hfg)
  have EX2 := Lib.hid (EX2.out.trans hfg)
  clear hfg
  have EG := Lib.hid (Ex.refl Ug)
  go_wp2_with fail
  refine (eqInt64S_ex Cg0 Cs0 y0 ng0 ns0 Ug (HOg0.out.ints.ex EG.out) (HOs0.out.ex ES.out) HY0.out).mono ?_
  rintro e W7 ⟨rfl, he⟩
  have EW := Lib.hid (EW.out.trans he)
  have EA := Lib.hid (EA.out.trans he)
  have ES := Lib.hid (ES.out.trans he)
  have EX0 := Lib.hid (EX0.out.trans he)
  have EX2 := Lib.hid (EX2.out.trans he)
  have EG := Lib.hid (EG.out.trans he)
  clear he
  have HK := Lib.hid (fun (W' : World) (hb : Ex W7.drew W') => (⟨(HB0.out.ex (EA.out.drew.trans hb)).cell 0, (HBX0.out.ex (EX0.out.drew.trans hb)).cell 0⟩ : (fun w' : World => w'.cell? ⟨w.heap.size, 0, none⟩ = some (.slice A0 t0.length c0) ∧ w'.cell? ⟨W3.heap.size, 0, none⟩ = some (.slice D0 t0.length k0)) W'))
  have ED := Lib.hid EA.out.drew
  have EDX := Lib.hid EX0.out.drew
  go_wp2_with fail
  go_region_held3 (fun w' : World => w'.cell? ⟨w.heap.size, 0, none⟩ = some (.slice A0 t0.length c0) ∧ w'.cell? ⟨W3.heap.size, 0, none⟩ = some (.slice D0 t0.length k0))
    (first
      | exact HK.out _ (Ex.refl _)
      | exact HK.out _ hv
      | exact HK.out _ ht)
    (first
      | (go_at_call 9; refine (toGroup_ex A0 t0 c0 W7.drew (HR0.out.ex ED.out) HX0.out).mono ?_; rintro e Va ⟨Da, ka, rfl, hv, hd⟩; have HDa := Lib.hid hd; clear hd)
      | (go_at_call 13; refine (eqGroup_ex D0 Da t0 k0 ka Va (HD0.out.rws.ex (EDX.out.trans hv)) HDa.out.rws HX0.out).mono ?_; rintro e Vb ⟨rfl, he⟩; have ht : Ex W7.drew Vb := hv.trans he))
  have hu : Ex W7 Vb := (Ex.refl W7).drew.trans ht
  clear HK ED EDX hv ht he HDa
  generalize Vb = W8 at *
  have EW := Lib.hid (EW.out.trans hu)
  have EA := Lib.hid (EA.out.trans hu)
  have ES := Lib.hid (ES.out.trans hu)
  have EX0 := Lib.hid (EX0.out.trans hu)
  have EX2 := Lib.hid (EX2.out.trans hu)
  have EG := Lib.hid (EG.out.trans hu)
  clear hu
  have HK := Lib.hid (fun (W' : World) (hb : Ex W8.drew W') => (⟨(HB2.out.ex (EA.out.drew.trans hb)).cell 0, (HB2.out.ex (EA.out.drew.trans hb)).cell 1, (HBX2.out.ex (EX2.out.drew.trans hb)).cell 0, (HBX2.out.ex (EX2.out.drew.trans hb)).cell 1⟩ : (fun w' : World => w'.cell? ⟨w.heap.size + 1, 0, none⟩ = some (.int .i64 m2) ∧ w'.cell? ⟨w.heap.size + 1, 1, none⟩ = some (.slice A2 t2.length c2) ∧ w'.cell? ⟨W5.heap.size, 0, none⟩ = some (.int .i64 m2) ∧ w'.cell? ⟨W5.heap.size, 1, none⟩ = some (.slice D2 t2.length k2)) W'))
  have ED := Lib.hid EA.out.drew
  have EDX := Lib.hid EX2.out.drew
  go_wp2_with fail
  go_region_held3 (fun w' : World => w'.cell? ⟨w.heap.size + 1, 0, none⟩ = some (.int .i64 m2) ∧ w'.cell? ⟨w.heap.size + 1, 1, none⟩ = some (.slice A2 t2.length c2) ∧ w'.cell? ⟨W5.heap.size, 0, none⟩ = some (.int .i64 m2) ∧ w'.cell? ⟨W5.heap.size, 1, none⟩ = some (.slice D2 t2.length k2))
    (first
      | exact HK.out _ (Ex.refl _)
      | exact HK.out _ hv
      | exact HK.out _ ht)
    (first
      | (go_at_call 10; refine (toCochain_ex A2 m2 t2 c2 W8.drew (HR2.out.ex ED.out) HX2.out).mono ?_; rintro e Va ⟨Da, ka, rfl, hv, hd⟩; have HDa := Lib.hid hd; clear hd)
      | (go_at_call 14; refine (eqCochain_ex D2 Da m2 t2 k2 ka Va (HD2.out.ints.ex (EDX.out.trans hv)) HDa.out.ints HX2.out).mono ?_; rintro e Vb ⟨rfl, he⟩; have ht : Ex W8.drew Vb := hv.trans he))
  have hu : Ex W8 Vb := (Ex.refl W8).drew.trans ht
  clear HK ED EDX hv ht he HDa
  generalize Vb = W9 at *
  have EW := Lib.hid (EW.out.trans hu)
  have EA := Lib.hid (EA.out.trans hu)
  have ES := Lib.hid (ES.out.trans hu)
  have EX0 := Lib.hid (EX0.out.trans hu)
  have EX2 := Lib.hid (EX2.out.trans hu)
  have EG := Lib.hid (EG.out.trans hu)
  clear hu
  -- marks in the copies
  have hzsz := ES.out.size
  have cx0 := (HBX0.out.ex EX0.out).cell 0
  have HBX0 := Lib.hid (HBX0.out.ex EX0.out)
  have HD0 := Lib.hid (HD0.out.ex EX0.out)
  have HBX2 := Lib.hid (HBX2.out.ex EX2.out)
  have HD2 := Lib.hid (HD2.out.ex EX2.out)
  have HOg0 := Lib.hid (HOg0.out.ex EG.out)
  have hzgc := EG.out.size
  clear EG EX0 EX2
  go_wp2_with fail
  have hcn0 : cntT t0 ≤ 1099511627776 := HX0.out.cnt
  refine (markGroup_ex D0 t0 k0 1 Us.heap.size W3.heap.size W9 HD0.out HX0.out (by omega) (by omega)).mono ?_
  rintro e W10 ⟨rfl, ho, _⟩
  have HBX2 := Lib.hid (HBX2.out.above ho (by omega))
  have HD2 := Lib.hid (HD2.out.above ho (by omega))
  have HOg0 := Lib.hid (HOg0.out.above ho (by omega))
  have hzm0 := ho.size
  have EW := Lib.hid (EW.out.only ho (by omega))
  have EA := Lib.hid (EA.out.only ho (by omega))
  have ES := Lib.hid (ES.out.only ho (by omega))
  obtain ⟨kn0, hkn0⟩ : ∃ kn : Nat, 1 + cntT t0 = kn := ⟨_, rfl⟩
  rw [hkn0]
  have hkl0 : kn0 ≤ 1099511627777 := by omega
  clear hkn0 ho cx0
  have cx2 := HBX2.out.cell 0
  have cx2' := HBX2.out.cell 1
  go_wp2_with fail
  have hcn2 : t2.length ≤ 1099511627776 := (by have := HX2.out; omega)
  refine (markCochain_ex D2 m2 t2 k2 kn0 W4.heap.size W5.heap.size W10 HD2.out HX2.out (by omega) (by omega)).mono ?_
  rintro e W11 ⟨rfl, ho, _⟩
  have HOg0 := Lib.hid (HOg0.out.above ho (by omega))
  have hzm2 := ho.size
  have EW := Lib.hid (EW.out.only ho (by omega))
  have EA := Lib.hid (EA.out.only ho (by omega))
  have ES := Lib.hid (ES.out.only ho (by omega))
  obtain ⟨kn2, hkn2⟩ : ∃ kn : Nat, kn0 + t2.length = kn := ⟨_, rfl⟩
  rw [hkn2]
  have hkl2 : kn2 ≤ 2199023255553 := by omega
  clear hkn2 ho cx2 cx2'
  obtain ⟨kz, hkz⟩ : ∃ kz : Int, (kn2 : Int) = kz := ⟨_, rfl⟩
  have hkd : decide (kz < 0) = false := by simp only [decide_eq_false_iff_not]; omega
  rw [hkz]
  clear hkz
  have EG := Lib.hid (Ex.refl W11)
  -- the results again
  go_wp2_with fail
  refine (eqInt64S_ex Cg0 Cs0 y0 ng0 ns0 W11 (HOg0.out.ints.ex EG.out) (HOs0.out.ex ES.out) HY0.out).mono ?_
  rintro e W12 ⟨rfl, he⟩
  have EW := Lib.hid (EW.out.trans he)
  have EA := Lib.hid (EA.out.trans he)
  have ES := Lib.hid (ES.out.trans he)
  have EG := Lib.hid (EG.out.trans he)
  clear he
  clear hkd
  -- marks in the result
  have HOg0 := Lib.hid (HOg0.out.ex EG.out)
  clear EG
  go_wp2_with fail
  have hcr0 : y0.length ≤ 1099511627776 := (by have := HY0.out; omega)
  have hgl := HOg0.out.le
  refine (markInt64S_ex Cg0 y0 ng0 1 W6.heap.size Ug.heap.size W12 HOg0.out HY0.out (by omega)).mono ?_
  rintro e W13 ⟨rfl, ho, hmk⟩
  have HM0 := Lib.hid hmk
  clear hmk hgl
  have hzr0 := ho.size
  have EW := Lib.hid (EW.out.only ho (by omega))
  have EA := Lib.hid (EA.out.only ho (by omega))
  have ES := Lib.hid (ES.out.only ho (by omega))
  obtain ⟨mn0, hmn0⟩ : ∃ mn : Nat, 1 + y0.length = mn := ⟨_, rfl⟩
  rw [hmn0]
  have hml0 : mn0 ≤ 1099511627777 := by omega
  have HMN0 := Lib.hid hmn0
  clear hmn0 ho
  have EM := Lib.hid (Ex.refl W13)
  obtain ⟨mm, hmm⟩ : ∃ mm : Int, (mn0 : Int) = mm := ⟨_, rfl⟩
  have h122 : (mm != mm) = false := by simp
  have HMM := Lib.hid hmm
  rw [hmm]
  clear hmm
  have hmneg0 : decide (mm < 0) = false := by have := HMM.out; simp only [decide_eq_false_iff_not]; omega
  go_wp2_with fail
  refine (heldInt64S_ex Cg0 y0.length ng0 1 W6.heap.size Ug.heap.size W13 (HM0.out.ex EM.out) HY0.out (by omega)).mono ?_
  rintro e W14 ⟨rfl, he⟩
  have EW := Lib.hid (EW.out.trans he)
  have EA := Lib.hid (EA.out.trans he)
  have ES := Lib.hid (ES.out.trans he)
  have EM := Lib.hid (EM.out.trans he)
  clear he
  rw [HMN0.out, HMM.out]
  -- the second call
  have HKh := Lib.hid (fun (W' : World) (hb : Ex W14.drew W') => (⟨(HB0.out.ex ((EA.out.drew).trans hb)).cell 0, (HB2.out.ex ((EA.out.drew).trans hb)).cell 0, (HB2.out.ex ((EA.out.drew).trans hb)).cell 1⟩ : (fun w' : World => w'.cell? ⟨w.heap.size, 0, none⟩ = some (.slice A0 t0.length c0) ∧ w'.cell? ⟨w.heap.size + 1, 0, none⟩ = some (.int .i64 m2) ∧ w'.cell? ⟨w.heap.size + 1, 1, none⟩ = some (.slice A2 t2.length c2)) W'))
  have ED := Lib.hid (EA.out.drew)
  have EDW := Lib.hid (EW.out.drew)
  go_wp2_with fail
  go_region_held3 (fun w' : World => w'.cell? ⟨w.heap.size, 0, none⟩ = some (.slice A0 t0.length c0) ∧ w'.cell? ⟨w.heap.size + 1, 0, none⟩ = some (.int .i64 m2) ∧ w'.cell? ⟨w.heap.size + 1, 1, none⟩ = some (.slice A2 t2.length c2))
    (first
      | exact HKh.out _ (Ex.refl _)
      | exact HKh.out _ (by assumption))
    (first
      | (go_at_call 9; refine (toGroup_ex A0 t0 c0 _ (HR0.out.ex (ED.out.trans (by first | exact Ex.refl _ | assumption | exact Ex.alloc (Ex.refl _) _ | exact Ex.alloc (by assumption) _ | exact Ex.alloc (Ex.alloc (Ex.refl _) _) _ | exact Ex.alloc (Ex.alloc (by assumption) _) _))) HX0.out).mono ?_; rintro e Vh0 ⟨Dh0, kh0, rfl, hvh0, hdh0⟩; have hth0 : Ex W14.drew Vh0 := Ex.trans (by first | exact Ex.refl _ | assumption | exact Ex.alloc (Ex.refl _) _ | exact Ex.alloc (by assumption) _ | exact Ex.alloc (Ex.alloc (Ex.refl _) _) _ | exact Ex.alloc (Ex.alloc (by assumption) _) _) hvh0; have HDh0 := Lib.hid hdh0; clear hdh0)
      | (go_at_call 10; refine (toCochain_ex A2 m2 t2 c2 _ (HR2.out.ex (ED.out.trans (by first | exact Ex.refl _ | assumption | exact Ex.alloc (Ex.refl _) _ | exact Ex.alloc (by assumption) _ | exact Ex.alloc (Ex.alloc (Ex.refl _) _) _ | exact Ex.alloc (Ex.alloc (by assumption) _) _))) HX2.out).mono ?_; rintro e Vh1 ⟨Dh2, kh2, rfl, hvh1, hdh2⟩; have hth1 : Ex W14.drew Vh1 := Ex.trans (by first | exact Ex.refl _ | assumption | exact Ex.alloc (Ex.refl _) _ | exact Ex.alloc (by assumption) _ | exact Ex.alloc (Ex.alloc (Ex.refl _) _) _ | exact Ex.alloc (Ex.alloc (by assumption) _) _) hvh1; have HDh2 := Lib.hid hdh2; clear hdh2; have HDh0 := Lib.hid (HDh0.out.ex hvh1))
      | (go_at_call 11; refine (HI.out Dh0 kh0 Dh2 kh2 _ (HDh0.out.rws) (HDh2.out.ints) HX0.out HX2.out (HTL.out.ex (EDW.out.trans (by first | exact Ex.refl _ | assumption | exact Ex.alloc (Ex.refl _) _ | exact Ex.alloc (by assumption) _ | exact Ex.alloc (Ex.alloc (Ex.refl _) _) _ | exact Ex.alloc (Ex.alloc (by assumption) _) _)))).mono ?_; rintro e Uh ⟨Ch0, nh0, rfl, heh, hoh0⟩; have hth : Ex W14.drew Uh := Ex.trans (by first | exact Ex.refl _ | assumption | exact Ex.alloc (Ex.refl _) _ | exact Ex.alloc (by assumption) _ | exact Ex.alloc (Ex.alloc (Ex.refl _) _) _ | exact Ex.alloc (Ex.alloc (by assumption) _) _) heh; have HOh0 := Lib.hid hoh0; clear hoh0))
  have hfh : Ex W14 Uh := (Ex.refl W14).drew.trans hth
  have HOh0 := Lib.hid HOh0.out.ints
  clear hvh0 hvh1 hth0 hth1 HDh0 HDh2 hth HKh ED heh EDW
  have EW := Lib.hid (EW.out.trans hfh)
  have EA := Lib.hid (EA.out.trans hfh)
  have ES := Lib.hid (ES.out.trans hfh)
  have EM := Lib.hid (EM.out.trans hfh)
  clear hfh
  have EH := Lib.hid (Ex.refl Uh)
  go_wp2_with fail
  refine (eqInt64S_ex Ch0 Cs0 y0 nh0 ns0 Uh (HOh0.out.ex EH.out) (HOs0.out.ex ES.out) HY0.out).mono ?_
  rintro e W15 ⟨rfl, he⟩
  have EW := Lib.hid (EW.out.trans he)
  have EA := Lib.hid (EA.out.trans he)
  have ES := Lib.hid (ES.out.trans he)
  have EM := Lib.hid (EM.out.trans he)
  have EH := Lib.hid (EH.out.trans he)
  clear he
  go_wp2_with fail
  refine (heldInt64S_ex Cg0 y0.length ng0 1 W6.heap.size Ug.heap.size W15 (HM0.out.ex EM.out) HY0.out (by omega)).mono ?_
  rintro e W16 ⟨rfl, he⟩
  have EW := Lib.hid (EW.out.trans he)
  have EA := Lib.hid (EA.out.trans he)
  have ES := Lib.hid (ES.out.trans he)
  have EM := Lib.hid (EM.out.trans he)
  have EH := Lib.hid (EH.out.trans he)
  clear he
  rw [HMN0.out, HMM.out]
  go_wp2_with fail
  go_ret
  exact ⟨rfl, EW.out⟩

end Go.Proofs.YtcdijeeabgmgmaaGreatDoor
