/- The law of ReduceModule: the walk, whatever the contracts of both functions. -/
import Derived.Deep.RegionHeld3
import Derived.Deep.RegionWith
import Derived.Deep.DeepCutAuto
import Derived.Test.YtllkaoacfchibaaExv
namespace Go.Proofs.Ytllkaoacfchibaa
open Go.RowKit

set_option maxRecDepth 100000 in
set_option maxHeartbeats 16000000 in
theorem lawReduceModule_any (A0 : Option Addr) (t0 : List (List Int)) (c0 : Nat) (m1 : Int) (A1 : Option Addr) (t1 : List Int) (c1 : Nat) (m2 : Int) (q0 : Int) (y0 : List Int) (q1 : Int) (w : World) (hR0 : RwsW w A0 t0) (hn0 : t0.length ≤ maxLen) (hl0 : ∀ i, i < t0.length → (row t0 i).length ≤ maxLen) (hR1 : IntsW w A1 t1) (hn1 : t1.length ≤ maxLen) (hy0 : y0.length ≤ 1048576)
    (HS : ∀ (B0 : Option Addr) (d0 : Nat) (B1 : Option Addr) (d1 : Nat) (W : World), RwsW W B0 t0 → IntsW W B1 t1 → SmallT t0 → t1.length ≤ 1048576 → Calls Try.prog 6 #[.agg #[.slice B0 t0.length d0], .agg #[.int .i64 m1, .slice B1 t1.length d1], .int .i64 m2] W fun e W' => ∃ (C0 : Option Addr) (e0 : Nat), e = .returned (.tuple #[.agg #[.int .i64 q0, .slice C0 y0.length e0], .int .i64 q1]) ∧ Ex W W' ∧ OwnL W' W.heap.size W'.heap.size C0 y0)
    (HI : ∀ (B0 : Option Addr) (d0 : Nat) (B1 : Option Addr) (d1 : Nat) (W : World), RwsW W B0 t0 → IntsW W B1 t1 → SmallT t0 → t1.length ≤ 1048576 → Calls Try.prog 9 #[.agg #[.slice B0 t0.length d0], .agg #[.int .i64 m1, .slice B1 t1.length d1], .int .i64 m2] W fun e W' => ∃ (C0 : Option Addr) (e0 : Nat), e = .returned (.tuple #[.agg #[.int .i64 q0, .slice C0 y0.length e0], .int .i64 q1]) ∧ Ex W W' ∧ OwnL W' W.heap.size W'.heap.size C0 y0) :
    Calls Try.prog 3 #[.agg #[.slice A0 t0.length c0], .agg #[.int .i64 m1, .slice A1 t1.length c1], .int .i64 m2] w fun e w' => e = .returned (.bool true) ∧ Ex w w' := by
  have e0 : Ex w ((w.alloc (.cells #[.slice A0 t0.length c0] 24)).alloc (.cells #[.int .i64 m1, .slice A1 t1.length c1] 27)) := ((Ex.refl w).alloc _).alloc _
  have b0 : Has ((w.alloc (.cells #[.slice A0 t0.length c0] 24)).alloc (.cells #[.int .i64 m1, .slice A1 t1.length c1] 27)) (w.heap.size) 24 #[.slice A0 t0.length c0] := (Has.newAt (w := w) (e := 24) (cs := #[.slice A0 t0.length c0]) (k := w.heap.size) (by simp)).alloc (.cells #[.int .i64 m1, .slice A1 t1.length c1] 27)
  have b1 : Has ((w.alloc (.cells #[.slice A0 t0.length c0] 24)).alloc (.cells #[.int .i64 m1, .slice A1 t1.length c1] 27)) (w.heap.size + 1) 27 #[.int .i64 m1, .slice A1 t1.length c1] := (Has.newAt (w := (w.alloc (.cells #[.slice A0 t0.length c0] 24))) (e := 27) (cs := #[.int .i64 m1, .slice A1 t1.length c1]) (k := w.heap.size + 1) (by simp))
  have HR0 := Lib.hid (hR0.ex e0)
  have HR1 := Lib.hid (hR1.ex e0)
  have HN0 := Lib.hid hn0
  have HL0 := Lib.hid hl0
  have HN1 := Lib.hid hn1
  have HY0 := Lib.hid hy0
  have HS := Lib.hid HS
  have HI := Lib.hid HI
  clear hR0 hR1 hn0 hn1 hl0 hy0
  have cb0 := b0.cell 0
  have HB0 := Lib.hid b0
  have HB1 := Lib.hid b1
  clear b0 b1
  go_enter Try.func3, Try.ntmps3
  go_wp2_with fail
  generalize ((w.alloc (.cells #[.slice A0 t0.length c0] 24)).alloc (.cells #[.int .i64 m1, .slice A1 t1.length c1] 27)) = W0 at *
  have EW := Lib.hid e0
  have EA := Lib.hid (Ex.refl W0)
  clear e0
  refine (szGroup_ex A0 t0 c0 1048576 W0 (HR0.out.ex EA.out) HN0.out HL0.out (by omega) (by omega)).mono ?_
  rintro e W1 ⟨⟨r0, rfl, hr⟩, he⟩
  have EW := Lib.hid (EW.out.trans he)
  have EA := Lib.hid (EA.out.trans he)
  clear he cb0
  rcases hr with rfl | ⟨hr0, hr1, hs⟩
  · go_wp2
    go_ret
    exact ⟨rfl, EW.out⟩
  have HX0 := Lib.hid hs
  have hneg : decide (r0 < 0) = false := by simp; omega
  clear hs
  have cb1 := (HB1.out.ex EA.out).cell 0
  have cb1' := (HB1.out.ex EA.out).cell 1
  go_wp2_with fail
  refine (szModule_ex A1 m1 t1 c1 r0 W1 HN1.out (by omega) (by omega)).mono ?_
  rintro e W2 ⟨⟨r1, rfl, hr⟩, he⟩
  have EW := Lib.hid (EW.out.trans he)
  have EA := Lib.hid (EA.out.trans he)
  clear he cb1 cb1' hneg
  rcases hr with rfl | ⟨hr0, hr1, hs⟩
  · go_wp2
    go_ret
    exact ⟨rfl, EW.out⟩
  have HX1 := Lib.hid hs
  have hrl : r1 ≤ 1048576 := by omega
  have hneg : decide (r1 < 0) = false := by simp; omega
  clear hs
  clear HN0 HN1 HL0
  have HKs := Lib.hid (fun (W' : World) (hb : Ex W2.drew W') => (⟨(HB0.out.ex ((EA.out.drew).trans hb)).cell 0, (HB1.out.ex ((EA.out.drew).trans hb)).cell 0, (HB1.out.ex ((EA.out.drew).trans hb)).cell 1⟩ : (fun w' : World => w'.cell? ⟨w.heap.size, 0, none⟩ = some (.slice A0 t0.length c0) ∧ w'.cell? ⟨w.heap.size + 1, 0, none⟩ = some (.int .i64 m1) ∧ w'.cell? ⟨w.heap.size + 1, 1, none⟩ = some (.slice A1 t1.length c1)) W'))
  have ED := Lib.hid (EA.out.drew)
  go_upto_region 8 with (fail)
  go_cut [8, 9] (fun s8 s9 wx => ∃ (b0 : Nat) (C0 : Option Addr) (n0 : Nat), s8 = .pointer (some ⟨b0, 0, none⟩) ∧ s9 = .int .i64 q1 ∧ Ex W2 wx ∧ Has wx b0 30 #[.int .i64 q0, .slice C0 y0.length n0] ∧ IntsW wx C0 y0)
  case first =>
    go_region_held3 (fun w' : World => w'.cell? ⟨w.heap.size, 0, none⟩ = some (.slice A0 t0.length c0) ∧ w'.cell? ⟨w.heap.size + 1, 0, none⟩ = some (.int .i64 m1) ∧ w'.cell? ⟨w.heap.size + 1, 1, none⟩ = some (.slice A1 t1.length c1))
      (first
        | exact HKs.out _ (Ex.refl _)
        | exact HKs.out _ (by assumption)
        | exact HKs.out _ (by first | exact Ex.refl _ | assumption | exact Ex.alloc (Ex.refl _) _ | exact Ex.alloc (by assumption) _ | exact Ex.alloc (Ex.alloc (Ex.refl _) _) _ | exact Ex.alloc (Ex.alloc (by assumption) _) _)
        | exact HKs.out _ (by repeat (first | exact Ex.refl _ | assumption | refine Ex.alloc ?_ _ | refine Ex.setCell ?_ (by first | assumption | exact Ex.size (by assumption) | exact Nat.le_trans (Ex.size (by assumption)) (by simp)) _)))
      (first
        | (go_at_call 7; refine (toGroup_ex A0 t0 c0 _ (HR0.out.ex (ED.out.trans (by first | exact Ex.refl _ | assumption | exact Ex.alloc (Ex.refl _) _ | exact Ex.alloc (by assumption) _ | exact Ex.alloc (Ex.alloc (Ex.refl _) _) _ | exact Ex.alloc (Ex.alloc (by assumption) _) _))) HX0.out).mono ?_; rintro e Vs0 ⟨Ds0, ks0, rfl, hvs0, hds0⟩; have hts0 : Ex W2.drew Vs0 := Ex.trans (by first | exact Ex.refl _ | assumption | exact Ex.alloc (Ex.refl _) _ | exact Ex.alloc (by assumption) _ | exact Ex.alloc (Ex.alloc (Ex.refl _) _) _ | exact Ex.alloc (Ex.alloc (by assumption) _) _) hvs0; have HDs0 := Lib.hid hds0; clear hds0; (first | (have hbx0 := (hbx0.later hvs0).1) | (have hbx0 := ((hbx0.alloc _).later hvs0).1) | (have hbw0 := Has.born (T := 30) (cs := #[.int .i64 0, .slice none 0 0]) (a := W2.drew) (by first | exact Ex.refl _ | assumption | exact Ex.alloc (Ex.refl _) _ | exact Ex.alloc (by assumption) _ | exact Ex.alloc (Ex.alloc (Ex.refl _) _) _ | exact Ex.alloc (Ex.alloc (by assumption) _) _) hvs0; have hbx0 := hbw0.1; have hbz0 := hbw0.2.2; clear hbw0) | (have hbw0 := Has.born' (T := 30) (cs := #[.int .i64 0, .slice none 0 0]) (a := W2.drew) (by first | exact Ex.refl _ | assumption | exact Ex.alloc (Ex.refl _) _ | exact Ex.alloc (by assumption) _ | exact Ex.alloc (Ex.alloc (Ex.refl _) _) _ | exact Ex.alloc (Ex.alloc (by assumption) _) _) hvs0; have hbx0 := hbw0.1; have hbz0 := hbw0.2.2; clear hbw0) | (have hbw0 := Has.bornD (T := 30) (cs := #[.int .i64 0, .slice none 0 0]) hvs0; have hbx0 := hbw0.1; have hbz0 := hbw0.2.2; clear hbw0) | (have hbw0 := Has.bornD' (T := 30) (cs := #[.int .i64 0, .slice none 0 0]) hvs0; have hbx0 := hbw0.1; have hbz0 := hbw0.2.2; clear hbw0) | skip))
        | (go_at_call 8; refine (toModule_ex A1 m1 t1 c1 _ (HR1.out.ex (ED.out.trans (by first | exact Ex.refl _ | assumption | exact Ex.alloc (Ex.refl _) _ | exact Ex.alloc (by assumption) _ | exact Ex.alloc (Ex.alloc (Ex.refl _) _) _ | exact Ex.alloc (Ex.alloc (by assumption) _) _))) HX1.out).mono ?_; rintro e Vs1 ⟨Ds1, ks1, rfl, hvs1, hds1⟩; have hts1 : Ex W2.drew Vs1 := Ex.trans (by first | exact Ex.refl _ | assumption | exact Ex.alloc (Ex.refl _) _ | exact Ex.alloc (by assumption) _ | exact Ex.alloc (Ex.alloc (Ex.refl _) _) _ | exact Ex.alloc (Ex.alloc (by assumption) _) _) hvs1; have HDs1 := Lib.hid hds1; clear hds1; have HDs0 := Lib.hid (HDs0.out.ex (Ex.trans (by first | exact Ex.refl _ | exact Ex.alloc (Ex.refl _) _ | exact Ex.alloc (Ex.alloc (Ex.refl _) _) _) hvs1)); (first | (have hbx0 := (hbx0.later hvs1).1) | (have hbx0 := ((hbx0.alloc _).later hvs1).1) | (have hbw0 := Has.born (T := 30) (cs := #[.int .i64 0, .slice none 0 0]) (a := W2.drew) (by first | exact Ex.refl _ | assumption | exact Ex.alloc (Ex.refl _) _ | exact Ex.alloc (by assumption) _ | exact Ex.alloc (Ex.alloc (Ex.refl _) _) _ | exact Ex.alloc (Ex.alloc (by assumption) _) _) hvs1; have hbx0 := hbw0.1; have hbz0 := hbw0.2.2; clear hbw0) | (have hbw0 := Has.born' (T := 30) (cs := #[.int .i64 0, .slice none 0 0]) (a := W2.drew) (by first | exact Ex.refl _ | assumption | exact Ex.alloc (Ex.refl _) _ | exact Ex.alloc (by assumption) _ | exact Ex.alloc (Ex.alloc (Ex.refl _) _) _ | exact Ex.alloc (Ex.alloc (by assumption) _) _) hvs1; have hbx0 := hbw0.1; have hbz0 := hbw0.2.2; clear hbw0) | (have hbw0 := Has.bornD (T := 30) (cs := #[.int .i64 0, .slice none 0 0]) hvs1; have hbx0 := hbw0.1; have hbz0 := hbw0.2.2; clear hbw0) | (have hbw0 := Has.bornD' (T := 30) (cs := #[.int .i64 0, .slice none 0 0]) hvs1; have hbx0 := hbw0.1; have hbz0 := hbw0.2.2; clear hbw0) | skip))
        | (go_at_call 6; refine (HS.out Ds0 ks0 Ds1 ks1 _ (HDs0.out.rws.ex (by first | exact Ex.refl _ | exact Ex.alloc (Ex.refl _) _ | exact Ex.alloc (Ex.alloc (Ex.refl _) _) _)) (HDs1.out.ints.ex (by first | exact Ex.refl _ | exact Ex.alloc (Ex.refl _) _ | exact Ex.alloc (Ex.alloc (Ex.refl _) _) _)) HX0.out HX1.out).mono ?_; rintro e Us ⟨Cs0, ns0, rfl, hes, hos0⟩; have hts : Ex W2.drew Us := Ex.trans (by first | exact Ex.refl _ | assumption | exact Ex.alloc (Ex.refl _) _ | exact Ex.alloc (by assumption) _ | exact Ex.alloc (Ex.alloc (Ex.refl _) _) _ | exact Ex.alloc (Ex.alloc (by assumption) _) _) hes; have HOs0 := Lib.hid hos0; clear hos0; (first | (have hbw0 := hbx0.later hes; have hbx0 := hbw0.1; have hbl0 := hbw0.2; clear hbw0) | (have hbw0 := (hbx0.alloc _).later hes; have hbx0 := hbw0.1; have hbl0 := hbw0.2; clear hbw0) | (have hbw0 := Has.born (T := 30) (cs := #[.int .i64 0, .slice none 0 0]) (a := W2.drew) (by first | exact Ex.refl _ | assumption | exact Ex.alloc (Ex.refl _) _ | exact Ex.alloc (by assumption) _ | exact Ex.alloc (Ex.alloc (Ex.refl _) _) _ | exact Ex.alloc (Ex.alloc (by assumption) _) _) hes; have hbx0 := hbw0.1; have hbl0 := hbw0.2.1; have hbz0 := hbw0.2.2; clear hbw0) | (have hbw0 := Has.born' (T := 30) (cs := #[.int .i64 0, .slice none 0 0]) (a := W2.drew) (by first | exact Ex.refl _ | assumption | exact Ex.alloc (Ex.refl _) _ | exact Ex.alloc (by assumption) _ | exact Ex.alloc (Ex.alloc (Ex.refl _) _) _ | exact Ex.alloc (Ex.alloc (by assumption) _) _) hes; have hbx0 := hbw0.1; have hbl0 := hbw0.2.1; have hbz0 := hbw0.2.2; clear hbw0) | skip); (first | (have cbx00 := hbx0.cell 0; have fbx00 := hbx0.free 0; have cbx01 := hbx0.cell 1; have fbx01 := hbx0.free 1) | skip)))
    all_goals
      go_wp2_with fail
      go_meet
      refine ⟨_, Cs0, ns0, rfl, rfl, ?_, ?_, ?_⟩
      · exact (Ex.refl W2).drew.trans (by repeat (first | exact hts | refine Ex.alloc ?_ _ | refine Ex.setCell ?_ (by first | assumption | exact Ex.size (by assumption) | exact Nat.le_trans (Ex.size (by assumption)) (by simp)) _))
      · first | exact Has.new _ _ _ | exact hbx0.put2 | exact (Has.new _ _ _).alloc _ | exact hbx0.put2.alloc _ | exact (hbx0.alloc _).put2
      · first | exact HOs0.out.ints.ex (Ex.new _ _) | exact ((HOs0.out.above (Only.set _ _ _ _) hbl0).above (Only.set _ _ _ _) hbl0).ints | exact ((HOs0.out.above (Only.set _ _ _ _) hbl0).above (Only.set _ _ _ _) hbl0).ints.ex (Ex.new _ _) | exact HOs0.out.ints.ex ((Ex.new _ _).alloc _)
  obtain ⟨Us, rfl⟩ : ∃ x : World, x = wc := ⟨_, rfl⟩
  obtain ⟨bbs0, Cs0, ns0, rfl, rfl, hfs, hbxs0, hos0⟩ := hcut
  have HOs0 := Lib.hid hos0
  clear hos0
  clear HKs ED
  have HXs0 := Lib.hid hbxs0
  clear hbxs0
  have EW := Lib.hid (EW.out.trans hfs)
  have EA := Lib.hid (EA.out.trans hfs)
  clear hfs
  have ES := Lib.hid (Ex.refl Us)
  have cb0 := (HB0.out.ex EA.out).cell 0
  go_wp2_with fail
  have hzw := EW.out.size
  have hzl0 := EA.out.size
  have hzs0 := ES.out.size
  refine (toGroup_ex A0 t0 c0 Us (HR0.out.ex EA.out) HX0.out).mono ?_
  rintro e W3 ⟨D0, k0, rfl, hv, hd⟩
  have hz0 := hv.size
  clear cb0
  have hbx : Has (W3.alloc (.cells #[.slice D0 t0.length k0] 33)) W3.heap.size 33 #[.slice D0 t0.length k0] := Has.new W3 33 #[.slice D0 t0.length k0]
  have hv1 : Ex W3 (W3.alloc (.cells #[.slice D0 t0.length k0] 33)) := Ex.new _ _
  have hv2 : Ex Us (W3.alloc (.cells #[.slice D0 t0.length k0] 33)) := hv.trans hv1
  have cb1 := (HB1.out.ex (EA.out.trans hv2)).cell 0
  have cb1' := (HB1.out.ex (EA.out.trans hv2)).cell 1
  have HD0 := Lib.hid (hd.ex hv1)
  have HBX0 := Lib.hid hbx
  have hzb0 := hbx.lt
  clear hd hbx hv1 hv
  go_wp2_with fail
  generalize (W3.alloc (.cells #[.slice D0 t0.length k0] 33)) = W4 at *
  have EW := Lib.hid (EW.out.trans hv2)
  have EA := Lib.hid (EA.out.trans hv2)
  have ES := Lib.hid (ES.out.trans hv2)
  clear hv2
  have EX0 := Lib.hid (Ex.refl W4)
  have hzl1 := EA.out.size
  have hzs1 := ES.out.size
  refine (toModule_ex A1 m1 t1 c1 W4 (HR1.out.ex EA.out) HX1.out).mono ?_
  rintro e W5 ⟨D1, k1, rfl, hv, hd⟩
  have hz1 := hv.size
  clear cb1 cb1'
  have hbx : Has (W5.alloc (.cells #[.int .i64 m1, .slice D1 t1.length k1] 30)) W5.heap.size 30 #[.int .i64 m1, .slice D1 t1.length k1] := Has.new W5 30 #[.int .i64 m1, .slice D1 t1.length k1]
  have hv1 : Ex W5 (W5.alloc (.cells #[.int .i64 m1, .slice D1 t1.length k1] 30)) := Ex.new _ _
  have hv2 : Ex W4 (W5.alloc (.cells #[.int .i64 m1, .slice D1 t1.length k1] 30)) := hv.trans hv1
  have cx0 := (HBX0.out.ex (EX0.out.trans hv2)).cell 0
  have cx1 := hbx.cell 0
  have cx1' := hbx.cell 1
  have HD1 := Lib.hid (hd.ex hv1)
  have HBX1 := Lib.hid hbx
  have hzb1 := hbx.lt
  clear hd hbx hv1 hv
  go_wp2_with fail
  generalize (W5.alloc (.cells #[.int .i64 m1, .slice D1 t1.length k1] 30)) = W6 at *
  have EW := Lib.hid (EW.out.trans hv2)
  have EA := Lib.hid (EA.out.trans hv2)
  have ES := Lib.hid (ES.out.trans hv2)
  have EX0 := Lib.hid (EX0.out.trans hv2)
  clear hv2
  have EX1 := Lib.hid (Ex.refl W6)
  refine (HI.out D0 k0 D1 k1 W6 (HD0.out.rws.ex EX0.out) (HD1.out.ints.ex EX1.out) HX0.out HX1.out).mono ?_
  rintro e Ug ⟨Cg0, ng0, rfl, heg, hog0⟩
  have HOg0 := Lib.hid hog0
  clear hog0
  have hfg : Ex W6 Ug := heg
  have hzg := heg.size
  clear heg cx0 cx1 cx1'
  have hq1 : (q1 != q1) = false := by simp
  have hbxg0 : Has (Ug.alloc (.cells #[.int .i64 q0, .slice Cg0 y0.length ng0] 30)) (Ug.heap.size) 30 #[.int .i64 q0, .slice Cg0 y0.length ng0] := (Has.newAt (w := Ug) (e := 30) (cs := #[.int .i64 q0, .slice Cg0 y0.length ng0]) (k := Ug.heap.size) (by simp))
  have hfbg : Ex W6 (Ug.alloc (.cells #[.int .i64 q0, .slice Cg0 y0.length ng0] 30)) := (hfg).alloc _
  have hfug : Ex Ug (Ug.alloc (.cells #[.int .i64 q0, .slice Cg0 y0.length ng0] 30)) := (Ex.refl _).alloc _
  have crg0 := hbxg0.cell 0
  have crg0' := hbxg0.cell 1
  have crs0 := (HXs0.out.ex (ES.out.trans hfbg)).cell 0
  have crs0' := (HXs0.out.ex (ES.out.trans hfbg)).cell 1
  go_wp2_with fail
  generalize (Ug.alloc (.cells #[.int .i64 q0, .slice Cg0 y0.length ng0] 30)) = W7 at *
  have HXg0 := Lib.hid hbxg0
  clear hbxg0
  have HOg0 := Lib.hid (HOg0.out.ex hfug)
  have hzug := hfug.size
  have EW := Lib.hid (EW.out.trans hfbg)
  have EA := Lib.hid (EA.out.trans hfbg)
  have ES := Lib.hid (ES.out.trans hfbg)
  have EX0 := Lib.hid (EX0.out.trans hfbg)
  have EX1 := Lib.hid (EX1.out.trans hfbg)
  clear hfbg hfug hfg
  have EG := Lib.hid (Ex.refl W7)
  clear crg0 crg0'
  clear crs0 crs0'
  refine (eqModule_ex Cg0 Cs0 q0 y0 ng0 ns0 W7 (HOg0.out.ints.ex EG.out) (HOs0.out.ex ES.out) HY0.out).mono ?_
  rintro e W8 ⟨rfl, he⟩
  have EW := Lib.hid (EW.out.trans he)
  have EA := Lib.hid (EA.out.trans he)
  have ES := Lib.hid (ES.out.trans he)
  have EX0 := Lib.hid (EX0.out.trans he)
  have EX1 := Lib.hid (EX1.out.trans he)
  have EG := Lib.hid (EG.out.trans he)
  clear he
  have HK := Lib.hid (fun (W' : World) (hb : Ex W8.drew W') => (⟨(HB0.out.ex (EA.out.drew.trans hb)).cell 0, (HBX0.out.ex (EX0.out.drew.trans hb)).cell 0⟩ : (fun w' : World => w'.cell? ⟨w.heap.size, 0, none⟩ = some (.slice A0 t0.length c0) ∧ w'.cell? ⟨W3.heap.size, 0, none⟩ = some (.slice D0 t0.length k0)) W'))
  have ED := Lib.hid EA.out.drew
  have EDX := Lib.hid EX0.out.drew
  go_wp2_with fail
  go_region_held3 (fun w' : World => w'.cell? ⟨w.heap.size, 0, none⟩ = some (.slice A0 t0.length c0) ∧ w'.cell? ⟨W3.heap.size, 0, none⟩ = some (.slice D0 t0.length k0))
    (first
      | exact HK.out _ (Ex.refl _)
      | exact HK.out _ hv
      | exact HK.out _ ht)
    (first
      | (go_at_call 7; refine (toGroup_ex A0 t0 c0 W8.drew (HR0.out.ex ED.out) HX0.out).mono ?_; rintro e Va ⟨Da, ka, rfl, hv, hd⟩; have HDa := Lib.hid hd; clear hd)
      | (go_at_call 11; refine (eqGroup_ex D0 Da t0 k0 ka Va (HD0.out.rws.ex (EDX.out.trans hv)) HDa.out.rws HX0.out).mono ?_; rintro e Vb ⟨rfl, he⟩; have ht : Ex W8.drew Vb := hv.trans he))
  have hu : Ex W8 Vb := (Ex.refl W8).drew.trans ht
  clear HK ED EDX hv ht he HDa
  generalize Vb = W9 at *
  have EW := Lib.hid (EW.out.trans hu)
  have EA := Lib.hid (EA.out.trans hu)
  have ES := Lib.hid (ES.out.trans hu)
  have EX0 := Lib.hid (EX0.out.trans hu)
  have EX1 := Lib.hid (EX1.out.trans hu)
  have EG := Lib.hid (EG.out.trans hu)
  clear hu
  have HK := Lib.hid (fun (W' : World) (hb : Ex W9.drew W') => (⟨(HB1.out.ex (EA.out.drew.trans hb)).cell 0, (HB1.out.ex (EA.out.drew.trans hb)).cell 1, (HBX1.out.ex (EX1.out.drew.trans hb)).cell 0, (HBX1.out.ex (EX1.out.drew.trans hb)).cell 1⟩ : (fun w' : World => w'.cell? ⟨w.heap.size + 1, 0, none⟩ = some (.int .i64 m1) ∧ w'.cell? ⟨w.heap.size + 1, 1, none⟩ = some (.slice A1 t1.length c1) ∧ w'.cell? ⟨W5.heap.size, 0, none⟩ = some (.int .i64 m1) ∧ w'.cell? ⟨W5.heap.size, 1, none⟩ = some (.slice D1 t1.length k1)) W'))
  have ED := Lib.hid EA.out.drew
  have EDX := Lib.hid EX1.out.drew
  go_wp2_with fail
  go_region_held3 (fun w' : World => w'.cell? ⟨w.heap.size + 1, 0, none⟩ = some (.int .i64 m1) ∧ w'.cell? ⟨w.heap.size + 1, 1, none⟩ = some (.slice A1 t1.length c1) ∧ w'.cell? ⟨W5.heap.size, 0, none⟩ = some (.int .i64 m1) ∧ w'.cell? ⟨W5.heap.size, 1, none⟩ = some (.slice D1 t1.length k1))
    (first
      | exact HK.out _ (Ex.refl _)
      | exact HK.out _ hv
      | exact HK.out _ ht)
    (first
      | (go_at_call 8; refine (toModule_ex A1 m1 t1 c1 W9.drew (HR1.out.ex ED.out) HX1.out).mono ?_; rintro e Va ⟨Da, ka, rfl, hv, hd⟩; have HDa := Lib.hid hd; clear hd)
      | (go_at_call 10; refine (eqModule_ex D1 Da m1 t1 k1 ka Va (HD1.out.ints.ex (EDX.out.trans hv)) HDa.out.ints HX1.out).mono ?_; rintro e Vb ⟨rfl, he⟩; have ht : Ex W9.drew Vb := hv.trans he))
  have hu : Ex W9 Vb := (Ex.refl W9).drew.trans ht
  clear HK ED EDX hv ht he HDa
  generalize Vb = W10 at *
  have EW := Lib.hid (EW.out.trans hu)
  have EA := Lib.hid (EA.out.trans hu)
  have ES := Lib.hid (ES.out.trans hu)
  have EX0 := Lib.hid (EX0.out.trans hu)
  have EX1 := Lib.hid (EX1.out.trans hu)
  have EG := Lib.hid (EG.out.trans hu)
  clear hu
  -- marks in the copies
  have hzsz := ES.out.size
  have cx0 := (HBX0.out.ex EX0.out).cell 0
  have HBX0 := Lib.hid (HBX0.out.ex EX0.out)
  have HD0 := Lib.hid (HD0.out.ex EX0.out)
  have HBX1 := Lib.hid (HBX1.out.ex EX1.out)
  have HD1 := Lib.hid (HD1.out.ex EX1.out)
  have HOg0 := Lib.hid (HOg0.out.ex EG.out)
  have HXg0 := Lib.hid (HXg0.out.ex EG.out)
  have hzgc := EG.out.size
  clear EG EX0 EX1
  go_wp2_with fail
  have hcn0 : cntT t0 ≤ 1099511627776 := HX0.out.cnt
  refine (markGroup_ex D0 t0 k0 1 Us.heap.size W3.heap.size W10 HD0.out HX0.out (by omega) (by omega)).mono ?_
  rintro e W11 ⟨rfl, ho, _⟩
  have HBX1 := Lib.hid (HBX1.out.above ho (by omega))
  have HD1 := Lib.hid (HD1.out.above ho (by omega))
  have HOg0 := Lib.hid (HOg0.out.above ho (by omega))
  have HXg0 := Lib.hid (HXg0.out.above ho (by omega))
  have hzm0 := ho.size
  have EW := Lib.hid (EW.out.only ho (by omega))
  have EA := Lib.hid (EA.out.only ho (by omega))
  have ES := Lib.hid (ES.out.only ho (by omega))
  obtain ⟨kn0, hkn0⟩ : ∃ kn : Nat, 1 + cntT t0 = kn := ⟨_, rfl⟩
  rw [hkn0]
  have hkl0 : kn0 ≤ 1099511627777 := by omega
  clear hkn0 ho cx0
  have cx1 := HBX1.out.cell 0
  have cx1' := HBX1.out.cell 1
  go_wp2_with fail
  have hcn1 : t1.length ≤ 1099511627776 := (by have := HX1.out; omega)
  refine (markModule_ex D1 m1 t1 k1 kn0 W4.heap.size W5.heap.size W11 HD1.out HX1.out (by omega) (by omega)).mono ?_
  rintro e W12 ⟨rfl, ho, _⟩
  have HOg0 := Lib.hid (HOg0.out.above ho (by omega))
  have HXg0 := Lib.hid (HXg0.out.above ho (by omega))
  have hzm1 := ho.size
  have EW := Lib.hid (EW.out.only ho (by omega))
  have EA := Lib.hid (EA.out.only ho (by omega))
  have ES := Lib.hid (ES.out.only ho (by omega))
  obtain ⟨kn1, hkn1⟩ : ∃ kn : Nat, kn0 + t1.length = kn := ⟨_, rfl⟩
  rw [hkn1]
  have hkl1 : kn1 ≤ 2199023255553 := by omega
  clear hkn1 ho cx1 cx1'
  obtain ⟨kz, hkz⟩ : ∃ kz : Int, (kn1 : Int) = kz := ⟨_, rfl⟩
  have hkd : decide (kz < 0) = false := by simp only [decide_eq_false_iff_not]; omega
  rw [hkz]
  clear hkz
  have EG := Lib.hid (Ex.refl W12)
  -- the results again
  have crg0 := (HXg0.out.ex EG.out).cell 0
  have crg0' := (HXg0.out.ex EG.out).cell 1
  have crs0 := (HXs0.out.ex ES.out).cell 0
  have crs0' := (HXs0.out.ex ES.out).cell 1
  go_wp2_with fail
  clear crg0 crg0' crs0 crs0'
  refine (eqModule_ex Cg0 Cs0 q0 y0 ng0 ns0 W12 (HOg0.out.ints.ex EG.out) (HOs0.out.ex ES.out) HY0.out).mono ?_
  rintro e W13 ⟨rfl, he⟩
  have EW := Lib.hid (EW.out.trans he)
  have EA := Lib.hid (EA.out.trans he)
  have ES := Lib.hid (ES.out.trans he)
  have EG := Lib.hid (EG.out.trans he)
  clear he
  clear hkd
  -- marks in the result
  have HOg0 := Lib.hid (HOg0.out.ex EG.out)
  have HXg0 := Lib.hid (HXg0.out.ex EG.out)
  clear EG
  have crg0 := HXg0.out.cell 0
  have crg0' := HXg0.out.cell 1
  go_wp2_with fail
  clear crg0 crg0'
  have hcr0 : y0.length ≤ 1099511627776 := (by have := HY0.out; omega)
  have hgl := HOg0.out.le
  refine (markModule_ex Cg0 q0 y0 ng0 1 W6.heap.size Ug.heap.size W13 HOg0.out HY0.out (by omega) (by omega)).mono ?_
  rintro e W14 ⟨rfl, ho, hmk⟩
  have HM0 := Lib.hid hmk
  clear hmk hgl
  have HXg0 := Lib.hid (HXg0.out.above ho (by omega))
  have hzr0 := ho.size
  have EW := Lib.hid (EW.out.only ho (by omega))
  have EA := Lib.hid (EA.out.only ho (by omega))
  have ES := Lib.hid (ES.out.only ho (by omega))
  obtain ⟨mn0, hmn0⟩ : ∃ mn : Nat, 1 + y0.length = mn := ⟨_, rfl⟩
  rw [hmn0]
  have hml0 : mn0 ≤ 1099511627777 := by omega
  have HMN0 := Lib.hid hmn0
  clear hmn0 ho
  have EM := Lib.hid (Ex.refl W14)
  obtain ⟨mm, hmm⟩ : ∃ mm : Int, (mn0 : Int) = mm := ⟨_, rfl⟩
  have h122 : (mm != mm) = false := by simp
  have HMM := Lib.hid hmm
  rw [hmm]
  clear hmm
  have hmneg0 : decide (mm < 0) = false := by have := HMM.out; simp only [decide_eq_false_iff_not]; omega
  have crg0 := (HXg0.out.ex EM.out).cell 0
  have crg0' := (HXg0.out.ex EM.out).cell 1
  go_wp2_with fail
  clear crg0 crg0'
  refine (heldModule_ex Cg0 q0 y0.length ng0 1 W6.heap.size Ug.heap.size W14 (HM0.out.ex EM.out) HY0.out (by omega)).mono ?_
  rintro e W15 ⟨rfl, he⟩
  have EW := Lib.hid (EW.out.trans he)
  have EA := Lib.hid (EA.out.trans he)
  have ES := Lib.hid (ES.out.trans he)
  have EM := Lib.hid (EM.out.trans he)
  clear he
  rw [HMN0.out, HMM.out]
  -- the second call
  have HKh := Lib.hid (fun (W' : World) (hb : Ex W15.drew W') => (⟨(HB0.out.ex ((EA.out.drew).trans hb)).cell 0, (HB1.out.ex ((EA.out.drew).trans hb)).cell 0, (HB1.out.ex ((EA.out.drew).trans hb)).cell 1⟩ : (fun w' : World => w'.cell? ⟨w.heap.size, 0, none⟩ = some (.slice A0 t0.length c0) ∧ w'.cell? ⟨w.heap.size + 1, 0, none⟩ = some (.int .i64 m1) ∧ w'.cell? ⟨w.heap.size + 1, 1, none⟩ = some (.slice A1 t1.length c1)) W'))
  have ED := Lib.hid (EA.out.drew)
  go_upto_region 31 with (fail)
  go_cut [17, 18] (fun s17 s18 wx => ∃ (b0 : Nat) (C0 : Option Addr) (n0 : Nat), s17 = .pointer (some ⟨b0, 0, none⟩) ∧ s18 = .int .i64 q1 ∧ Ex W15 wx ∧ Has wx b0 30 #[.int .i64 q0, .slice C0 y0.length n0] ∧ IntsW wx C0 y0)
  case first =>
    go_region_held3 (fun w' : World => w'.cell? ⟨w.heap.size, 0, none⟩ = some (.slice A0 t0.length c0) ∧ w'.cell? ⟨w.heap.size + 1, 0, none⟩ = some (.int .i64 m1) ∧ w'.cell? ⟨w.heap.size + 1, 1, none⟩ = some (.slice A1 t1.length c1))
      (first
        | exact HKh.out _ (Ex.refl _)
        | exact HKh.out _ (by assumption)
        | exact HKh.out _ (by first | exact Ex.refl _ | assumption | exact Ex.alloc (Ex.refl _) _ | exact Ex.alloc (by assumption) _ | exact Ex.alloc (Ex.alloc (Ex.refl _) _) _ | exact Ex.alloc (Ex.alloc (by assumption) _) _)
        | exact HKh.out _ (by repeat (first | exact Ex.refl _ | assumption | refine Ex.alloc ?_ _ | refine Ex.setCell ?_ (by first | assumption | exact Ex.size (by assumption) | exact Nat.le_trans (Ex.size (by assumption)) (by simp)) _)))
      (first
        | (go_at_call 7; refine (toGroup_ex A0 t0 c0 _ (HR0.out.ex (ED.out.trans (by first | exact Ex.refl _ | assumption | exact Ex.alloc (Ex.refl _) _ | exact Ex.alloc (by assumption) _ | exact Ex.alloc (Ex.alloc (Ex.refl _) _) _ | exact Ex.alloc (Ex.alloc (by assumption) _) _))) HX0.out).mono ?_; rintro e Vh0 ⟨Dh0, kh0, rfl, hvh0, hdh0⟩; have hth0 : Ex W15.drew Vh0 := Ex.trans (by first | exact Ex.refl _ | assumption | exact Ex.alloc (Ex.refl _) _ | exact Ex.alloc (by assumption) _ | exact Ex.alloc (Ex.alloc (Ex.refl _) _) _ | exact Ex.alloc (Ex.alloc (by assumption) _) _) hvh0; have HDh0 := Lib.hid hdh0; clear hdh0; (first | (have hbx0 := (hbx0.later hvh0).1) | (have hbx0 := ((hbx0.alloc _).later hvh0).1) | (have hbw0 := Has.born (T := 30) (cs := #[.int .i64 0, .slice none 0 0]) (a := W15.drew) (by first | exact Ex.refl _ | assumption | exact Ex.alloc (Ex.refl _) _ | exact Ex.alloc (by assumption) _ | exact Ex.alloc (Ex.alloc (Ex.refl _) _) _ | exact Ex.alloc (Ex.alloc (by assumption) _) _) hvh0; have hbx0 := hbw0.1; have hbz0 := hbw0.2.2; clear hbw0) | (have hbw0 := Has.born' (T := 30) (cs := #[.int .i64 0, .slice none 0 0]) (a := W15.drew) (by first | exact Ex.refl _ | assumption | exact Ex.alloc (Ex.refl _) _ | exact Ex.alloc (by assumption) _ | exact Ex.alloc (Ex.alloc (Ex.refl _) _) _ | exact Ex.alloc (Ex.alloc (by assumption) _) _) hvh0; have hbx0 := hbw0.1; have hbz0 := hbw0.2.2; clear hbw0) | (have hbw0 := Has.bornD (T := 30) (cs := #[.int .i64 0, .slice none 0 0]) hvh0; have hbx0 := hbw0.1; have hbz0 := hbw0.2.2; clear hbw0) | (have hbw0 := Has.bornD' (T := 30) (cs := #[.int .i64 0, .slice none 0 0]) hvh0; have hbx0 := hbw0.1; have hbz0 := hbw0.2.2; clear hbw0) | skip))
        | (go_at_call 8; refine (toModule_ex A1 m1 t1 c1 _ (HR1.out.ex (ED.out.trans (by first | exact Ex.refl _ | assumption | exact Ex.alloc (Ex.refl _) _ | exact Ex.alloc (by assumption) _ | exact Ex.alloc (Ex.alloc (Ex.refl _) _) _ | exact Ex.alloc (Ex.alloc (by assumption) _) _))) HX1.out).mono ?_; rintro e Vh1 ⟨Dh1, kh1, rfl, hvh1, hdh1⟩; have hth1 : Ex W15.drew Vh1 := Ex.trans (by first | exact Ex.refl _ | assumption | exact Ex.alloc (Ex.refl _) _ | exact Ex.alloc (by assumption) _ | exact Ex.alloc (Ex.alloc (Ex.refl _) _) _ | exact Ex.alloc (Ex.alloc (by assumption) _) _) hvh1; have HDh1 := Lib.hid hdh1; clear hdh1; have HDh0 := Lib.hid (HDh0.out.ex (Ex.trans (by first | exact Ex.refl _ | exact Ex.alloc (Ex.refl _) _ | exact Ex.alloc (Ex.alloc (Ex.refl _) _) _) hvh1)); (first | (have hbx0 := (hbx0.later hvh1).1) | (have hbx0 := ((hbx0.alloc _).later hvh1).1) | (have hbw0 := Has.born (T := 30) (cs := #[.int .i64 0, .slice none 0 0]) (a := W15.drew) (by first | exact Ex.refl _ | assumption | exact Ex.alloc (Ex.refl _) _ | exact Ex.alloc (by assumption) _ | exact Ex.alloc (Ex.alloc (Ex.refl _) _) _ | exact Ex.alloc (Ex.alloc (by assumption) _) _) hvh1; have hbx0 := hbw0.1; have hbz0 := hbw0.2.2; clear hbw0) | (have hbw0 := Has.born' (T := 30) (cs := #[.int .i64 0, .slice none 0 0]) (a := W15.drew) (by first | exact Ex.refl _ | assumption | exact Ex.alloc (Ex.refl _) _ | exact Ex.alloc (by assumption) _ | exact Ex.alloc (Ex.alloc (Ex.refl _) _) _ | exact Ex.alloc (Ex.alloc (by assumption) _) _) hvh1; have hbx0 := hbw0.1; have hbz0 := hbw0.2.2; clear hbw0) | (have hbw0 := Has.bornD (T := 30) (cs := #[.int .i64 0, .slice none 0 0]) hvh1; have hbx0 := hbw0.1; have hbz0 := hbw0.2.2; clear hbw0) | (have hbw0 := Has.bornD' (T := 30) (cs := #[.int .i64 0, .slice none 0 0]) hvh1; have hbx0 := hbw0.1; have hbz0 := hbw0.2.2; clear hbw0) | skip))
        | (go_at_call 9; refine (HI.out Dh0 kh0 Dh1 kh1 _ (HDh0.out.rws.ex (by first | exact Ex.refl _ | exact Ex.alloc (Ex.refl _) _ | exact Ex.alloc (Ex.alloc (Ex.refl _) _) _)) (HDh1.out.ints.ex (by first | exact Ex.refl _ | exact Ex.alloc (Ex.refl _) _ | exact Ex.alloc (Ex.alloc (Ex.refl _) _) _)) HX0.out HX1.out).mono ?_; rintro e Uh ⟨Ch0, nh0, rfl, heh, hoh0⟩; have hth : Ex W15.drew Uh := Ex.trans (by first | exact Ex.refl _ | assumption | exact Ex.alloc (Ex.refl _) _ | exact Ex.alloc (by assumption) _ | exact Ex.alloc (Ex.alloc (Ex.refl _) _) _ | exact Ex.alloc (Ex.alloc (by assumption) _) _) heh; have HOh0 := Lib.hid hoh0; clear hoh0; (first | (have hbw0 := hbx0.later heh; have hbx0 := hbw0.1; have hbl0 := hbw0.2; clear hbw0) | (have hbw0 := (hbx0.alloc _).later heh; have hbx0 := hbw0.1; have hbl0 := hbw0.2; clear hbw0) | (have hbw0 := Has.born (T := 30) (cs := #[.int .i64 0, .slice none 0 0]) (a := W15.drew) (by first | exact Ex.refl _ | assumption | exact Ex.alloc (Ex.refl _) _ | exact Ex.alloc (by assumption) _ | exact Ex.alloc (Ex.alloc (Ex.refl _) _) _ | exact Ex.alloc (Ex.alloc (by assumption) _) _) heh; have hbx0 := hbw0.1; have hbl0 := hbw0.2.1; have hbz0 := hbw0.2.2; clear hbw0) | (have hbw0 := Has.born' (T := 30) (cs := #[.int .i64 0, .slice none 0 0]) (a := W15.drew) (by first | exact Ex.refl _ | assumption | exact Ex.alloc (Ex.refl _) _ | exact Ex.alloc (by assumption) _ | exact Ex.alloc (Ex.alloc (Ex.refl _) _) _ | exact Ex.alloc (Ex.alloc (by assumption) _) _) heh; have hbx0 := hbw0.1; have hbl0 := hbw0.2.1; have hbz0 := hbw0.2.2; clear hbw0) | skip); (first | (have cbx00 := hbx0.cell 0; have fbx00 := hbx0.free 0; have cbx01 := hbx0.cell 1; have fbx01 := hbx0.free 1) | skip)))
    all_goals
      go_wp2_with fail
      go_meet
      refine ⟨_, Ch0, nh0, rfl, rfl, ?_, ?_, ?_⟩
      · exact (Ex.refl W15).drew.trans (by repeat (first | exact hth | refine Ex.alloc ?_ _ | refine Ex.setCell ?_ (by first | assumption | exact Ex.size (by assumption) | exact Nat.le_trans (Ex.size (by assumption)) (by simp)) _))
      · first | exact Has.new _ _ _ | exact hbx0.put2 | exact (Has.new _ _ _).alloc _ | exact hbx0.put2.alloc _ | exact (hbx0.alloc _).put2
      · first | exact HOh0.out.ints.ex (Ex.new _ _) | exact ((HOh0.out.above (Only.set _ _ _ _) hbl0).above (Only.set _ _ _ _) hbl0).ints | exact ((HOh0.out.above (Only.set _ _ _ _) hbl0).above (Only.set _ _ _ _) hbl0).ints.ex (Ex.new _ _) | exact HOh0.out.ints.ex ((Ex.new _ _).alloc _)
  obtain ⟨Uh, rfl⟩ : ∃ x : World, x = wc := ⟨_, rfl⟩
  obtain ⟨bbh0, Ch0, nh0, rfl, rfl, hfh, hbxh0, hoh0⟩ := hcut
  have HOh0 := Lib.hid hoh0
  clear hoh0
  clear HKh ED
  have HXh0 := Lib.hid hbxh0
  clear hbxh0
  have EW := Lib.hid (EW.out.trans hfh)
  have EA := Lib.hid (EA.out.trans hfh)
  have ES := Lib.hid (ES.out.trans hfh)
  have EM := Lib.hid (EM.out.trans hfh)
  clear hfh
  have EH := Lib.hid (Ex.refl Uh)
  have crh0 := (HXh0.out.ex EH.out).cell 0
  have crh0' := (HXh0.out.ex EH.out).cell 1
  have crs0 := (HXs0.out.ex ES.out).cell 0
  have crs0' := (HXs0.out.ex ES.out).cell 1
  go_wp2_with fail
  clear crh0 crh0' crs0 crs0'
  refine (eqModule_ex Ch0 Cs0 q0 y0 nh0 ns0 Uh (HOh0.out.ex EH.out) (HOs0.out.ex ES.out) HY0.out).mono ?_
  rintro e W16 ⟨rfl, he⟩
  have EW := Lib.hid (EW.out.trans he)
  have EA := Lib.hid (EA.out.trans he)
  have ES := Lib.hid (ES.out.trans he)
  have EM := Lib.hid (EM.out.trans he)
  have EH := Lib.hid (EH.out.trans he)
  clear he
  have crg0 := (HXg0.out.ex EM.out).cell 0
  have crg0' := (HXg0.out.ex EM.out).cell 1
  go_wp2_with fail
  clear crg0 crg0'
  refine (heldModule_ex Cg0 q0 y0.length ng0 1 W6.heap.size Ug.heap.size W16 (HM0.out.ex EM.out) HY0.out (by omega)).mono ?_
  rintro e W17 ⟨rfl, he⟩
  have EW := Lib.hid (EW.out.trans he)
  have EA := Lib.hid (EA.out.trans he)
  have ES := Lib.hid (ES.out.trans he)
  have EM := Lib.hid (EM.out.trans he)
  have EH := Lib.hid (EH.out.trans he)
  clear he
  rw [HMN0.out, HMM.out]
  go_wp2_with fail
  go_ret
  exact ⟨rfl, EW.out⟩

end Go.Proofs.Ytllkaoacfchibaa
