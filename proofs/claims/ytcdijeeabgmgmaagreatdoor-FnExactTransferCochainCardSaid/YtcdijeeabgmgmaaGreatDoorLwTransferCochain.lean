/- The law of TransferCochain: the walk, whatever the contracts of both functions. -/
import Derived.Deep.RegionHeld3
import Derived.Deep.RegionWith
import Derived.Deep.DeepCutAuto
import Derived.Test.YtcdijeeabgmgmaaGreatDoorExv
import Derived.Test.YtcdijeeabgmgmaaGreatDoorSm
namespace Go.Proofs.YtcdijeeabgmgmaaGreatDoor
open Go.RowKit

set_option maxRecDepth 100000 in
set_option maxHeartbeats 16000000 in
theorem lawTransferCochain_any (A0 : Option Addr) (t0 : List (List Int)) (c0 : Nat) (m1 : Int) (A1 : Option Addr) (t1 : List Int) (c1 : Nat) (A2 : Option Addr) (t2 : List Int) (c2 : Nat) (m3 : Int) (A3 : Option Addr) (t3 : List Int) (c3 : Nat) (q0 : Int) (y0 : List Int) (q1 : Int) (w : World) (hR0 : RwsW w A0 t0) (hn0 : t0.length ≤ maxLen) (hl0 : ∀ i, i < t0.length → (row t0 i).length ≤ maxLen) (hR1 : IntsW w A1 t1) (hn1 : t1.length ≤ maxLen) (hR2 : IntsW w A2 t2) (hn2 : t2.length ≤ maxLen) (hR3 : IntsW w A3 t3) (hn3 : t3.length ≤ maxLen) (hy0 : y0.length ≤ 1048576) (hT : TabL w)
    (HS : ∀ (B0 : Option Addr) (d0 : Nat) (B1 : Option Addr) (d1 : Nat) (B2 : Option Addr) (d2 : Nat) (B3 : Option Addr) (d3 : Nat) (W : World), RwsW W B0 t0 → IntsW W B1 t1 → IntsW W B2 t2 → IntsW W B3 t3 → SmallT t0 → t1.length ≤ 1048576 → t2.length ≤ 1048576 → t3.length ≤ 1048576 → Calls Tryz.prog 25 #[.agg #[.slice B0 t0.length d0], .agg #[.int .i64 m1, .slice B1 t1.length d1], .slice B2 t2.length d2, .agg #[.int .i64 m3, .slice B3 t3.length d3]] W fun e W' => ∃ (C0 : Option Addr) (e0 : Nat), e = .returned (.tuple #[.agg #[.int .i64 q0, .slice C0 y0.length e0], .int .i64 q1]) ∧ Ex W W' ∧ OwnL W' W.heap.size W'.heap.size C0 y0)
    (HI : ∀ (B0 : Option Addr) (d0 : Nat) (B1 : Option Addr) (d1 : Nat) (B2 : Option Addr) (d2 : Nat) (B3 : Option Addr) (d3 : Nat) (W : World), RwsW W B0 t0 → IntsW W B1 t1 → IntsW W B2 t2 → IntsW W B3 t3 → SmallT t0 → t1.length ≤ 1048576 → t2.length ≤ 1048576 → t3.length ≤ 1048576 → TabL W → Calls Tryz.prog 28 #[.agg #[.slice B0 t0.length d0], .agg #[.int .i64 m1, .slice B1 t1.length d1], .slice B2 t2.length d2, .agg #[.int .i64 m3, .slice B3 t3.length d3]] W fun e W' => ∃ (C0 : Option Addr) (e0 : Nat), e = .returned (.tuple #[.agg #[.int .i64 q0, .slice C0 y0.length e0], .int .i64 q1]) ∧ Ex W W' ∧ OwnL W' W.heap.size W'.heap.size C0 y0) :
    Calls Tryz.prog 5 #[.agg #[.slice A0 t0.length c0], .agg #[.int .i64 m1, .slice A1 t1.length c1], .slice A2 t2.length c2, .agg #[.int .i64 m3, .slice A3 t3.length c3]] w fun e w' => e = .returned (.bool true) ∧ Ex w w' := by
  have e0 : Ex w (((w.alloc (.cells #[.slice A0 t0.length c0] 24)).alloc (.cells #[.int .i64 m1, .slice A1 t1.length c1] 48)).alloc (.cells #[.int .i64 m3, .slice A3 t3.length c3] 27)) := (((Ex.refl w).alloc _).alloc _).alloc _
  have b0 : Has (((w.alloc (.cells #[.slice A0 t0.length c0] 24)).alloc (.cells #[.int .i64 m1, .slice A1 t1.length c1] 48)).alloc (.cells #[.int .i64 m3, .slice A3 t3.length c3] 27)) (w.heap.size) 24 #[.slice A0 t0.length c0] := (((Has.newAt (w := w) (e := 24) (cs := #[.slice A0 t0.length c0]) (k := w.heap.size) (by simp)).alloc _).alloc _)
  have b1 : Has (((w.alloc (.cells #[.slice A0 t0.length c0] 24)).alloc (.cells #[.int .i64 m1, .slice A1 t1.length c1] 48)).alloc (.cells #[.int .i64 m3, .slice A3 t3.length c3] 27)) (w.heap.size + 1) 48 #[.int .i64 m1, .slice A1 t1.length c1] := ((Has.newAt (w := (w.alloc (.cells #[.slice A0 t0.length c0] 24))) (e := 48) (cs := #[.int .i64 m1, .slice A1 t1.length c1]) (k := w.heap.size + 1) (by simp)).alloc _)
  have b3 : Has (((w.alloc (.cells #[.slice A0 t0.length c0] 24)).alloc (.cells #[.int .i64 m1, .slice A1 t1.length c1] 48)).alloc (.cells #[.int .i64 m3, .slice A3 t3.length c3] 27)) (w.heap.size + 1 + 1) 27 #[.int .i64 m3, .slice A3 t3.length c3] := (Has.newAt (w := ((w.alloc (.cells #[.slice A0 t0.length c0] 24)).alloc (.cells #[.int .i64 m1, .slice A1 t1.length c1] 48))) (e := 27) (cs := #[.int .i64 m3, .slice A3 t3.length c3]) (k := w.heap.size + 1 + 1) (by simp))
  have HR0 := Lib.hid (hR0.ex e0)
  have HR1 := Lib.hid (hR1.ex e0)
  have HR2 := Lib.hid (hR2.ex e0)
  have HR3 := Lib.hid (hR3.ex e0)
  have HN0 := Lib.hid hn0
  have HL0 := Lib.hid hl0
  have HN1 := Lib.hid hn1
  have HN3 := Lib.hid hn3
  have HY0 := Lib.hid hy0
  have HS := Lib.hid HS
  have HI := Lib.hid HI
  have HTL := Lib.hid hT
  clear hT
  clear hR0 hR1 hR2 hR3 hn0 hn1 hn3 hl0 hy0
  have cb0 := b0.cell 0
  have HB0 := Lib.hid b0
  have HB1 := Lib.hid b1
  have HB3 := Lib.hid b3
  clear b0 b1 b3
  unfold maxLen at hn2
  by_cases hbig : 1048576 < t2.length
  · have hbb2 : decide ((1048576 : Int) < (t2.length : Int)) = true := by simp; omega
    go_enter Tryz.func5, Tryz.ntmps5
    go_wp2
    go_ret
    exact ⟨rfl, e0⟩
  have hbb2 : decide ((1048576 : Int) < (t2.length : Int)) = false := by simp; omega
  have HX2 := Lib.hid (show t2.length ≤ 1048576 by omega)
  clear hbig hn2
  go_enter Tryz.func5, Tryz.ntmps5
  go_wp2_with fail
  generalize (((w.alloc (.cells #[.slice A0 t0.length c0] 24)).alloc (.cells #[.int .i64 m1, .slice A1 t1.length c1] 48)).alloc (.cells #[.int .i64 m3, .slice A3 t3.length c3] 27)) = W0 at *
  have EW := Lib.hid e0
  have EA := Lib.hid (Ex.refl W0)
  clear e0
  clear hbb2
  refine (szGroup_ex A0 t0 c0 1048576 W0 (HR0.out.ex EA.out) HN0.out HL0.out (by omega) (by omega)).mono ?_
  rintro e W1 ⟨⟨r0, rfl, hr⟩, he⟩
  have EW := Lib.hid (EW.out.trans he)
  have EA := Lib.hid (EA.out.trans he)
  clear he cb0
  rcases hr with rfl | ⟨hr0, hr1, hs⟩
  · go_wp2
    go_ret
    exact ⟨rfl, EW.out⟩
  have HX0 := Lib.hid hs
  have hneg : decide (r0 < 0) = false := by simp; omega
  clear hs
  have cb1 := (HB1.out.ex EA.out).cell 0
  have cb1' := (HB1.out.ex EA.out).cell 1
  go_wp2_with fail
  refine (szModule_ex A1 m1 t1 c1 r0 W1 HN1.out (by omega) (by omega)).mono ?_
  rintro e W2 ⟨⟨r1, rfl, hr⟩, he⟩
  have EW := Lib.hid (EW.out.trans he)
  have EA := Lib.hid (EA.out.trans he)
  clear he cb1 cb1' hneg
  rcases hr with rfl | ⟨hr0, hr1, hs⟩
  · go_wp2
    go_ret
    exact ⟨rfl, EW.out⟩
  have HX1 := Lib.hid hs
  have hrl : r1 ≤ 1048576 := by omega
  have hneg : decide (r1 < 0) = false := by simp; omega
  clear hs
  have cb3 := (HB3.out.ex EA.out).cell 0
  have cb3' := (HB3.out.ex EA.out).cell 1
  go_wp2_with fail
  refine (szCochain_ex A3 m3 t3 c3 r1 W2 HN3.out (by omega) (by omega)).mono ?_
  rintro e W3 ⟨⟨r3, rfl, hr⟩, he⟩
  have EW := Lib.hid (EW.out.trans he)
  have EA := Lib.hid (EA.out.trans he)
  clear he cb3 cb3' hneg
  rcases hr with rfl | ⟨hr0, hr1, hs⟩
  · go_wp2
    go_ret
    exact ⟨rfl, EW.out⟩
  have HX3 := Lib.hid hs
  have hrl : r3 ≤ 1048576 := by omega
  have hneg : decide (r3 < 0) = false := by simp; omega
  clear hs
  clear HN0 HN1 HN3 HL0
  have HKs := Lib.hid (fun (W' : World) (hb : Ex W3.drew W') => (⟨(HB0.out.ex ((EA.out.drew).trans hb)).cell 0, (HB1.out.ex ((EA.out.drew).trans hb)).cell 0, (HB1.out.ex ((EA.out.drew).trans hb)).cell 1, (HB3.out.ex ((EA.out.drew).trans hb)).cell 0, (HB3.out.ex ((EA.out.drew).trans hb)).cell 1⟩ : (fun w' : World => w'.cell? ⟨w.heap.size, 0, none⟩ = some (.slice A0 t0.length c0) ∧ w'.cell? ⟨w.heap.size + 1, 0, none⟩ = some (.int .i64 m1) ∧ w'.cell? ⟨w.heap.size + 1, 1, none⟩ = some (.slice A1 t1.length c1) ∧ w'.cell? ⟨w.heap.size + 1 + 1, 0, none⟩ = some (.int .i64 m3) ∧ w'.cell? ⟨w.heap.size + 1 + 1, 1, none⟩ = some (.slice A3 t3.length c3)) W'))
  have ED := Lib.hid (EA.out.drew)
  go_upto_region 13 with (fail)
  go_cut [10, 11] (fun s10 s11 wx => ∃ (b0 : Nat) (C0 : Option Addr) (n0 : Nat), s10 = .pointer (some ⟨b0, 0, none⟩) ∧ s11 = .int .i64 q1 ∧ Ex W3 wx ∧ Has wx b0 34 #[.int .i64 q0, .slice C0 y0.length n0] ∧ IntsW wx C0 y0)
  case first =>
    go_region_held3 (fun w' : World => w'.cell? ⟨w.heap.size, 0, none⟩ = some (.slice A0 t0.length c0) ∧ w'.cell? ⟨w.heap.size + 1, 0, none⟩ = some (.int .i64 m1) ∧ w'.cell? ⟨w.heap.size + 1, 1, none⟩ = some (.slice A1 t1.length c1) ∧ w'.cell? ⟨w.heap.size + 1 + 1, 0, none⟩ = some (.int .i64 m3) ∧ w'.cell? ⟨w.heap.size + 1 + 1, 1, none⟩ = some (.slice A3 t3.length c3))
      (first
        | exact HKs.out _ (Ex.refl _)
        | exact HKs.out _ (by assumption)
        | exact HKs.out _ (by first | exact Ex.refl _ | assumption | exact Ex.alloc (Ex.refl _) _ | exact Ex.alloc (by assumption) _ | exact Ex.alloc (Ex.alloc (Ex.refl _) _) _ | exact Ex.alloc (Ex.alloc (by assumption) _) _)
        | exact HKs.out _ (by repeat (first | exact Ex.refl _ | assumption | refine Ex.alloc ?_ _ | refine Ex.setCell ?_ (by first | assumption | exact Ex.size (by assumption) | exact Nat.le_trans (Ex.size (by assumption)) (by simp)) _)))
      (first
        | (go_at_call 9; refine (toGroup_ex A0 t0 c0 _ (HR0.out.ex (ED.out.trans (by first | exact Ex.refl _ | assumption | exact Ex.alloc (Ex.refl _) _ | exact Ex.alloc (by assumption) _ | exact Ex.alloc (Ex.alloc (Ex.refl _) _) _ | exact Ex.alloc (Ex.alloc (by assumption) _) _))) HX0.out).mono ?_; rintro e Vs0 ⟨Ds0, ks0, rfl, hvs0, hds0⟩; have hts0 : Ex W3.drew Vs0 := Ex.trans (by first | exact Ex.refl _ | assumption | exact Ex.alloc (Ex.refl _) _ | exact Ex.alloc (by assumption) _ | exact Ex.alloc (Ex.alloc (Ex.refl _) _) _ | exact Ex.alloc (Ex.alloc (by assumption) _) _) hvs0; have HDs0 := Lib.hid hds0; clear hds0; (first | (have hbx0 := (hbx0.later hvs0).1) | (have hbx0 := ((hbx0.alloc _).later hvs0).1) | (have hbw0 := Has.born (T := 34) (cs := #[.int .i64 0, .slice none 0 0]) (a := W3.drew) (by first | exact Ex.refl _ | assumption | exact Ex.alloc (Ex.refl _) _ | exact Ex.alloc (by assumption) _ | exact Ex.alloc (Ex.alloc (Ex.refl _) _) _ | exact Ex.alloc (Ex.alloc (by assumption) _) _) hvs0; have hbx0 := hbw0.1; have hbz0 := hbw0.2.2; clear hbw0) | (have hbw0 := Has.born' (T := 34) (cs := #[.int .i64 0, .slice none 0 0]) (a := W3.drew) (by first | exact Ex.refl _ | assumption | exact Ex.alloc (Ex.refl _) _ | exact Ex.alloc (by assumption) _ | exact Ex.alloc (Ex.alloc (Ex.refl _) _) _ | exact Ex.alloc (Ex.alloc (by assumption) _) _) hvs0; have hbx0 := hbw0.1; have hbz0 := hbw0.2.2; clear hbw0) | (have hbw0 := Has.bornD (T := 34) (cs := #[.int .i64 0, .slice none 0 0]) hvs0; have hbx0 := hbw0.1; have hbz0 := hbw0.2.2; clear hbw0) | (have hbw0 := Has.bornD' (T := 34) (cs := #[.int .i64 0, .slice none 0 0]) hvs0; have hbx0 := hbw0.1; have hbz0 := hbw0.2.2; clear hbw0) | skip))
        | (go_at_call 26; refine (toModule_ex A1 m1 t1 c1 _ (HR1.out.ex (ED.out.trans (by first | exact Ex.refl _ | assumption | exact Ex.alloc (Ex.refl _) _ | exact Ex.alloc (by assumption) _ | exact Ex.alloc (Ex.alloc (Ex.refl _) _) _ | exact Ex.alloc (Ex.alloc (by assumption) _) _))) HX1.out).mono ?_; rintro e Vs1 ⟨Ds1, ks1, rfl, hvs1, hds1⟩; have hts1 : Ex W3.drew Vs1 := Ex.trans (by first | exact Ex.refl _ | assumption | exact Ex.alloc (Ex.refl _) _ | exact Ex.alloc (by assumption) _ | exact Ex.alloc (Ex.alloc (Ex.refl _) _) _ | exact Ex.alloc (Ex.alloc (by assumption) _) _) hvs1; have HDs1 := Lib.hid hds1; clear hds1; have HDs0 := Lib.hid (HDs0.out.ex (Ex.trans (by first | exact Ex.refl _ | exact Ex.alloc (Ex.refl _) _ | exact Ex.alloc (Ex.alloc (Ex.refl _) _) _) hvs1)); (first | (have hbx0 := (hbx0.later hvs1).1) | (have hbx0 := ((hbx0.alloc _).later hvs1).1) | (have hbw0 := Has.born (T := 34) (cs := #[.int .i64 0, .slice none 0 0]) (a := W3.drew) (by first | exact Ex.refl _ | assumption | exact Ex.alloc (Ex.refl _) _ | exact Ex.alloc (by assumption) _ | exact Ex.alloc (Ex.alloc (Ex.refl _) _) _ | exact Ex.alloc (Ex.alloc (by assumption) _) _) hvs1; have hbx0 := hbw0.1; have hbz0 := hbw0.2.2; clear hbw0) | (have hbw0 := Has.born' (T := 34) (cs := #[.int .i64 0, .slice none 0 0]) (a := W3.drew) (by first | exact Ex.refl _ | assumption | exact Ex.alloc (Ex.refl _) _ | exact Ex.alloc (by assumption) _ | exact Ex.alloc (Ex.alloc (Ex.refl _) _) _ | exact Ex.alloc (Ex.alloc (by assumption) _) _) hvs1; have hbx0 := hbw0.1; have hbz0 := hbw0.2.2; clear hbw0) | (have hbw0 := Has.bornD (T := 34) (cs := #[.int .i64 0, .slice none 0 0]) hvs1; have hbx0 := hbw0.1; have hbz0 := hbw0.2.2; clear hbw0) | (have hbw0 := Has.bornD' (T := 34) (cs := #[.int .i64 0, .slice none 0 0]) hvs1; have hbx0 := hbw0.1; have hbz0 := hbw0.2.2; clear hbw0) | skip))
        | (go_at_call 27; refine (toInt64S_ex A2 t2 c2 _ (HR2.out.ex (ED.out.trans (by first | exact Ex.refl _ | assumption | exact Ex.alloc (Ex.refl _) _ | exact Ex.alloc (by assumption) _ | exact Ex.alloc (Ex.alloc (Ex.refl _) _) _ | exact Ex.alloc (Ex.alloc (by assumption) _) _))) HX2.out).mono ?_; rintro e Vs2 ⟨Ds2, ks2, rfl, hvs2, hds2⟩; have hts2 : Ex W3.drew Vs2 := Ex.trans (by first | exact Ex.refl _ | assumption | exact Ex.alloc (Ex.refl _) _ | exact Ex.alloc (by assumption) _ | exact Ex.alloc (Ex.alloc (Ex.refl _) _) _ | exact Ex.alloc (Ex.alloc (by assumption) _) _) hvs2; have HDs2 := Lib.hid hds2; clear hds2; have HDs0 := Lib.hid (HDs0.out.ex (Ex.trans (by first | exact Ex.refl _ | exact Ex.alloc (Ex.refl _) _ | exact Ex.alloc (Ex.alloc (Ex.refl _) _) _) hvs2)); have HDs1 := Lib.hid (HDs1.out.ex (Ex.trans (by first | exact Ex.refl _ | exact Ex.alloc (Ex.refl _) _ | exact Ex.alloc (Ex.alloc (Ex.refl _) _) _) hvs2)); (first | (have hbx0 := (hbx0.later hvs2).1) | (have hbx0 := ((hbx0.alloc _).later hvs2).1) | (have hbw0 := Has.born (T := 34) (cs := #[.int .i64 0, .slice none 0 0]) (a := W3.drew) (by first | exact Ex.refl _ | assumption | exact Ex.alloc (Ex.refl _) _ | exact Ex.alloc (by assumption) _ | exact Ex.alloc (Ex.alloc (Ex.refl _) _) _ | exact Ex.alloc (Ex.alloc (by assumption) _) _) hvs2; have hbx0 := hbw0.1; have hbz0 := hbw0.2.2; clear hbw0) | (have hbw0 := Has.born' (T := 34) (cs := #[.int .i64 0, .slice none 0 0]) (a := W3.drew) (by first | exact Ex.refl _ | assumption | exact Ex.alloc (Ex.refl _) _ | exact Ex.alloc (by assumption) _ | exact Ex.alloc (Ex.alloc (Ex.refl _) _) _ | exact Ex.alloc (Ex.alloc (by assumption) _) _) hvs2; have hbx0 := hbw0.1; have hbz0 := hbw0.2.2; clear hbw0) | (have hbw0 := Has.bornD (T := 34) (cs := #[.int .i64 0, .slice none 0 0]) hvs2; have hbx0 := hbw0.1; have hbz0 := hbw0.2.2; clear hbw0) | (have hbw0 := Has.bornD' (T := 34) (cs := #[.int .i64 0, .slice none 0 0]) hvs2; have hbx0 := hbw0.1; have hbz0 := hbw0.2.2; clear hbw0) | skip))
        | (go_at_call 10; refine (toCochain_ex A3 m3 t3 c3 _ (HR3.out.ex (ED.out.trans (by first | exact Ex.refl _ | assumption | exact Ex.alloc (Ex.refl _) _ | exact Ex.alloc (by assumption) _ | exact Ex.alloc (Ex.alloc (Ex.refl _) _) _ | exact Ex.alloc (Ex.alloc (by assumption) _) _))) HX3.out).mono ?_; rintro e Vs3 ⟨Ds3, ks3, rfl, hvs3, hds3⟩; have hts3 : Ex W3.drew Vs3 := Ex.trans (by first | exact Ex.refl _ | assumption | exact Ex.alloc (Ex.refl _) _ | exact Ex.alloc (by assumption) _ | exact Ex.alloc (Ex.alloc (Ex.refl _) _) _ | exact Ex.alloc (Ex.alloc (by assumption) _) _) hvs3; have HDs3 := Lib.hid hds3; clear hds3; have HDs0 := Lib.hid (HDs0.out.ex (Ex.trans (by first | exact Ex.refl _ | exact Ex.alloc (Ex.refl _) _ | exact Ex.alloc (Ex.alloc (Ex.refl _) _) _) hvs3)); have HDs1 := Lib.hid (HDs1.out.ex (Ex.trans (by first | exact Ex.refl _ | exact Ex.alloc (Ex.refl _) _ | exact Ex.alloc (Ex.alloc (Ex.refl _) _) _) hvs3)); have HDs2 := Lib.hid (HDs2.out.ex (Ex.trans (by first | exact Ex.refl _ | exact Ex.alloc (Ex.refl _) _ | exact Ex.alloc (Ex.alloc (Ex.refl _) _) _) hvs3)); (first | (have hbx0 := (hbx0.later hvs3).1) | (have hbx0 := ((hbx0.alloc _).later hvs3).1) | (have hbw0 := Has.born (T := 34) (cs := #[.int .i64 0, .slice none 0 0]) (a := W3.drew) (by first | exact Ex.refl _ | assumption | exact Ex.alloc (Ex.refl _) _ | exact Ex.alloc (by assumption) _ | exact Ex.alloc (Ex.alloc (Ex.refl _) _) _ | exact Ex.alloc (Ex.alloc (by assumption) _) _) hvs3; have hbx0 := hbw0.1; have hbz0 := hbw0.2.2; clear hbw0) | (have hbw0 := Has.born' (T := 34) (cs := #[.int .i64 0, .slice none 0 0]) (a := W3.drew) (by first | exact Ex.refl _ | assumption | exact Ex.alloc (Ex.refl _) _ | exact Ex.alloc (by assumption) _ | exact Ex.alloc (Ex.alloc (Ex.refl _) _) _ | exact Ex.alloc (Ex.alloc (by assumption) _) _) hvs3; have hbx0 := hbw0.1; have hbz0 := hbw0.2.2; clear hbw0) | (have hbw0 := Has.bornD (T := 34) (cs := #[.int .i64 0, .slice none 0 0]) hvs3; have hbx0 := hbw0.1; have hbz0 := hbw0.2.2; clear hbw0) | (have hbw0 := Has.bornD' (T := 34) (cs := #[.int .i64 0, .slice none 0 0]) hvs3; have hbx0 := hbw0.1; have hbz0 := hbw0.2.2; clear hbw0) | skip))
        | (go_at_call 25; refine (HS.out Ds0 ks0 Ds1 ks1 Ds2 ks2 Ds3 ks3 _ (HDs0.out.rws.ex (by first | exact Ex.refl _ | exact Ex.alloc (Ex.refl _) _ | exact Ex.alloc (Ex.alloc (Ex.refl _) _) _)) (HDs1.out.ints.ex (by first | exact Ex.refl _ | exact Ex.alloc (Ex.refl _) _ | exact Ex.alloc (Ex.alloc (Ex.refl _) _) _)) (HDs2.out.ints.ex (by first | exact Ex.refl _ | exact Ex.alloc (Ex.refl _) _ | exact Ex.alloc (Ex.alloc (Ex.refl _) _) _)) (HDs3.out.ints.ex (by first | exact Ex.refl _ | exact Ex.alloc (Ex.refl _) _ | exact Ex.alloc (Ex.alloc (Ex.refl _) _) _)) HX0.out HX1.out HX2.out HX3.out).mono ?_; rintro e Us ⟨Cs0, ns0, rfl, hes, hos0⟩; have hts : Ex W3.drew Us := Ex.trans (by first | exact Ex.refl _ | assumption | exact Ex.alloc (Ex.refl _) _ | exact Ex.alloc (by assumption) _ | exact Ex.alloc (Ex.alloc (Ex.refl _) _) _ | exact Ex.alloc (Ex.alloc (by assumption) _) _) hes; have HOs0 := Lib.hid hos0; clear hos0; (first | (have hbw0 := hbx0.later hes; have hbx0 := hbw0.1; have hbl0 := hbw0.2; clear hbw0) | (have hbw0 := (hbx0.alloc _).later hes; have hbx0 := hbw0.1; have hbl0 := hbw0.2; clear hbw0) | (have hbw0 := Has.born (T := 34) (cs := #[.int .i64 0, .slice none 0 0]) (a := W3.drew) (by first | exact Ex.refl _ | assumption | exact Ex.alloc (Ex.refl _) _ | exact Ex.alloc (by assumption) _ | exact Ex.alloc (Ex.alloc (Ex.refl _) _) _ | exact Ex.alloc (Ex.alloc (by assumption) _) _) hes; have hbx0 := hbw0.1; have hbl0 := hbw0.2.1; have hbz0 := hbw0.2.2; clear hbw0) | (have hbw0 := Has.born' (T := 34) (cs := #[.int .i64 0, .slice none 0 0]) (a := W3.drew) (by first | exact Ex.refl _ | assumption | exact Ex.alloc (Ex.refl _) _ | exact Ex.alloc (by assumption) _ | exact Ex.alloc (Ex.alloc (Ex.refl _) _) _ | exact Ex.alloc (Ex.alloc (by assumption) _) _) hes; have hbx0 := hbw0.1; have hbl0 := hbw0.2.1; have hbz0 := hbw0.2.2; clear hbw0) | skip); (first | (have cbx00 := hbx0.cell 0; have fbx00 := hbx0.free 0; have cbx01 := hbx0.cell 1; have fbx01 := hbx0.free 1) | skip)))
    all_goals
      go_wp2_with fail
      go_meet
      refine ⟨_, Cs0, ns0, rfl, rfl, ?_, ?_, ?_⟩
      · exact (Ex.refl W3).drew.trans (by repeat (first | exact hts | refine Ex.alloc ?_ _ | refine Ex.setCell ?_ (by first | assumption | exact Ex.size (by assumption) | exact Nat.le_trans (Ex.size (by assumption)) (by simp)) _))
      · first | exact Has.new _ _ _ | exact hbx0.put2 | exact (Has.new _ _ _).alloc _ | exact hbx0.put2.alloc _ | exact (hbx0.alloc _).put2
      · first | exact HOs0.out.ints.ex (Ex.new _ _) | exact ((HOs0.out.above (Only.set _ _ _ _) hbl0).above (Only.set _ _ _ _) hbl0).ints | exact ((HOs0.out.above (Only.set _ _ _ _) hbl0).above (Only.set _ _ _ _) hbl0).ints.ex (Ex.new _ _) | exact HOs0.out.ints.ex ((Ex.new _ _).alloc _)
  obtain ⟨Us, rfl⟩ : ∃ x : World, x = wc := ⟨_, rfl⟩
  obtain ⟨bbs0, Cs0, ns0, rfl, rfl, hfs, hbxs0, hos0⟩ := hcut
  have HOs0 := Lib.hid hos0
  clear hos0
  clear HKs ED
  have HXs0 := Lib.hid hbxs0
  clear hbxs0
  have EW := Lib.hid (EW.out.trans hfs)
  have EA := Lib.hid (EA.out.trans hfs)
  clear hfs
  have ES := Lib.hid (Ex.refl Us)
  have cb0 := (HB0.out.ex EA.out).cell 0
  go_wp2_with fail
  have hzw := EW.out.size
  have hzl0 := EA.out.size
  have hzs0 := ES.out.size
  refine (toGroup_ex A0 t0 c0 Us (HR0.out.ex EA.out) HX0.out).mono ?_
  rintro e W4 ⟨D0, k0, rfl, hv, hd⟩
  have hz0 := hv.size
  clear cb0
  have hbx : Has (W4.alloc (.cells #[.slice D0 t0.length k0] 32)) W4.heap.size 32 #[.slice D0 t0.length k0] := Has.new W4 32 #[.slice D0 t0.length k0]
  have hv1 : Ex W4 (W4.alloc (.cells #[.slice D0 t0.length k0] 32)) := Ex.new _ _
  have hv2 : Ex Us (W4.alloc (.cells #[.slice D0 t0.length k0] 32)) := hv.trans hv1
  have cb1 := (HB1.out.ex (EA.out.trans hv2)).cell 0
  have cb1' := (HB1.out.ex (EA.out.trans hv2)).cell 1
  have HD0 := Lib.hid (hd.ex hv1)
  have HBX0 := Lib.hid hbx
  have hzb0 := hbx.lt
  clear hd hbx hv1 hv
  go_wp2_with fail
  generalize (W4.alloc (.cells #[.slice D0 t0.length k0] 32)) = W5 at *
  have EW := Lib.hid (EW.out.trans hv2)
  have EA := Lib.hid (EA.out.trans hv2)
  have ES := Lib.hid (ES.out.trans hv2)
  clear hv2
  have EX0 := Lib.hid (Ex.refl W5)
  have hzl1 := EA.out.size
  have hzs1 := ES.out.size
  refine (toModule_ex A1 m1 t1 c1 W5 (HR1.out.ex EA.out) HX1.out).mono ?_
  rintro e W6 ⟨D1, k1, rfl, hv, hd⟩
  have hz1 := hv.size
  clear cb1 cb1'
  have hbx : Has (W6.alloc (.cells #[.int .i64 m1, .slice D1 t1.length k1] 52)) W6.heap.size 52 #[.int .i64 m1, .slice D1 t1.length k1] := Has.new W6 52 #[.int .i64 m1, .slice D1 t1.length k1]
  have hv1 : Ex W6 (W6.alloc (.cells #[.int .i64 m1, .slice D1 t1.length k1] 52)) := Ex.new _ _
  have hv2 : Ex W5 (W6.alloc (.cells #[.int .i64 m1, .slice D1 t1.length k1] 52)) := hv.trans hv1
  have HD1 := Lib.hid (hd.ex hv1)
  have HBX1 := Lib.hid hbx
  have hzb1 := hbx.lt
  clear hd hbx hv1 hv
  go_wp2_with fail
  generalize (W6.alloc (.cells #[.int .i64 m1, .slice D1 t1.length k1] 52)) = W7 at *
  have EW := Lib.hid (EW.out.trans hv2)
  have EA := Lib.hid (EA.out.trans hv2)
  have ES := Lib.hid (ES.out.trans hv2)
  have EX0 := Lib.hid (EX0.out.trans hv2)
  clear hv2
  have EX1 := Lib.hid (Ex.refl W7)
  have hzl2 := EA.out.size
  have hzs2 := ES.out.size
  refine (toInt64S_ex A2 t2 c2 W7 (HR2.out.ex EA.out) HX2.out).mono ?_
  rintro e W8 ⟨D2, k2, rfl, hv, hd⟩
  have hz2 := hv.size
  have HD2 := Lib.hid hd
  clear hd
  have EW := Lib.hid (EW.out.trans hv)
  have EA := Lib.hid (EA.out.trans hv)
  have ES := Lib.hid (ES.out.trans hv)
  have EX0 := Lib.hid (EX0.out.trans hv)
  have EX1 := Lib.hid (EX1.out.trans hv)
  clear hv
  have EX2 := Lib.hid (Ex.refl W8)
  have cb3 := (HB3.out.ex EA.out).cell 0
  have cb3' := (HB3.out.ex EA.out).cell 1
  go_wp2_with fail
  have hzl3 := EA.out.size
  have hzs3 := ES.out.size
  refine (toCochain_ex A3 m3 t3 c3 W8 (HR3.out.ex EA.out) HX3.out).mono ?_
  rintro e W9 ⟨D3, k3, rfl, hv, hd⟩
  have hz3 := hv.size
  clear cb3 cb3'
  have hbx : Has (W9.alloc (.cells #[.int .i64 m3, .slice D3 t3.length k3] 34)) W9.heap.size 34 #[.int .i64 m3, .slice D3 t3.length k3] := Has.new W9 34 #[.int .i64 m3, .slice D3 t3.length k3]
  have hv1 : Ex W9 (W9.alloc (.cells #[.int .i64 m3, .slice D3 t3.length k3] 34)) := Ex.new _ _
  have hv2 : Ex W8 (W9.alloc (.cells #[.int .i64 m3, .slice D3 t3.length k3] 34)) := hv.trans hv1
  have cx0 := (HBX0.out.ex (EX0.out.trans hv2)).cell 0
  have cx1 := (HBX1.out.ex (EX1.out.trans hv2)).cell 0
  have cx1' := (HBX1.out.ex (EX1.out.trans hv2)).cell 1
  have cx3 := hbx.cell 0
  have cx3' := hbx.cell 1
  have HD3 := Lib.hid (hd.ex hv1)
  have HBX3 := Lib.hid hbx
  have hzb3 := hbx.lt
  clear hd hbx hv1 hv
  go_wp2_with fail
  generalize (W9.alloc (.cells #[.int .i64 m3, .slice D3 t3.length k3] 34)) = W10 at *
  have EW := Lib.hid (EW.out.trans hv2)
  have EA := Lib.hid (EA.out.trans hv2)
  have ES := Lib.hid (ES.out.trans hv2)
  have EX0 := Lib.hid (EX0.out.trans hv2)
  have EX1 := Lib.hid (EX1.out.trans hv2)
  have EX2 := Lib.hid (EX2.out.trans hv2)
  clear hv2
  have EX3 := Lib.hid (Ex.refl W10)
  refine (HI.out D0 k0 D1 k1 D2 k2 D3 k3 W10 (HD0.out.rws.ex EX0.out) (HD1.out.ints.ex EX1.out) (HD2.out.ints.ex EX2.out) (HD3.out.ints.ex EX3.out) HX0.out HX1.out HX2.out HX3.out (HTL.out.ex (EW.out))).mono ?_
  rintro e Ug ⟨Cg0, ng0, rfl, heg, hog0⟩
  have HOg0 := Lib.hid hog0
  clear hog0
  have hfg : Ex W10 Ug := heg
  have hzg := heg.size
  clear heg cx0 cx1 cx1' cx3 cx3'
  have hq1 : (q1 != q1) = false := by simp
  have hbxg0 : Has (Ug.alloc (.cells #[.int .i64 q0, .slice Cg0 y0.length ng0] 34)) (Ug.heap.size) 34 #[.int .i64 q0, .slice Cg0 y0.length ng0] := (Has.newAt (w := Ug) (e := 34) (cs := #[.int .i64 q0, .slice Cg0 y0.length ng0]) (k := Ug.heap.size) (by simp))
  have hfbg : Ex W10 (Ug.alloc (.cells #[.int .i64 q0, .slice Cg0 y0.length ng0] 34)) := (hfg).alloc _
  have hfug : Ex Ug (Ug.alloc (.cells #[.int .i64 q0, .slice Cg0 y0.length ng0] 34)) := (Ex.refl _).alloc _
  have crg0 := hbxg0.cell 0
  have crg0' := hbxg0.cell 1
  have crs0 := (HXs0.out.ex (ES.out.trans hfbg)).cell 0
  have crs0' := (HXs0.out.ex (ES.out.trans hfbg)).cell 1
  go_wp2_with fail
  generalize (Ug.alloc (.cells #[.int .i64 q0, .slice Cg0 y0.length ng0] 34)) = W11 at *
  have HXg0 := Lib.hid hbxg0
  clear hbxg0
  have HOg0 := Lib.hid (HOg0.out.ex hfug)
  have hzug := hfug.size
  have EW := Lib.hid (EW.out.trans hfbg)
  have EA := Lib.hid (EA.out.trans hfbg)
  have ES := Lib.hid (ES.out.trans hfbg)
  have EX0 := Lib.hid (EX0.out.trans hfbg)
  have EX1 := Lib.hid (EX1.out.trans hfbg)
  have EX2 := Lib.hid (EX2.out.trans hfbg)
  have EX3 := Lib.hid (EX3.out.trans hfbg)
  clear hfbg hfug hfg
  have EG := Lib.hid (Ex.refl W11)
  clear crg0 crg0'
  clear crs0 crs0'
  refine (eqCochain_ex Cg0 Cs0 q0 y0 ng0 ns0 W11 (HOg0.out.ints.ex EG.out) (HOs0.out.ex ES.out) HY0.out).mono ?_
  rintro e W12 ⟨rfl, he⟩
  have EW := Lib.hid (EW.out.trans he)
  have EA := Lib.hid (EA.out.trans he)
  have ES := Lib.hid (ES.out.trans he)
  have EX0 := Lib.hid (EX0.out.trans he)
  have EX1 := Lib.hid (EX1.out.trans he)
  have EX2 := Lib.hid (EX2.out.trans he)
  have EX3 := Lib.hid (EX3.out.trans he)
  have EG := Lib.hid (EG.out.trans he)
  clear he
  have HK := Lib.hid (fun (W' : World) (hb : Ex W12.drew W') => (⟨(HB0.out.ex (EA.out.drew.trans hb)).cell 0, (HBX0.out.ex (EX0.out.drew.trans hb)).cell 0⟩ : (fun w' : World => w'.cell? ⟨w.heap.size, 0, none⟩ = some (.slice A0 t0.length c0) ∧ w'.cell? ⟨W4.heap.size, 0, none⟩ = some (.slice D0 t0.length k0)) W'))
  have ED := Lib.hid EA.out.drew
  have EDX := Lib.hid EX0.out.drew
  go_wp2_with fail
  go_region_held3 (fun w' : World => w'.cell? ⟨w.heap.size, 0, none⟩ = some (.slice A0 t0.length c0) ∧ w'.cell? ⟨W4.heap.size, 0, none⟩ = some (.slice D0 t0.length k0))
    (first
      | exact HK.out _ (Ex.refl _)
      | exact HK.out _ hv
      | exact HK.out _ ht)
    (first
      | (go_at_call 9; refine (toGroup_ex A0 t0 c0 W12.drew (HR0.out.ex ED.out) HX0.out).mono ?_; rintro e Va ⟨Da, ka, rfl, hv, hd⟩; have HDa := Lib.hid hd; clear hd)
      | (go_at_call 13; refine (eqGroup_ex D0 Da t0 k0 ka Va (HD0.out.rws.ex (EDX.out.trans hv)) HDa.out.rws HX0.out).mono ?_; rintro e Vb ⟨rfl, he⟩; have ht : Ex W12.drew Vb := hv.trans he))
  have hu : Ex W12 Vb := (Ex.refl W12).drew.trans ht
  clear HK ED EDX hv ht he HDa
  generalize Vb = W13 at *
  have EW := Lib.hid (EW.out.trans hu)
  have EA := Lib.hid (EA.out.trans hu)
  have ES := Lib.hid (ES.out.trans hu)
  have EX0 := Lib.hid (EX0.out.trans hu)
  have EX1 := Lib.hid (EX1.out.trans hu)
  have EX2 := Lib.hid (EX2.out.trans hu)
  have EX3 := Lib.hid (EX3.out.trans hu)
  have EG := Lib.hid (EG.out.trans hu)
  clear hu
  have HK := Lib.hid (fun (W' : World) (hb : Ex W13.drew W') => (⟨(HB1.out.ex (EA.out.drew.trans hb)).cell 0, (HB1.out.ex (EA.out.drew.trans hb)).cell 1, (HBX1.out.ex (EX1.out.drew.trans hb)).cell 0, (HBX1.out.ex (EX1.out.drew.trans hb)).cell 1⟩ : (fun w' : World => w'.cell? ⟨w.heap.size + 1, 0, none⟩ = some (.int .i64 m1) ∧ w'.cell? ⟨w.heap.size + 1, 1, none⟩ = some (.slice A1 t1.length c1) ∧ w'.cell? ⟨W6.heap.size, 0, none⟩ = some (.int .i64 m1) ∧ w'.cell? ⟨W6.heap.size, 1, none⟩ = some (.slice D1 t1.length k1)) W'))
  have ED := Lib.hid EA.out.drew
  have EDX := Lib.hid EX1.out.drew
  go_wp2_with fail
  go_region_held3 (fun w' : World => w'.cell? ⟨w.heap.size + 1, 0, none⟩ = some (.int .i64 m1) ∧ w'.cell? ⟨w.heap.size + 1, 1, none⟩ = some (.slice A1 t1.length c1) ∧ w'.cell? ⟨W6.heap.size, 0, none⟩ = some (.int .i64 m1) ∧ w'.cell? ⟨W6.heap.size, 1, none⟩ = some (.slice D1 t1.length k1))
    (first
      | exact HK.out _ (Ex.refl _)
      | exact HK.out _ hv
      | exact HK.out _ ht)
    (first
      | (go_at_call 26; refine (toModule_ex A1 m1 t1 c1 W13.drew (HR1.out.ex ED.out) HX1.out).mono ?_; rintro e Va ⟨Da, ka, rfl, hv, hd⟩; have HDa := Lib.hid hd; clear hd)
      | (go_at_call 29; refine (eqModule_ex D1 Da m1 t1 k1 ka Va (HD1.out.ints.ex (EDX.out.trans hv)) HDa.out.ints HX1.out).mono ?_; rintro e Vb ⟨rfl, he⟩; have ht : Ex W13.drew Vb := hv.trans he))
  have hu : Ex W13 Vb := (Ex.refl W13).drew.trans ht
  clear HK ED EDX hv ht he HDa
  generalize Vb = W14 at *
  have EW := Lib.hid (EW.out.trans hu)
  have EA := Lib.hid (EA.out.trans hu)
  have ES := Lib.hid (ES.out.trans hu)
  have EX0 := Lib.hid (EX0.out.trans hu)
  have EX1 := Lib.hid (EX1.out.trans hu)
  have EX2 := Lib.hid (EX2.out.trans hu)
  have EX3 := Lib.hid (EX3.out.trans hu)
  have EG := Lib.hid (EG.out.trans hu)
  clear hu
  go_wp2_with fail
  refine (toInt64S_ex A2 t2 c2 W14 (HR2.out.ex EA.out) HX2.out).mono ?_
  rintro e W15 ⟨Da, ka, rfl, hv, hd⟩
  have HDa := Lib.hid hd
  clear hd
  have EW := Lib.hid (EW.out.trans hv)
  have EA := Lib.hid (EA.out.trans hv)
  have ES := Lib.hid (ES.out.trans hv)
  have EX0 := Lib.hid (EX0.out.trans hv)
  have EX1 := Lib.hid (EX1.out.trans hv)
  have EX2 := Lib.hid (EX2.out.trans hv)
  have EX3 := Lib.hid (EX3.out.trans hv)
  have EG := Lib.hid (EG.out.trans hv)
  clear hv
  go_wp2_with fail
  refine (eqInt64S_ex D2 Da t2 k2 ka W15 (HD2.out.ints.ex EX2.out) HDa.out.ints HX2.out).mono ?_
  rintro e W16 ⟨rfl, he⟩
  clear HDa
  have EW := Lib.hid (EW.out.trans he)
  have EA := Lib.hid (EA.out.trans he)
  have ES := Lib.hid (ES.out.trans he)
  have EX0 := Lib.hid (EX0.out.trans he)
  have EX1 := Lib.hid (EX1.out.trans he)
  have EX2 := Lib.hid (EX2.out.trans he)
  have EX3 := Lib.hid (EX3.out.trans he)
  have EG := Lib.hid (EG.out.trans he)
  clear he
  have HK := Lib.hid (fun (W' : World) (hb : Ex W16.drew W') => (⟨(HB3.out.ex (EA.out.drew.trans hb)).cell 0, (HB3.out.ex (EA.out.drew.trans hb)).cell 1, (HBX3.out.ex (EX3.out.drew.trans hb)).cell 0, (HBX3.out.ex (EX3.out.drew.trans hb)).cell 1⟩ : (fun w' : World => w'.cell? ⟨w.heap.size + 1 + 1, 0, none⟩ = some (.int .i64 m3) ∧ w'.cell? ⟨w.heap.size + 1 + 1, 1, none⟩ = some (.slice A3 t3.length c3) ∧ w'.cell? ⟨W9.heap.size, 0, none⟩ = some (.int .i64 m3) ∧ w'.cell? ⟨W9.heap.size, 1, none⟩ = some (.slice D3 t3.length k3)) W'))
  have ED := Lib.hid EA.out.drew
  have EDX := Lib.hid EX3.out.drew
  go_wp2_with fail
  go_region_held3 (fun w' : World => w'.cell? ⟨w.heap.size + 1 + 1, 0, none⟩ = some (.int .i64 m3) ∧ w'.cell? ⟨w.heap.size + 1 + 1, 1, none⟩ = some (.slice A3 t3.length c3) ∧ w'.cell? ⟨W9.heap.size, 0, none⟩ = some (.int .i64 m3) ∧ w'.cell? ⟨W9.heap.size, 1, none⟩ = some (.slice D3 t3.length k3))
    (first
      | exact HK.out _ (Ex.refl _)
      | exact HK.out _ hv
      | exact HK.out _ ht)
    (first
      | (go_at_call 10; refine (toCochain_ex A3 m3 t3 c3 W16.drew (HR3.out.ex ED.out) HX3.out).mono ?_; rintro e Va ⟨Da, ka, rfl, hv, hd⟩; have HDa := Lib.hid hd; clear hd)
      | (go_at_call 14; refine (eqCochain_ex D3 Da m3 t3 k3 ka Va (HD3.out.ints.ex (EDX.out.trans hv)) HDa.out.ints HX3.out).mono ?_; rintro e Vb ⟨rfl, he⟩; have ht : Ex W16.drew Vb := hv.trans he))
  have hu : Ex W16 Vb := (Ex.refl W16).drew.trans ht
  clear HK ED EDX hv ht he HDa
  generalize Vb = W17 at *
  have EW := Lib.hid (EW.out.trans hu)
  have EA := Lib.hid (EA.out.trans hu)
  have ES := Lib.hid (ES.out.trans hu)
  have EX0 := Lib.hid (EX0.out.trans hu)
  have EX1 := Lib.hid (EX1.out.trans hu)
  have EX2 := Lib.hid (EX2.out.trans hu)
  have EX3 := Lib.hid (EX3.out.trans hu)
  have EG := Lib.hid (EG.out.trans hu)
  clear hu
  -- marks in the copies
  have hzsz := ES.out.size
  have cx0 := (HBX0.out.ex EX0.out).cell 0
  have HBX0 := Lib.hid (HBX0.out.ex EX0.out)
  have HD0 := Lib.hid (HD0.out.ex EX0.out)
  have HBX1 := Lib.hid (HBX1.out.ex EX1.out)
  have HD1 := Lib.hid (HD1.out.ex EX1.out)
  have HD2 := Lib.hid (HD2.out.ex EX2.out)
  have HBX3 := Lib.hid (HBX3.out.ex EX3.out)
  have HD3 := Lib.hid (HD3.out.ex EX3.out)
  have HOg0 := Lib.hid (HOg0.out.ex EG.out)
  have HXg0 := Lib.hid (HXg0.out.ex EG.out)
  have hzgc := EG.out.size
  clear EG EX0 EX1 EX2 EX3
  go_wp2_with fail
  have hcn0 : cntT t0 ≤ 1099511627776 := HX0.out.cnt
  refine (markGroup_ex D0 t0 k0 1 Us.heap.size W4.heap.size W17 HD0.out HX0.out (by omega) (by omega)).mono ?_
  rintro e W18 ⟨rfl, ho, _⟩
  have HBX1 := Lib.hid (HBX1.out.above ho (by omega))
  have HD1 := Lib.hid (HD1.out.above ho (by omega))
  have HD2 := Lib.hid (HD2.out.above ho (by omega))
  have HBX3 := Lib.hid (HBX3.out.above ho (by omega))
  have HD3 := Lib.hid (HD3.out.above ho (by omega))
  have HOg0 := Lib.hid (HOg0.out.above ho (by omega))
  have HXg0 := Lib.hid (HXg0.out.above ho (by omega))
  have hzm0 := ho.size
  have EW := Lib.hid (EW.out.only ho (by omega))
  have EA := Lib.hid (EA.out.only ho (by omega))
  have ES := Lib.hid (ES.out.only ho (by omega))
  obtain ⟨kn0, hkn0⟩ : ∃ kn : Nat, 1 + cntT t0 = kn := ⟨_, rfl⟩
  rw [hkn0]
  have hkl0 : kn0 ≤ 1099511627777 := by omega
  clear hkn0 ho cx0
  have cx1 := HBX1.out.cell 0
  have cx1' := HBX1.out.cell 1
  go_wp2_with fail
  have hcn1 : t1.length ≤ 1099511627776 := (by have := HX1.out; omega)
  refine (markModule_ex D1 m1 t1 k1 kn0 W5.heap.size W6.heap.size W18 HD1.out HX1.out (by omega) (by omega)).mono ?_
  rintro e W19 ⟨rfl, ho, _⟩
  have HD2 := Lib.hid (HD2.out.above ho (by omega))
  have HBX3 := Lib.hid (HBX3.out.above ho (by omega))
  have HD3 := Lib.hid (HD3.out.above ho (by omega))
  have HOg0 := Lib.hid (HOg0.out.above ho (by omega))
  have HXg0 := Lib.hid (HXg0.out.above ho (by omega))
  have hzm1 := ho.size
  have EW := Lib.hid (EW.out.only ho (by omega))
  have EA := Lib.hid (EA.out.only ho (by omega))
  have ES := Lib.hid (ES.out.only ho (by omega))
  obtain ⟨kn1, hkn1⟩ : ∃ kn : Nat, kn0 + t1.length = kn := ⟨_, rfl⟩
  rw [hkn1]
  have hkl1 : kn1 ≤ 2199023255553 := by omega
  clear hkn1 ho cx1 cx1'
  go_wp2_with fail
  have hcn2 : t2.length ≤ 1099511627776 := (by have := HX2.out; omega)
  refine (markInt64S_ex D2 t2 k2 kn1 W7.heap.size W8.heap.size W19 HD2.out HX2.out (by omega)).mono ?_
  rintro e W20 ⟨rfl, ho, _⟩
  have HBX3 := Lib.hid (HBX3.out.above ho (by omega))
  have HD3 := Lib.hid (HD3.out.above ho (by omega))
  have HOg0 := Lib.hid (HOg0.out.above ho (by omega))
  have HXg0 := Lib.hid (HXg0.out.above ho (by omega))
  have hzm2 := ho.size
  have EW := Lib.hid (EW.out.only ho (by omega))
  have EA := Lib.hid (EA.out.only ho (by omega))
  have ES := Lib.hid (ES.out.only ho (by omega))
  obtain ⟨kn2, hkn2⟩ : ∃ kn : Nat, kn1 + t2.length = kn := ⟨_, rfl⟩
  rw [hkn2]
  have hkl2 : kn2 ≤ 3298534883329 := by omega
  clear hkn2 ho
  have cx3 := HBX3.out.cell 0
  have cx3' := HBX3.out.cell 1
  go_wp2_with fail
  have hcn3 : t3.length ≤ 1099511627776 := (by have := HX3.out; omega)
  refine (markCochain_ex D3 m3 t3 k3 kn2 W8.heap.size W9.heap.size W20 HD3.out HX3.out (by omega) (by omega)).mono ?_
  rintro e W21 ⟨rfl, ho, _⟩
  have HOg0 := Lib.hid (HOg0.out.above ho (by omega))
  have HXg0 := Lib.hid (HXg0.out.above ho (by omega))
  have hzm3 := ho.size
  have EW := Lib.hid (EW.out.only ho (by omega))
  have EA := Lib.hid (EA.out.only ho (by omega))
  have ES := Lib.hid (ES.out.only ho (by omega))
  obtain ⟨kn3, hkn3⟩ : ∃ kn : Nat, kn2 + t3.length = kn := ⟨_, rfl⟩
  rw [hkn3]
  have hkl3 : kn3 ≤ 4398046511105 := by omega
  clear hkn3 ho cx3 cx3'
  obtain ⟨kz, hkz⟩ : ∃ kz : Int, (kn3 : Int) = kz := ⟨_, rfl⟩
  have hkd : decide (kz < 0) = false := by simp only [decide_eq_false_iff_not]; omega
  rw [hkz]
  clear hkz
  have EG := Lib.hid (Ex.refl W21)
  -- the results again
  have crg0 := (HXg0.out.ex EG.out).cell 0
  have crg0' := (HXg0.out.ex EG.out).cell 1
  have crs0 := (HXs0.out.ex ES.out).cell 0
  have crs0' := (HXs0.out.ex ES.out).cell 1
  go_wp2_with fail
  clear crg0 crg0' crs0 crs0'
  refine (eqCochain_ex Cg0 Cs0 q0 y0 ng0 ns0 W21 (HOg0.out.ints.ex EG.out) (HOs0.out.ex ES.out) HY0.out).mono ?_
  rintro e W22 ⟨rfl, he⟩
  have EW := Lib.hid (EW.out.trans he)
  have EA := Lib.hid (EA.out.trans he)
  have ES := Lib.hid (ES.out.trans he)
  have EG := Lib.hid (EG.out.trans he)
  clear he
  clear hkd
  -- marks in the result
  have HOg0 := Lib.hid (HOg0.out.ex EG.out)
  have HXg0 := Lib.hid (HXg0.out.ex EG.out)
  clear EG
  have crg0 := HXg0.out.cell 0
  have crg0' := HXg0.out.cell 1
  go_wp2_with fail
  clear crg0 crg0'
  have hcr0 : y0.length ≤ 1099511627776 := (by have := HY0.out; omega)
  have hgl := HOg0.out.le
  refine (markCochain_ex Cg0 q0 y0 ng0 1 W10.heap.size Ug.heap.size W22 HOg0.out HY0.out (by omega) (by omega)).mono ?_
  rintro e W23 ⟨rfl, ho, hmk⟩
  have HM0 := Lib.hid hmk
  clear hmk hgl
  have HXg0 := Lib.hid (HXg0.out.above ho (by omega))
  have hzr0 := ho.size
  have EW := Lib.hid (EW.out.only ho (by omega))
  have EA := Lib.hid (EA.out.only ho (by omega))
  have ES := Lib.hid (ES.out.only ho (by omega))
  obtain ⟨mn0, hmn0⟩ : ∃ mn : Nat, 1 + y0.length = mn := ⟨_, rfl⟩
  rw [hmn0]
  have hml0 : mn0 ≤ 1099511627777 := by omega
  have HMN0 := Lib.hid hmn0
  clear hmn0 ho
  have EM := Lib.hid (Ex.refl W23)
  obtain ⟨mm, hmm⟩ : ∃ mm : Int, (mn0 : Int) = mm := ⟨_, rfl⟩
  have h122 : (mm != mm) = false := by simp
  have HMM := Lib.hid hmm
  rw [hmm]
  clear hmm
  have hmneg0 : decide (mm < 0) = false := by have := HMM.out; simp only [decide_eq_false_iff_not]; omega
  have crg0 := (HXg0.out.ex EM.out).cell 0
  have crg0' := (HXg0.out.ex EM.out).cell 1
  go_wp2_with fail
  clear crg0 crg0'
  refine (heldCochain_ex Cg0 q0 y0.length ng0 1 W10.heap.size Ug.heap.size W23 (HM0.out.ex EM.out) HY0.out (by omega)).mono ?_
  rintro e W24 ⟨rfl, he⟩
  have EW := Lib.hid (EW.out.trans he)
  have EA := Lib.hid (EA.out.trans he)
  have ES := Lib.hid (ES.out.trans he)
  have EM := Lib.hid (EM.out.trans he)
  clear he
  rw [HMN0.out, HMM.out]
  -- the second call
  have HKh := Lib.hid (fun (W' : World) (hb : Ex W24.drew W') => (⟨(HB0.out.ex ((EA.out.drew).trans hb)).cell 0, (HB1.out.ex ((EA.out.drew).trans hb)).cell 0, (HB1.out.ex ((EA.out.drew).trans hb)).cell 1, (HB3.out.ex ((EA.out.drew).trans hb)).cell 0, (HB3.out.ex ((EA.out.drew).trans hb)).cell 1⟩ : (fun w' : World => w'.cell? ⟨w.heap.size, 0, none⟩ = some (.slice A0 t0.length c0) ∧ w'.cell? ⟨w.heap.size + 1, 0, none⟩ = some (.int .i64 m1) ∧ w'.cell? ⟨w.heap.size + 1, 1, none⟩ = some (.slice A1 t1.length c1) ∧ w'.cell? ⟨w.heap.size + 1 + 1, 0, none⟩ = some (.int .i64 m3) ∧ w'.cell? ⟨w.heap.size + 1 + 1, 1, none⟩ = some (.slice A3 t3.length c3)) W'))
  have ED := Lib.hid (EA.out.drew)
  have EDW := Lib.hid (EW.out.drew)
  go_upto_region 44 with (fail)
  go_cut [21, 22] (fun s21 s22 wx => ∃ (b0 : Nat) (C0 : Option Addr) (n0 : Nat), s21 = .pointer (some ⟨b0, 0, none⟩) ∧ s22 = .int .i64 q1 ∧ Ex W24 wx ∧ Has wx b0 34 #[.int .i64 q0, .slice C0 y0.length n0] ∧ IntsW wx C0 y0)
  case first =>
    go_region_held3 (fun w' : World => w'.cell? ⟨w.heap.size, 0, none⟩ = some (.slice A0 t0.length c0) ∧ w'.cell? ⟨w.heap.size + 1, 0, none⟩ = some (.int .i64 m1) ∧ w'.cell? ⟨w.heap.size + 1, 1, none⟩ = some (.slice A1 t1.length c1) ∧ w'.cell? ⟨w.heap.size + 1 + 1, 0, none⟩ = some (.int .i64 m3) ∧ w'.cell? ⟨w.heap.size + 1 + 1, 1, none⟩ = some (.slice A3 t3.length c3))
      (first
        | exact HKh.out _ (Ex.refl _)
        | exact HKh.out _ (by assumption)
        | exact HKh.out _ (by first | exact Ex.refl _ | assumption | exact Ex.alloc (Ex.refl _) _ | exact Ex.alloc (by assumption) _ | exact Ex.alloc (Ex.alloc (Ex.refl _) _) _ | exact Ex.alloc (Ex.alloc (by assumption) _) _)
        | exact HKh.out _ (by repeat (first | exact Ex.refl _ | assumption | refine Ex.alloc ?_ _ | refine Ex.setCell ?_ (by first | assumption | exact Ex.size (by assumption) | exact Nat.le_trans (Ex.size (by assumption)) (by simp)) _)))
      (first
        | (go_at_call 9; refine (toGroup_ex A0 t0 c0 _ (HR0.out.ex (ED.out.trans (by first | exact Ex.refl _ | assumption | exact Ex.alloc (Ex.refl _) _ | exact Ex.alloc (by assumption) _ | exact Ex.alloc (Ex.alloc (Ex.refl _) _) _ | exact Ex.alloc (Ex.alloc (by assumption) _) _))) HX0.out).mono ?_; rintro e Vh0 ⟨Dh0, kh0, rfl, hvh0, hdh0⟩; have hth0 : Ex W24.drew Vh0 := Ex.trans (by first | exact Ex.refl _ | assumption | exact Ex.alloc (Ex.refl _) _ | exact Ex.alloc (by assumption) _ | exact Ex.alloc (Ex.alloc (Ex.refl _) _) _ | exact Ex.alloc (Ex.alloc (by assumption) _) _) hvh0; have HDh0 := Lib.hid hdh0; clear hdh0; (first | (have hbx0 := (hbx0.later hvh0).1) | (have hbx0 := ((hbx0.alloc _).later hvh0).1) | (have hbw0 := Has.born (T := 34) (cs := #[.int .i64 0, .slice none 0 0]) (a := W24.drew) (by first | exact Ex.refl _ | assumption | exact Ex.alloc (Ex.refl _) _ | exact Ex.alloc (by assumption) _ | exact Ex.alloc (Ex.alloc (Ex.refl _) _) _ | exact Ex.alloc (Ex.alloc (by assumption) _) _) hvh0; have hbx0 := hbw0.1; have hbz0 := hbw0.2.2; clear hbw0) | (have hbw0 := Has.born' (T := 34) (cs := #[.int .i64 0, .slice none 0 0]) (a := W24.drew) (by first | exact Ex.refl _ | assumption | exact Ex.alloc (Ex.refl _) _ | exact Ex.alloc (by assumption) _ | exact Ex.alloc (Ex.alloc (Ex.refl _) _) _ | exact Ex.alloc (Ex.alloc (by assumption) _) _) hvh0; have hbx0 := hbw0.1; have hbz0 := hbw0.2.2; clear hbw0) | (have hbw0 := Has.bornD (T := 34) (cs := #[.int .i64 0, .slice none 0 0]) hvh0; have hbx0 := hbw0.1; have hbz0 := hbw0.2.2; clear hbw0) | (have hbw0 := Has.bornD' (T := 34) (cs := #[.int .i64 0, .slice none 0 0]) hvh0; have hbx0 := hbw0.1; have hbz0 := hbw0.2.2; clear hbw0) | skip))
        | (go_at_call 26; refine (toModule_ex A1 m1 t1 c1 _ (HR1.out.ex (ED.out.trans (by first | exact Ex.refl _ | assumption | exact Ex.alloc (Ex.refl _) _ | exact Ex.alloc (by assumption) _ | exact Ex.alloc (Ex.alloc (Ex.refl _) _) _ | exact Ex.alloc (Ex.alloc (by assumption) _) _))) HX1.out).mono ?_; rintro e Vh1 ⟨Dh1, kh1, rfl, hvh1, hdh1⟩; have hth1 : Ex W24.drew Vh1 := Ex.trans (by first | exact Ex.refl _ | assumption | exact Ex.alloc (Ex.refl _) _ | exact Ex.alloc (by assumption) _ | exact Ex.alloc (Ex.alloc (Ex.refl _) _) _ | exact Ex.alloc (Ex.alloc (by assumption) _) _) hvh1; have HDh1 := Lib.hid hdh1; clear hdh1; have HDh0 := Lib.hid (HDh0.out.ex (Ex.trans (by first | exact Ex.refl _ | exact Ex.alloc (Ex.refl _) _ | exact Ex.alloc (Ex.alloc (Ex.refl _) _) _) hvh1)); (first | (have hbx0 := (hbx0.later hvh1).1) | (have hbx0 := ((hbx0.alloc _).later hvh1).1) | (have hbw0 := Has.born (T := 34) (cs := #[.int .i64 0, .slice none 0 0]) (a := W24.drew) (by first | exact Ex.refl _ | assumption | exact Ex.alloc (Ex.refl _) _ | exact Ex.alloc (by assumption) _ | exact Ex.alloc (Ex.alloc (Ex.refl _) _) _ | exact Ex.alloc (Ex.alloc (by assumption) _) _) hvh1; have hbx0 := hbw0.1; have hbz0 := hbw0.2.2; clear hbw0) | (have hbw0 := Has.born' (T := 34) (cs := #[.int .i64 0, .slice none 0 0]) (a := W24.drew) (by first | exact Ex.refl _ | assumption | exact Ex.alloc (Ex.refl _) _ | exact Ex.alloc (by assumption) _ | exact Ex.alloc (Ex.alloc (Ex.refl _) _) _ | exact Ex.alloc (Ex.alloc (by assumption) _) _) hvh1; have hbx0 := hbw0.1; have hbz0 := hbw0.2.2; clear hbw0) | (have hbw0 := Has.bornD (T := 34) (cs := #[.int .i64 0, .slice none 0 0]) hvh1; have hbx0 := hbw0.1; have hbz0 := hbw0.2.2; clear hbw0) | (have hbw0 := Has.bornD' (T := 34) (cs := #[.int .i64 0, .slice none 0 0]) hvh1; have hbx0 := hbw0.1; have hbz0 := hbw0.2.2; clear hbw0) | skip))
        | (go_at_call 27; refine (toInt64S_ex A2 t2 c2 _ (HR2.out.ex (ED.out.trans (by first | exact Ex.refl _ | assumption | exact Ex.alloc (Ex.refl _) _ | exact Ex.alloc (by assumption) _ | exact Ex.alloc (Ex.alloc (Ex.refl _) _) _ | exact Ex.alloc (Ex.alloc (by assumption) _) _))) HX2.out).mono ?_; rintro e Vh2 ⟨Dh2, kh2, rfl, hvh2, hdh2⟩; have hth2 : Ex W24.drew Vh2 := Ex.trans (by first | exact Ex.refl _ | assumption | exact Ex.alloc (Ex.refl _) _ | exact Ex.alloc (by assumption) _ | exact Ex.alloc (Ex.alloc (Ex.refl _) _) _ | exact Ex.alloc (Ex.alloc (by assumption) _) _) hvh2; have HDh2 := Lib.hid hdh2; clear hdh2; have HDh0 := Lib.hid (HDh0.out.ex (Ex.trans (by first | exact Ex.refl _ | exact Ex.alloc (Ex.refl _) _ | exact Ex.alloc (Ex.alloc (Ex.refl _) _) _) hvh2)); have HDh1 := Lib.hid (HDh1.out.ex (Ex.trans (by first | exact Ex.refl _ | exact Ex.alloc (Ex.refl _) _ | exact Ex.alloc (Ex.alloc (Ex.refl _) _) _) hvh2)); (first | (have hbx0 := (hbx0.later hvh2).1) | (have hbx0 := ((hbx0.alloc _).later hvh2).1) | (have hbw0 := Has.born (T := 34) (cs := #[.int .i64 0, .slice none 0 0]) (a := W24.drew) (by first | exact Ex.refl _ | assumption | exact Ex.alloc (Ex.refl _) _ | exact Ex.alloc (by assumption) _ | exact Ex.alloc (Ex.alloc (Ex.refl _) _) _ | exact Ex.alloc (Ex.alloc (by assumption) _) _) hvh2; have hbx0 := hbw0.1; have hbz0 := hbw0.2.2; clear hbw0) | (have hbw0 := Has.born' (T := 34) (cs := #[.int .i64 0, .slice none 0 0]) (a := W24.drew) (by first | exact Ex.refl _ | assumption | exact Ex.alloc (Ex.refl _) _ | exact Ex.alloc (by assumption) _ | exact Ex.alloc (Ex.alloc (Ex.refl _) _) _ | exact Ex.alloc (Ex.alloc (by assumption) _) _) hvh2; have hbx0 := hbw0.1; have hbz0 := hbw0.2.2; clear hbw0) | (have hbw0 := Has.bornD (T := 34) (cs := #[.int .i64 0, .slice none 0 0]) hvh2; have hbx0 := hbw0.1; have hbz0 := hbw0.2.2; clear hbw0) | (have hbw0 := Has.bornD' (T := 34) (cs := #[.int .i64 0, .slice none 0 0]) hvh2; have hbx0 := hbw0.1; have hbz0 := hbw0.2.2; clear hbw0) | skip))
        | (go_at_call 10; refine (toCochain_ex A3 m3 t3 c3 _ (HR3.out.ex (ED.out.trans (by first | exact Ex.refl _ | assumption | exact Ex.alloc (Ex.refl _) _ | exact Ex.alloc (by assumption) _ | exact Ex.alloc (Ex.alloc (Ex.refl _) _) _ | exact Ex.alloc (Ex.alloc (by assumption) _) _))) HX3.out).mono ?_; rintro e Vh3 ⟨Dh3, kh3, rfl, hvh3, hdh3⟩; have hth3 : Ex W24.drew Vh3 := Ex.trans (by first | exact Ex.refl _ | assumption | exact Ex.alloc (Ex.refl _) _ | exact Ex.alloc (by assumption) _ | exact Ex.alloc (Ex.alloc (Ex.refl _) _) _ | exact Ex.alloc (Ex.alloc (by assumption) _) _) hvh3; have HDh3 := Lib.hid hdh3; clear hdh3; have HDh0 := Lib.hid (HDh0.out.ex (Ex.trans (by first | exact Ex.refl _ | exact Ex.alloc (Ex.refl _) _ | exact Ex.alloc (Ex.alloc (Ex.refl _) _) _) hvh3)); have HDh1 := Lib.hid (HDh1.out.ex (Ex.trans (by first | exact Ex.refl _ | exact Ex.alloc (Ex.refl _) _ | exact Ex.alloc (Ex.alloc (Ex.refl _) _) _) hvh3)); have HDh2 := Lib.hid (HDh2.out.ex (Ex.trans (by first | exact Ex.refl _ | exact Ex.alloc (Ex.refl _) _ | exact Ex.alloc (Ex.alloc (Ex.refl _) _) _) hvh3)); (first | (have hbx0 := (hbx0.later hvh3).1) | (have hbx0 := ((hbx0.alloc _).later hvh3).1) | (have hbw0 := Has.born (T := 34) (cs := #[.int .i64 0, .slice none 0 0]) (a := W24.drew) (by first | exact Ex.refl _ | assumption | exact Ex.alloc (Ex.refl _) _ | exact Ex.alloc (by assumption) _ | exact Ex.alloc (Ex.alloc (Ex.refl _) _) _ | exact Ex.alloc (Ex.alloc (by assumption) _) _) hvh3; have hbx0 := hbw0.1; have hbz0 := hbw0.2.2; clear hbw0) | (have hbw0 := Has.born' (T := 34) (cs := #[.int .i64 0, .slice none 0 0]) (a := W24.drew) (by first | exact Ex.refl _ | assumption | exact Ex.alloc (Ex.refl _) _ | exact Ex.alloc (by assumption) _ | exact Ex.alloc (Ex.alloc (Ex.refl _) _) _ | exact Ex.alloc (Ex.alloc (by assumption) _) _) hvh3; have hbx0 := hbw0.1; have hbz0 := hbw0.2.2; clear hbw0) | (have hbw0 := Has.bornD (T := 34) (cs := #[.int .i64 0, .slice none 0 0]) hvh3; have hbx0 := hbw0.1; have hbz0 := hbw0.2.2; clear hbw0) | (have hbw0 := Has.bornD' (T := 34) (cs := #[.int .i64 0, .slice none 0 0]) hvh3; have hbx0 := hbw0.1; have hbz0 := hbw0.2.2; clear hbw0) | skip))
        | (go_at_call 28; refine (HI.out Dh0 kh0 Dh1 kh1 Dh2 kh2 Dh3 kh3 _ (HDh0.out.rws.ex (by first | exact Ex.refl _ | exact Ex.alloc (Ex.refl _) _ | exact Ex.alloc (Ex.alloc (Ex.refl _) _) _)) (HDh1.out.ints.ex (by first | exact Ex.refl _ | exact Ex.alloc (Ex.refl _) _ | exact Ex.alloc (Ex.alloc (Ex.refl _) _) _)) (HDh2.out.ints.ex (by first | exact Ex.refl _ | exact Ex.alloc (Ex.refl _) _ | exact Ex.alloc (Ex.alloc (Ex.refl _) _) _)) (HDh3.out.ints.ex (by first | exact Ex.refl _ | exact Ex.alloc (Ex.refl _) _ | exact Ex.alloc (Ex.alloc (Ex.refl _) _) _)) HX0.out HX1.out HX2.out HX3.out (HTL.out.ex (EDW.out.trans (by first | exact Ex.refl _ | assumption | exact Ex.alloc (Ex.refl _) _ | exact Ex.alloc (by assumption) _ | exact Ex.alloc (Ex.alloc (Ex.refl _) _) _ | exact Ex.alloc (Ex.alloc (by assumption) _) _)))).mono ?_; rintro e Uh ⟨Ch0, nh0, rfl, heh, hoh0⟩; have hth : Ex W24.drew Uh := Ex.trans (by first | exact Ex.refl _ | assumption | exact Ex.alloc (Ex.refl _) _ | exact Ex.alloc (by assumption) _ | exact Ex.alloc (Ex.alloc (Ex.refl _) _) _ | exact Ex.alloc (Ex.alloc (by assumption) _) _) heh; have HOh0 := Lib.hid hoh0; clear hoh0; (first | (have hbw0 := hbx0.later heh; have hbx0 := hbw0.1; have hbl0 := hbw0.2; clear hbw0) | (have hbw0 := (hbx0.alloc _).later heh; have hbx0 := hbw0.1; have hbl0 := hbw0.2; clear hbw0) | (have hbw0 := Has.born (T := 34) (cs := #[.int .i64 0, .slice none 0 0]) (a := W24.drew) (by first | exact Ex.refl _ | assumption | exact Ex.alloc (Ex.refl _) _ | exact Ex.alloc (by assumption) _ | exact Ex.alloc (Ex.alloc (Ex.refl _) _) _ | exact Ex.alloc (Ex.alloc (by assumption) _) _) heh; have hbx0 := hbw0.1; have hbl0 := hbw0.2.1; have hbz0 := hbw0.2.2; clear hbw0) | (have hbw0 := Has.born' (T := 34) (cs := #[.int .i64 0, .slice none 0 0]) (a := W24.drew) (by first | exact Ex.refl _ | assumption | exact Ex.alloc (Ex.refl _) _ | exact Ex.alloc (by assumption) _ | exact Ex.alloc (Ex.alloc (Ex.refl _) _) _ | exact Ex.alloc (Ex.alloc (by assumption) _) _) heh; have hbx0 := hbw0.1; have hbl0 := hbw0.2.1; have hbz0 := hbw0.2.2; clear hbw0) | skip); (first | (have cbx00 := hbx0.cell 0; have fbx00 := hbx0.free 0; have cbx01 := hbx0.cell 1; have fbx01 := hbx0.free 1) | skip)))
    all_goals
      go_wp2_with fail
      go_meet
      refine ⟨_, Ch0, nh0, rfl, rfl, ?_, ?_, ?_⟩
      · exact (Ex.refl W24).drew.trans (by repeat (first | exact hth | refine Ex.alloc ?_ _ | refine Ex.setCell ?_ (by first | assumption | exact Ex.size (by assumption) | exact Nat.le_trans (Ex.size (by assumption)) (by simp)) _))
      · first | exact Has.new _ _ _ | exact hbx0.put2 | exact (Has.new _ _ _).alloc _ | exact hbx0.put2.alloc _ | exact (hbx0.alloc _).put2
      · first | exact HOh0.out.ints.ex (Ex.new _ _) | exact ((HOh0.out.above (Only.set _ _ _ _) hbl0).above (Only.set _ _ _ _) hbl0).ints | exact ((HOh0.out.above (Only.set _ _ _ _) hbl0).above (Only.set _ _ _ _) hbl0).ints.ex (Ex.new _ _) | exact HOh0.out.ints.ex ((Ex.new _ _).alloc _)
  obtain ⟨Uh, rfl⟩ : ∃ x : World, x = wc := ⟨_, rfl⟩
  obtain ⟨bbh0, Ch0, nh0, rfl, rfl, hfh, hbxh0, hoh0⟩ := hcut
  have HOh0 := Lib.hid hoh0
  clear hoh0
  clear HKh ED EDW
  have HXh0 := Lib.hid hbxh0
  clear hbxh0
  have EW := Lib.hid (EW.out.trans hfh)
  have EA := Lib.hid (EA.out.trans hfh)
  have ES := Lib.hid (ES.out.trans hfh)
  have EM := Lib.hid (EM.out.trans hfh)
  clear hfh
  have EH := Lib.hid (Ex.refl Uh)
  have crh0 := (HXh0.out.ex EH.out).cell 0
  have crh0' := (HXh0.out.ex EH.out).cell 1
  have crs0 := (HXs0.out.ex ES.out).cell 0
  have crs0' := (HXs0.out.ex ES.out).cell 1
  go_wp2_with fail
  clear crh0 crh0' crs0 crs0'
  refine (eqCochain_ex Ch0 Cs0 q0 y0 nh0 ns0 Uh (HOh0.out.ex EH.out) (HOs0.out.ex ES.out) HY0.out).mono ?_
  rintro e W25 ⟨rfl, he⟩
  have EW := Lib.hid (EW.out.trans he)
  have EA := Lib.hid (EA.out.trans he)
  have ES := Lib.hid (ES.out.trans he)
  have EM := Lib.hid (EM.out.trans he)
  have EH := Lib.hid (EH.out.trans he)
  clear he
  have crg0 := (HXg0.out.ex EM.out).cell 0
  have crg0' := (HXg0.out.ex EM.out).cell 1
  go_wp2_with fail
  clear crg0 crg0'
  refine (heldCochain_ex Cg0 q0 y0.length ng0 1 W10.heap.size Ug.heap.size W25 (HM0.out.ex EM.out) HY0.out (by omega)).mono ?_
  rintro e W26 ⟨rfl, he⟩
  have EW := Lib.hid (EW.out.trans he)
  have EA := Lib.hid (EA.out.trans he)
  have ES := Lib.hid (ES.out.trans he)
  have EM := Lib.hid (EM.out.trans he)
  have EH := Lib.hid (EH.out.trans he)
  clear he
  rw [HMN0.out, HMM.out]
  go_wp2_with fail
  go_ret
  exact ⟨rfl, EW.out⟩

end Go.Proofs.YtcdijeeabgmgmaaGreatDoor
