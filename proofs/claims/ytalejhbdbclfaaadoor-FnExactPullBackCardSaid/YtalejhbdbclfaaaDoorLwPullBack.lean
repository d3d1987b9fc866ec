/- The law of PullBack: the walk, whatever the contracts of both functions. -/
import Derived.Deep.RegionHeld3
import Derived.Deep.RegionWith
import Derived.Deep.DeepCutAuto
import Derived.Test.YtalejhbdbclfaaaDoorExv
import Derived.Test.YtalejhbdbclfaaaDoorUz
namespace Go.Proofs.YtalejhbdbclfaaaDoor
open Go.RowKit

set_option maxRecDepth 100000 in
set_option maxHeartbeats 16000000 in
theorem lawPullBack_any (A0 : Option Addr) (t0 : List (List Int)) (c0 : Nat) (A1 : Option Addr) (t1 : List (List Int)) (c1 : Nat) (m2 : Int) (A2 : Option Addr) (t2 : List Int) (c2 : Nat) (A3 : Option Addr) (t3 : List Int) (c3 : Nat) (m4 : Int) (A4 : Option Addr) (t4 : List Int) (c4 : Nat) (q0 : Int) (y0 : List Int) (q1 : Int) (y1 : List Int) (q2 : Int) (w : World) (hR0 : RwsW w A0 t0) (hn0 : t0.length ≤ maxLen) (hl0 : ∀ i, i < t0.length → (row t0 i).length ≤ maxLen) (hR1 : RwsW w A1 t1) (hn1 : t1.length ≤ maxLen) (hl1 : ∀ i, i < t1.length → (row t1 i).length ≤ maxLen) (hR2 : IntsW w A2 t2) (hn2 : t2.length ≤ maxLen) (hR3 : IntsW w A3 t3) (hn3 : t3.length ≤ maxLen) (hR4 : IntsW w A4 t4) (hn4 : t4.length ≤ maxLen) (hy0 : y0.length ≤ 1048576) (hy1 : y1.length ≤ 1048576)
    (HS : ∀ (B0 : Option Addr) (d0 : Nat) (B1 : Option Addr) (d1 : Nat) (B2 : Option Addr) (d2 : Nat) (B3 : Option Addr) (d3 : Nat) (B4 : Option Addr) (d4 : Nat) (W : World), RwsW W B0 t0 → RwsW W B1 t1 → IntsW W B2 t2 → IntsW W B3 t3 → IntsW W B4 t4 → SmallT t0 → SmallT t1 → t2.length ≤ 1048576 → t3.length ≤ 1048576 → t4.length ≤ 1048576 → Calls Tryd.prog 48 #[.agg #[.slice B0 t0.length d0], .agg #[.slice B1 t1.length d1], .agg #[.int .i64 m2, .slice B2 t2.length d2], .slice B3 t3.length d3, .agg #[.int .i64 m4, .slice B4 t4.length d4]] W fun e W' => ∃ (C0 : Option Addr) (e0 : Nat) (C1 : Option Addr) (e1 : Nat), e = .returned (.tuple #[.agg #[.int .i64 q0, .slice C0 y0.length e0], .agg #[.int .i64 q1, .slice C1 y1.length e1], .int .i64 q2]) ∧ Ex W W' ∧ OwnL W' W.heap.size W'.heap.size C0 y0 ∧ OwnL W' W.heap.size W'.heap.size C1 y1)
    (HI : ∀ (B0 : Option Addr) (d0 : Nat) (B1 : Option Addr) (d1 : Nat) (B2 : Option Addr) (d2 : Nat) (B3 : Option Addr) (d3 : Nat) (B4 : Option Addr) (d4 : Nat) (W : World), RwsW W B0 t0 → RwsW W B1 t1 → IntsW W B2 t2 → IntsW W B3 t3 → IntsW W B4 t4 → SmallT t0 → SmallT t1 → t2.length ≤ 1048576 → t3.length ≤ 1048576 → t4.length ≤ 1048576 → Calls Tryd.prog 49 #[.agg #[.slice B0 t0.length d0], .agg #[.slice B1 t1.length d1], .agg #[.int .i64 m2, .slice B2 t2.length d2], .slice B3 t3.length d3, .agg #[.int .i64 m4, .slice B4 t4.length d4]] W fun e W' => ∃ (C0 : Option Addr) (e0 : Nat) (C1 : Option Addr) (e1 : Nat) (mid : Nat), e = .returned (.tuple #[.agg #[.int .i64 q0, .slice C0 y0.length e0], .agg #[.int .i64 q1, .slice C1 y1.length e1], .int .i64 q2]) ∧ Ex W W' ∧ W.heap.size ≤ mid ∧ mid ≤ W'.heap.size ∧ OwnL W' W.heap.size mid C0 y0 ∧ OwnL W' mid W'.heap.size C1 y1) :
    Calls Tryd.prog 10 #[.agg #[.slice A0 t0.length c0], .agg #[.slice A1 t1.length c1], .agg #[.int .i64 m2, .slice A2 t2.length c2], .slice A3 t3.length c3, .agg #[.int .i64 m4, .slice A4 t4.length c4]] w fun e w' => e = .returned (.bool true) ∧ Ex w w' := by
  have e0 : Ex w ((((w.alloc (.cells #[.slice A0 t0.length c0] 24)).alloc (.cells #[.slice A1 t1.length c1] 24)).alloc (.cells #[.int .i64 m2, .slice A2 t2.length c2] 38)).alloc (.cells #[.int .i64 m4, .slice A4 t4.length c4] 55)) := ((((Ex.refl w).alloc _).alloc _).alloc _).alloc _
  have b0 : Has ((((w.alloc (.cells #[.slice A0 t0.length c0] 24)).alloc (.cells #[.slice A1 t1.length c1] 24)).alloc (.cells #[.int .i64 m2, .slice A2 t2.length c2] 38)).alloc (.cells #[.int .i64 m4, .slice A4 t4.length c4] 55)) (w.heap.size) 24 #[.slice A0 t0.length c0] := ((((Has.newAt (w := w) (e := 24) (cs := #[.slice A0 t0.length c0]) (k := w.heap.size) (by simp)).alloc _).alloc _).alloc _)
  have b1 : Has ((((w.alloc (.cells #[.slice A0 t0.length c0] 24)).alloc (.cells #[.slice A1 t1.length c1] 24)).alloc (.cells #[.int .i64 m2, .slice A2 t2.length c2] 38)).alloc (.cells #[.int .i64 m4, .slice A4 t4.length c4] 55)) (w.heap.size + 1) 24 #[.slice A1 t1.length c1] := (((Has.newAt (w := (w.alloc (.cells #[.slice A0 t0.length c0] 24))) (e := 24) (cs := #[.slice A1 t1.length c1]) (k := w.heap.size + 1) (by simp)).alloc _).alloc _)
  have b2 : Has ((((w.alloc (.cells #[.slice A0 t0.length c0] 24)).alloc (.cells #[.slice A1 t1.length c1] 24)).alloc (.cells #[.int .i64 m2, .slice A2 t2.length c2] 38)).alloc (.cells #[.int .i64 m4, .slice A4 t4.length c4] 55)) (w.heap.size + 1 + 1) 38 #[.int .i64 m2, .slice A2 t2.length c2] := ((Has.newAt (w := ((w.alloc (.cells #[.slice A0 t0.length c0] 24)).alloc (.cells #[.slice A1 t1.length c1] 24))) (e := 38) (cs := #[.int .i64 m2, .slice A2 t2.length c2]) (k := w.heap.size + 1 + 1) (by simp)).alloc _)
  have b4 : Has ((((w.alloc (.cells #[.slice A0 t0.length c0] 24)).alloc (.cells #[.slice A1 t1.length c1] 24)).alloc (.cells #[.int .i64 m2, .slice A2 t2.length c2] 38)).alloc (.cells #[.int .i64 m4, .slice A4 t4.length c4] 55)) (w.heap.size + 1 + 1 + 1) 55 #[.int .i64 m4, .slice A4 t4.length c4] := (Has.newAt (w := (((w.alloc (.cells #[.slice A0 t0.length c0] 24)).alloc (.cells #[.slice A1 t1.length c1] 24)).alloc (.cells #[.int .i64 m2, .slice A2 t2.length c2] 38))) (e := 55) (cs := #[.int .i64 m4, .slice A4 t4.length c4]) (k := w.heap.size + 1 + 1 + 1) (by simp))
  have HR0 := Lib.hid (hR0.ex e0)
  have HR1 := Lib.hid (hR1.ex e0)
  have HR2 := Lib.hid (hR2.ex e0)
  have HR3 := Lib.hid (hR3.ex e0)
  have HR4 := Lib.hid (hR4.ex e0)
  have HN0 := Lib.hid hn0
  have HL0 := Lib.hid hl0
  have HN1 := Lib.hid hn1
  have HL1 := Lib.hid hl1
  have HN2 := Lib.hid hn2
  have HN4 := Lib.hid hn4
  have HY0 := Lib.hid hy0
  have HY1 := Lib.hid hy1
  have HS := Lib.hid HS
  have HI := Lib.hid HI
  clear hR0 hR1 hR2 hR3 hR4 hn0 hn1 hn2 hn4 hl0 hl1 hy0 hy1
  have cb0 := b0.cell 0
  have HB0 := Lib.hid b0
  have HB1 := Lib.hid b1
  have HB2 := Lib.hid b2
  have HB4 := Lib.hid b4
  clear b0 b1 b2 b4
  unfold maxLen at hn3
  by_cases hbig : 1048576 < t3.length
  · have hbb3 : decide ((1048576 : Int) < (t3.length : Int)) = true := by simp; omega
    go_enter Tryd.func10, Tryd.ntmps10
    go_wp2
    go_ret
    exact ⟨rfl, e0⟩
  have hbb3 : decide ((1048576 : Int) < (t3.length : Int)) = false := by simp; omega
  have HX3 := Lib.hid (show t3.length ≤ 1048576 by omega)
  clear hbig hn3
  go_enter Tryd.func10, Tryd.ntmps10
  go_wp2_with fail
  generalize ((((w.alloc (.cells #[.slice A0 t0.length c0] 24)).alloc (.cells #[.slice A1 t1.length c1] 24)).alloc (.cells #[.int .i64 m2, .slice A2 t2.length c2] 38)).alloc (.cells #[.int .i64 m4, .slice A4 t4.length c4] 55)) = W0 at *
  have EW := Lib.hid e0
  have EA := Lib.hid (Ex.refl W0)
  clear e0
  clear hbb3
  refine (szGroup_ex A0 t0 c0 1048576 W0 (HR0.out.ex EA.out) HN0.out HL0.out (by omega) (by omega)).mono ?_
  rintro e W1 ⟨⟨r0, rfl, hr⟩, he⟩
  have EW := Lib.hid (EW.out.trans he)
  have EA := Lib.hid (EA.out.trans he)
  clear he cb0
  rcases hr with rfl | ⟨hr0, hr1, hs⟩
  · go_wp2
    go_ret
    exact ⟨rfl, EW.out⟩
  have HX0 := Lib.hid hs
  have hneg : decide (r0 < 0) = false := by simp; omega
  clear hs
  have cb1 := (HB1.out.ex EA.out).cell 0
  go_wp2_with fail
  refine (szGroup_ex A1 t1 c1 r0 W1 (HR1.out.ex EA.out) HN1.out HL1.out (by omega) (by omega)).mono ?_
  rintro e W2 ⟨⟨r1, rfl, hr⟩, he⟩
  have EW := Lib.hid (EW.out.trans he)
  have EA := Lib.hid (EA.out.trans he)
  clear he cb1 hneg
  rcases hr with rfl | ⟨hr0, hr1, hs⟩
  · go_wp2
    go_ret
    exact ⟨rfl, EW.out⟩
  have HX1 := Lib.hid hs
  have hrl : r1 ≤ 1048576 := by omega
  have hneg : decide (r1 < 0) = false := by simp; omega
  clear hs
  have cb2 := (HB2.out.ex EA.out).cell 0
  have cb2' := (HB2.out.ex EA.out).cell 1
  go_wp2_with fail
  refine (szModule_ex A2 m2 t2 c2 r1 W2 HN2.out (by omega) (by omega)).mono ?_
  rintro e W3 ⟨⟨r2, rfl, hr⟩, he⟩
  have EW := Lib.hid (EW.out.trans he)
  have EA := Lib.hid (EA.out.trans he)
  clear he cb2 cb2' hneg
  rcases hr with rfl | ⟨hr0, hr1, hs⟩
  · go_wp2
    go_ret
    exact ⟨rfl, EW.out⟩
  have HX2 := Lib.hid hs
  have hrl : r2 ≤ 1048576 := by omega
  have hneg : decide (r2 < 0) = false := by simp; omega
  clear hs
  have cb4 := (HB4.out.ex EA.out).cell 0
  have cb4' := (HB4.out.ex EA.out).cell 1
  go_wp2_with fail
  refine (szCochain_ex A4 m4 t4 c4 r2 W3 HN4.out (by omega) (by omega)).mono ?_
  rintro e W4 ⟨⟨r4, rfl, hr⟩, he⟩
  have EW := Lib.hid (EW.out.trans he)
  have EA := Lib.hid (EA.out.trans he)
  clear he cb4 cb4' hneg
  rcases hr with rfl | ⟨hr0, hr1, hs⟩
  · go_wp2
    go_ret
    exact ⟨rfl, EW.out⟩
  have HX4 := Lib.hid hs
  have hrl : r4 ≤ 1048576 := by omega
  have hneg : decide (r4 < 0) = false := by simp; omega
  clear hs
  clear HN0 HN1 HN2 HN4 HL0 HL1
  have HKs := Lib.hid (fun (W' : World) (hb : Ex W4 W') => (⟨(HB0.out.ex (EA.out.trans hb)).cell 0, (HB1.out.ex (EA.out.trans hb)).cell 0, (HB2.out.ex (EA.out.trans hb)).cell 0, (HB2.out.ex (EA.out.trans hb)).cell 1, (HB4.out.ex (EA.out.trans hb)).cell 0, (HB4.out.ex (EA.out.trans hb)).cell 1⟩ : (fun w' : World => w'.cell? ⟨w.heap.size, 0, none⟩ = some (.slice A0 t0.length c0) ∧ w'.cell? ⟨w.heap.size + 1, 0, none⟩ = some (.slice A1 t1.length c1) ∧ w'.cell? ⟨w.heap.size + 1 + 1, 0, none⟩ = some (.int .i64 m2) ∧ w'.cell? ⟨w.heap.size + 1 + 1, 1, none⟩ = some (.slice A2 t2.length c2) ∧ w'.cell? ⟨w.heap.size + 1 + 1 + 1, 0, none⟩ = some (.int .i64 m4) ∧ w'.cell? ⟨w.heap.size + 1 + 1 + 1, 1, none⟩ = some (.slice A4 t4.length c4)) W'))
  have ED := Lib.hid (EA.out.drew)
  go_upto_region 16 with (fail)
  go_cut [12, 13, 14] (fun s12 s13 s14 wx => ∃ (b0 : Nat) (C0 : Option Addr) (n0 : Nat) (b1 : Nat) (C1 : Option Addr) (n1 : Nat), s12 = .pointer (some ⟨b0, 0, none⟩) ∧ s13 = .pointer (some ⟨b1, 0, none⟩) ∧ s14 = .int .i64 q2 ∧ Ex W4 wx ∧ Has wx b0 40 #[.int .i64 q0, .slice C0 y0.length n0] ∧ Has wx b1 57 #[.int .i64 q1, .slice C1 y1.length n1] ∧ IntsW wx C0 y0 ∧ IntsW wx C1 y1)
  case first =>
    have HMF := HKs.out W4 (Ex.refl W4)
    refine Late.region (C := (fun w' : World => w'.cell? ⟨w.heap.size, 0, none⟩ = some (.slice A0 t0.length c0) ∧ w'.cell? ⟨w.heap.size + 1, 0, none⟩ = some (.slice A1 t1.length c1) ∧ w'.cell? ⟨w.heap.size + 1 + 1, 0, none⟩ = some (.int .i64 m2) ∧ w'.cell? ⟨w.heap.size + 1 + 1, 1, none⟩ = some (.slice A2 t2.length c2) ∧ w'.cell? ⟨w.heap.size + 1 + 1 + 1, 0, none⟩ = some (.int .i64 m4) ∧ w'.cell? ⟨w.heap.size + 1 + 1 + 1, 1, none⟩ = some (.slice A4 t4.length c4))) (fun _ => true) (by kernel_rfl) HMF (fun hC => ?_)
    refine Late.take (i := 0) (oi := _) (v := ?_) rfl (by kernel_rfl) (by kernel_rfl) (by kernel_rfl) (by kernel_rfl) (fun _ _ _ h => h) (Or.inl ⟨by rfl, ?_⟩) hC ?_
    rotate_left
    · (intro w hSw; (try dsimp only at hSw); go_simp; first | done | with_reducible rfl)
    simp only [Act.put]
    refine Late.take (i := 2) (oi := _) (v := ?_) rfl (by kernel_rfl) (by kernel_rfl) (by kernel_rfl) (by kernel_rfl) (fun _ _ _ h => h) (Or.inl ⟨by rfl, ?_⟩) hC ?_
    rotate_left
    · (intro w hSw; (try dsimp only at hSw); go_simp; first | done | with_reducible rfl)
    simp only [Act.put]
    refine Late.take (i := 4) (oi := _) (v := ?_) rfl (by kernel_rfl) (by kernel_rfl) (by kernel_rfl) (by kernel_rfl) (fun _ _ _ h => h) (Or.inl ⟨by rfl, ?_⟩) hC ?_
    rotate_left
    · (intro w hSw; (try dsimp only at hSw); go_simp; first | done | with_reducible rfl)
    simp only [Act.put]
    refine Late.take (i := 6) (oi := _) (v := ?_) rfl (by kernel_rfl) (by kernel_rfl) (by kernel_rfl) (by kernel_rfl) (fun _ _ _ h => h) (Or.inl ⟨by rfl, ?_⟩) hC ?_
    rotate_left
    · (intro w hSw; (try dsimp only at hSw); go_simp; first | done | with_reducible rfl)
    simp only [Act.put]
    refine Late.take (i := 8) (oi := _) (v := ?_) rfl (by kernel_rfl) (by kernel_rfl) (by kernel_rfl) (by kernel_rfl) (fun _ _ _ h => h) (Or.inl ⟨by rfl, ?_⟩) hC ?_
    rotate_left
    · (intro w hSw; (try dsimp only at hSw); go_simp; first | done | with_reducible rfl)
    simp only [Act.put]
    clear hC HMF
    refine late_start (SS := fun (a0 : Act) (ds : Array Bool) (a : Act) (w' : World) => ∃ (v54 v56 v58 v60 v62 v63 v52 v64 v65 v66 v12 v13 v14 : Value) (C0 : Option Addr) (n0 : Nat) (C1 : Option Addr) (n1 : Nat) (lo hi D E : Nat), a = (((((((((((((a0.put (some 54) v54).put (some 56) v56).put (some 58) v58).put (some 60) v60).put (some 62) v62).put (some 63) v63).put (some 52) v52).put (some 64) v64).put (some 65) v65).put (some 66) v66).put (some 12) v12).put (some 13) v13).put (some 14) v14) ∧ (ds.getD 0 true = true ∧ ds.getD 2 true = true ∧ ds.getD 4 true = true ∧ ds.getD 6 true = true ∧ ds.getD 8 true = true) ∧ Ex W4 w' ∧ (ds.getD 1 true = true → ds.getD 10 true = false → ∃ (D : Option Addr) (k : Nat), v54 = .agg #[.slice D t0.length k] ∧ RwsW w' D t0) ∧ (ds.getD 3 true = true → ds.getD 10 true = false → ∃ (D : Option Addr) (k : Nat), v56 = .agg #[.slice D t1.length k] ∧ RwsW w' D t1) ∧ (ds.getD 5 true = true → ds.getD 10 true = false → ∃ (D : Option Addr) (k : Nat), v58 = .agg #[.int .i64 m2, .slice D t2.length k] ∧ IntsW w' D t2) ∧ (ds.getD 7 true = true → ds.getD 10 true = false → ∃ (D : Option Addr) (k : Nat), v60 = .slice D t3.length k ∧ IntsW w' D t3) ∧ (ds.getD 9 true = true → ds.getD 10 true = false → ∃ (D : Option Addr) (k : Nat), v62 = .agg #[.int .i64 m4, .slice D t4.length k] ∧ IntsW w' D t4) ∧ (ds.getD 10 true = true → v63 = (.tuple #[.agg #[.int .i64 q0, .slice C0 y0.length n0], .agg #[.int .i64 q1, .slice C1 y1.length n1], .int .i64 q2] : Value)) ∧ (ds.getD 11 true = true → ds.getD 10 true = true ∧ v52 = (.tuple #[.agg #[.int .i64 q0, .slice C0 y0.length n0], .agg #[.int .i64 q1, .slice C1 y1.length n1], .int .i64 q2] : Value)) ∧ (ds.getD 12 true = true → ds.getD 10 true = true ∧ v64 = .agg #[.int .i64 q0, .slice C0 y0.length n0]) ∧ (ds.getD 13 true = true → ds.getD 10 true = true ∧ v65 = .agg #[.int .i64 q1, .slice C1 y1.length n1]) ∧ (ds.getD 14 true = true → ds.getD 10 true = true ∧ v66 = .int .i64 q2) ∧ (ds.getD 19 true = true → v14 = .int .i64 q2) ∧ TwoR W4.heap.size 40 57 #[.int .i64 0, .slice none 0 0] #[.int .i64 0, .slice none 0 0] #[.int .i64 q0, .slice C0 y0.length n0] #[.int .i64 q1, .slice C1 y1.length n1] (fun W lo hi => OwnL W lo hi C0 y0 ∧ OwnL W lo hi C1 y1) (ds.getD 10 true) (ds.getD 15 true) (ds.getD 16 true) (ds.getD 17 true) (ds.getD 18 true) v12 v13 lo hi D E w') (by kernel_rfl) ?h0 (by rfl) (by decide) ?hC ?hend ?hstep
    case h0 => exact ⟨undef, undef, undef, undef, undef, undef, undef, undef, undef, undef, undef, undef, undef, none, 0, none, 0, 0, 0, 0, 0, by go_simp, ⟨by decide, by decide, by decide, by decide, by decide⟩, (Ex.refl W4).drew, fun hb => absurd hb (by decide), fun hb => absurd hb (by decide), fun hb => absurd hb (by decide), fun hb => absurd hb (by decide), fun hb => absurd hb (by decide), fun hb => absurd hb (by decide), fun hb => absurd hb (by decide), fun hb => absurd hb (by decide), fun hb => absurd hb (by decide), fun hb => absurd hb (by decide), fun hb => absurd hb (by decide), TwoR.start⟩
    case hC =>
      rintro ds a w' ⟨v54, v56, v58, v60, v62, v63, v52, v64, v65, v66, v12, v13, v14, C0, n0, C1, n1, lo, hi, D, E, rfl, ⟨hd0, hd2, hd4, hd6, hd8⟩, hE, hc1, hc3, hc5, hc7, hc9, h5, h6, h712, h713, h714, h819, hT⟩
      exact HKs.out w' hE
    case hend =>
      rintro ds a w' ⟨v54, v56, v58, v60, v62, v63, v52, v64, v65, v66, v12, v13, v14, C0, n0, C1, n1, lo, hi, D, E, rfl, ⟨hd0, hd2, hd4, hd6, hd8⟩, hE, hc1, hc3, hc5, hc7, hc9, h5, h6, h712, h713, h714, h819, hT⟩ hall
      have hcall := hall 10 (by decide)
      obtain ⟨rfl, hD1, hD, -⟩ := hT.box0 (hall 15 (by decide))
      obtain ⟨rfl, hE1, hH, -⟩ := hT.box1 (hall 16 (by decide))
      have hR := (hT.res hcall).1
      rw [hall 17 (by decide)] at hD
      rw [hall 18 (by decide)] at hH
      obtain rfl := h819 (hall 19 (by decide))
      have HEE := Lib.hid hE
      have H0 := Lib.hid hD
      have H1 := Lib.hid hH
      have HR := Lib.hid hR
      clear hall hT hR hD hH hE hc1 hc3 hc5 hc7 hc9 h5 h6 h712 h713 h714 h819
      go_simp
      go_wp2_with fail
      go_meet
      exact ⟨D, C0, n0, E, C1, n1, rfl, rfl, rfl, HEE.out, H0.out, H1.out, HR.out.1.ints, HR.out.2.ints⟩
    case hstep =>
      rintro ds a w' ⟨v54, v56, v58, v60, v62, v63, v52, v64, v65, v66, v12, v13, v14, C0, n0, C1, n1, lo, hi, D, E, rfl, ⟨hd0, hd2, hd4, hd6, hd8⟩, hE, hc1, hc3, hc5, hc7, hc9, h5, h6, h712, h713, h714, h819, hT⟩ j oj hoj hu hall
      have hjn : j < 20 := (Array.getElem?_eq_some_iff.1 hoj).1
      rcases (by omega : j = 0 ∨ j = 2 ∨ j = 4 ∨ j = 6 ∨ j = 8 ∨ j = 1 ∨ j = 3 ∨ j = 5 ∨ j = 7 ∨ j = 9 ∨ j = 10 ∨ j = 11 ∨ j = 12 ∨ j = 13 ∨ j = 14 ∨ j = 15 ∨ j = 16 ∨ j = 17 ∨ j = 18 ∨ j = 19) with rfl | rfl | rfl | rfl | rfl | rfl | rfl | rfl | rfl | rfl | rfl | rfl | rfl | rfl | rfl | rfl | rfl | rfl | rfl | rfl
      · rw [hd0] at hu; cases hu
      · rw [hd2] at hu; cases hu
      · rw [hd4] at hu; cases hu
      · rw [hd6] at hu; cases hu
      · rw [hd8] at hu; cases hu
      · obtain rfl := Option.some.inj hoj
        clear hall
        refine wpOp_step rfl fun K' hK' => ?_
        have hK := Lib.hid hK'
        clear hK'
        rw [if_pos (by rfl)]
        try simp only [Act.put]
        go_simp
        refine (toGroup_ex A0 t0 c0 _ (HR0.out.ex (EA.out.trans hE)) HX0.out).mono ?_
        rintro e w2 ⟨D', k', rfl, hv, hd⟩
        refine hK.out _ _ ⟨_, v56, v58, v60, v62, v63, v52, v64, v65, v66, v12, v13, v14, C0, n0, C1, n1, lo, hi, D, E, by go_simp, ⟨bt_keep hd0, bt_keep hd2, bt_keep hd4, bt_keep hd6, bt_keep hd8⟩, hE.trans hv, fun _ _ => ⟨D', k', rfl, hd.rws⟩, fun hb hn => let ⟨D', k', e, h⟩ := hc3 (bt_old hb (by decide : (3 : Nat) ≠ 1)) (bt_no hn); ⟨D', k', e, h.ex hv⟩, fun hb hn => let ⟨D', k', e, h⟩ := hc5 (bt_old hb (by decide : (5 : Nat) ≠ 1)) (bt_no hn); ⟨D', k', e, h.ex hv⟩, fun hb hn => let ⟨D', k', e, h⟩ := hc7 (bt_old hb (by decide : (7 : Nat) ≠ 1)) (bt_no hn); ⟨D', k', e, h.ex hv⟩, fun hb hn => let ⟨D', k', e, h⟩ := hc9 (bt_old hb (by decide : (9 : Nat) ≠ 1)) (bt_no hn); ⟨D', k', e, h.ex hv⟩, fun hb => h5 (bt_old hb (by decide : (10 : Nat) ≠ 1)), fun hb => ⟨bt_keep (h6 (bt_old hb (by decide : (11 : Nat) ≠ 1))).1, (h6 (bt_old hb (by decide : (11 : Nat) ≠ 1))).2⟩, fun hb => ⟨bt_keep (h712 (bt_old hb (by decide : (12 : Nat) ≠ 1))).1, (h712 (bt_old hb (by decide : (12 : Nat) ≠ 1))).2⟩, fun hb => ⟨bt_keep (h713 (bt_old hb (by decide : (13 : Nat) ≠ 1))).1, (h713 (bt_old hb (by decide : (13 : Nat) ≠ 1))).2⟩, fun hb => ⟨bt_keep (h714 (bt_old hb (by decide : (14 : Nat) ≠ 1))).1, (h714 (bt_old hb (by decide : (14 : Nat) ≠ 1))).2⟩, fun hb => h819 (bt_old hb (by decide : (19 : Nat) ≠ 1)), ?_⟩
        rw [bt_ne (d := ds) (j := 1) (i := 10) (by decide), bt_ne (d := ds) (j := 1) (i := 15) (by decide), bt_ne (d := ds) (j := 1) (i := 16) (by decide), bt_ne (d := ds) (j := 1) (i := 17) (by decide), bt_ne (d := ds) (j := 1) (i := 18) (by decide)]
        exact hT.ex ((Kept.ownL _ _).and (Kept.ownL _ _)) hv
      · obtain rfl := Option.some.inj hoj
        clear hall
        refine wpOp_step rfl fun K' hK' => ?_
        have hK := Lib.hid hK'
        clear hK'
        rw [if_pos (by rfl)]
        try simp only [Act.put]
        go_simp
        refine (toGroup_ex A1 t1 c1 _ (HR1.out.ex (EA.out.trans hE)) HX1.out).mono ?_
        rintro e w2 ⟨D', k', rfl, hv, hd⟩
        refine hK.out _ _ ⟨v54, _, v58, v60, v62, v63, v52, v64, v65, v66, v12, v13, v14, C0, n0, C1, n1, lo, hi, D, E, by go_simp, ⟨bt_keep hd0, bt_keep hd2, bt_keep hd4, bt_keep hd6, bt_keep hd8⟩, hE.trans hv, fun hb hn => let ⟨D', k', e, h⟩ := hc1 (bt_old hb (by decide : (1 : Nat) ≠ 3)) (bt_no hn); ⟨D', k', e, h.ex hv⟩, fun _ _ => ⟨D', k', rfl, hd.rws⟩, fun hb hn => let ⟨D', k', e, h⟩ := hc5 (bt_old hb (by decide : (5 : Nat) ≠ 3)) (bt_no hn); ⟨D', k', e, h.ex hv⟩, fun hb hn => let ⟨D', k', e, h⟩ := hc7 (bt_old hb (by decide : (7 : Nat) ≠ 3)) (bt_no hn); ⟨D', k', e, h.ex hv⟩, fun hb hn => let ⟨D', k', e, h⟩ := hc9 (bt_old hb (by decide : (9 : Nat) ≠ 3)) (bt_no hn); ⟨D', k', e, h.ex hv⟩, fun hb => h5 (bt_old hb (by decide : (10 : Nat) ≠ 3)), fun hb => ⟨bt_keep (h6 (bt_old hb (by decide : (11 : Nat) ≠ 3))).1, (h6 (bt_old hb (by decide : (11 : Nat) ≠ 3))).2⟩, fun hb => ⟨bt_keep (h712 (bt_old hb (by decide : (12 : Nat) ≠ 3))).1, (h712 (bt_old hb (by decide : (12 : Nat) ≠ 3))).2⟩, fun hb => ⟨bt_keep (h713 (bt_old hb (by decide : (13 : Nat) ≠ 3))).1, (h713 (bt_old hb (by decide : (13 : Nat) ≠ 3))).2⟩, fun hb => ⟨bt_keep (h714 (bt_old hb (by decide : (14 : Nat) ≠ 3))).1, (h714 (bt_old hb (by decide : (14 : Nat) ≠ 3))).2⟩, fun hb => h819 (bt_old hb (by decide : (19 : Nat) ≠ 3)), ?_⟩
        rw [bt_ne (d := ds) (j := 3) (i := 10) (by decide), bt_ne (d := ds) (j := 3) (i := 15) (by decide), bt_ne (d := ds) (j := 3) (i := 16) (by decide), bt_ne (d := ds) (j := 3) (i := 17) (by decide), bt_ne (d := ds) (j := 3) (i := 18) (by decide)]
        exact hT.ex ((Kept.ownL _ _).and (Kept.ownL _ _)) hv
      · obtain rfl := Option.some.inj hoj
        clear hall
        refine wpOp_step rfl fun K' hK' => ?_
        have hK := Lib.hid hK'
        clear hK'
        rw [if_pos (by rfl)]
        try simp only [Act.put]
        go_simp
        refine (toModule_ex A2 m2 t2 c2 _ (HR2.out.ex (EA.out.trans hE)) HX2.out).mono ?_
        rintro e w2 ⟨D', k', rfl, hv, hd⟩
        refine hK.out _ _ ⟨v54, v56, _, v60, v62, v63, v52, v64, v65, v66, v12, v13, v14, C0, n0, C1, n1, lo, hi, D, E, by go_simp, ⟨bt_keep hd0, bt_keep hd2, bt_keep hd4, bt_keep hd6, bt_keep hd8⟩, hE.trans hv, fun hb hn => let ⟨D', k', e, h⟩ := hc1 (bt_old hb (by decide : (1 : Nat) ≠ 5)) (bt_no hn); ⟨D', k', e, h.ex hv⟩, fun hb hn => let ⟨D', k', e, h⟩ := hc3 (bt_old hb (by decide : (3 : Nat) ≠ 5)) (bt_no hn); ⟨D', k', e, h.ex hv⟩, fun _ _ => ⟨D', k', rfl, hd.ints⟩, fun hb hn => let ⟨D', k', e, h⟩ := hc7 (bt_old hb (by decide : (7 : Nat) ≠ 5)) (bt_no hn); ⟨D', k', e, h.ex hv⟩, fun hb hn => let ⟨D', k', e, h⟩ := hc9 (bt_old hb (by decide : (9 : Nat) ≠ 5)) (bt_no hn); ⟨D', k', e, h.ex hv⟩, fun hb => h5 (bt_old hb (by decide : (10 : Nat) ≠ 5)), fun hb => ⟨bt_keep (h6 (bt_old hb (by decide : (11 : Nat) ≠ 5))).1, (h6 (bt_old hb (by decide : (11 : Nat) ≠ 5))).2⟩, fun hb => ⟨bt_keep (h712 (bt_old hb (by decide : (12 : Nat) ≠ 5))).1, (h712 (bt_old hb (by decide : (12 : Nat) ≠ 5))).2⟩, fun hb => ⟨bt_keep (h713 (bt_old hb (by decide : (13 : Nat) ≠ 5))).1, (h713 (bt_old hb (by decide : (13 : Nat) ≠ 5))).2⟩, fun hb => ⟨bt_keep (h714 (bt_old hb (by decide : (14 : Nat) ≠ 5))).1, (h714 (bt_old hb (by decide : (14 : Nat) ≠ 5))).2⟩, fun hb => h819 (bt_old hb (by decide : (19 : Nat) ≠ 5)), ?_⟩
        rw [bt_ne (d := ds) (j := 5) (i := 10) (by decide), bt_ne (d := ds) (j := 5) (i := 15) (by decide), bt_ne (d := ds) (j := 5) (i := 16) (by decide), bt_ne (d := ds) (j := 5) (i := 17) (by decide), bt_ne (d := ds) (j := 5) (i := 18) (by decide)]
        exact hT.ex ((Kept.ownL _ _).and (Kept.ownL _ _)) hv
      · obtain rfl := Option.some.inj hoj
        clear hall
        refine wpOp_step rfl fun K' hK' => ?_
        have hK := Lib.hid hK'
        clear hK'
        rw [if_pos (by rfl)]
        try simp only [Act.put]
        go_simp
        refine (toInt64S_ex A3 t3 c3 _ (HR3.out.ex (EA.out.trans hE)) HX3.out).mono ?_
        rintro e w2 ⟨D', k', rfl, hv, hd⟩
        refine hK.out _ _ ⟨v54, v56, v58, _, v62, v63, v52, v64, v65, v66, v12, v13, v14, C0, n0, C1, n1, lo, hi, D, E, by go_simp, ⟨bt_keep hd0, bt_keep hd2, bt_keep hd4, bt_keep hd6, bt_keep hd8⟩, hE.trans hv, fun hb hn => let ⟨D', k', e, h⟩ := hc1 (bt_old hb (by decide : (1 : Nat) ≠ 7)) (bt_no hn); ⟨D', k', e, h.ex hv⟩, fun hb hn => let ⟨D', k', e, h⟩ := hc3 (bt_old hb (by decide : (3 : Nat) ≠ 7)) (bt_no hn); ⟨D', k', e, h.ex hv⟩, fun hb hn => let ⟨D', k', e, h⟩ := hc5 (bt_old hb (by decide : (5 : Nat) ≠ 7)) (bt_no hn); ⟨D', k', e, h.ex hv⟩, fun _ _ => ⟨D', k', rfl, hd.ints⟩, fun hb hn => let ⟨D', k', e, h⟩ := hc9 (bt_old hb (by decide : (9 : Nat) ≠ 7)) (bt_no hn); ⟨D', k', e, h.ex hv⟩, fun hb => h5 (bt_old hb (by decide : (10 : Nat) ≠ 7)), fun hb => ⟨bt_keep (h6 (bt_old hb (by decide : (11 : Nat) ≠ 7))).1, (h6 (bt_old hb (by decide : (11 : Nat) ≠ 7))).2⟩, fun hb => ⟨bt_keep (h712 (bt_old hb (by decide : (12 : Nat) ≠ 7))).1, (h712 (bt_old hb (by decide : (12 : Nat) ≠ 7))).2⟩, fun hb => ⟨bt_keep (h713 (bt_old hb (by decide : (13 : Nat) ≠ 7))).1, (h713 (bt_old hb (by decide : (13 : Nat) ≠ 7))).2⟩, fun hb => ⟨bt_keep (h714 (bt_old hb (by decide : (14 : Nat) ≠ 7))).1, (h714 (bt_old hb (by decide : (14 : Nat) ≠ 7))).2⟩, fun hb => h819 (bt_old hb (by decide : (19 : Nat) ≠ 7)), ?_⟩
        rw [bt_ne (d := ds) (j := 7) (i := 10) (by decide), bt_ne (d := ds) (j := 7) (i := 15) (by decide), bt_ne (d := ds) (j := 7) (i := 16) (by decide), bt_ne (d := ds) (j := 7) (i := 17) (by decide), bt_ne (d := ds) (j := 7) (i := 18) (by decide)]
        exact hT.ex ((Kept.ownL _ _).and (Kept.ownL _ _)) hv
      · obtain rfl := Option.some.inj hoj
        clear hall
        refine wpOp_step rfl fun K' hK' => ?_
        have hK := Lib.hid hK'
        clear hK'
        rw [if_pos (by rfl)]
        try simp only [Act.put]
        go_simp
        refine (toCochain_ex A4 m4 t4 c4 _ (HR4.out.ex (EA.out.trans hE)) HX4.out).mono ?_
        rintro e w2 ⟨D', k', rfl, hv, hd⟩
        refine hK.out _ _ ⟨v54, v56, v58, v60, _, v63, v52, v64, v65, v66, v12, v13, v14, C0, n0, C1, n1, lo, hi, D, E, by go_simp, ⟨bt_keep hd0, bt_keep hd2, bt_keep hd4, bt_keep hd6, bt_keep hd8⟩, hE.trans hv, fun hb hn => let ⟨D', k', e, h⟩ := hc1 (bt_old hb (by decide : (1 : Nat) ≠ 9)) (bt_no hn); ⟨D', k', e, h.ex hv⟩, fun hb hn => let ⟨D', k', e, h⟩ := hc3 (bt_old hb (by decide : (3 : Nat) ≠ 9)) (bt_no hn); ⟨D', k', e, h.ex hv⟩, fun hb hn => let ⟨D', k', e, h⟩ := hc5 (bt_old hb (by decide : (5 : Nat) ≠ 9)) (bt_no hn); ⟨D', k', e, h.ex hv⟩, fun hb hn => let ⟨D', k', e, h⟩ := hc7 (bt_old hb (by decide : (7 : Nat) ≠ 9)) (bt_no hn); ⟨D', k', e, h.ex hv⟩, fun _ _ => ⟨D', k', rfl, hd.ints⟩, fun hb => h5 (bt_old hb (by decide : (10 : Nat) ≠ 9)), fun hb => ⟨bt_keep (h6 (bt_old hb (by decide : (11 : Nat) ≠ 9))).1, (h6 (bt_old hb (by decide : (11 : Nat) ≠ 9))).2⟩, fun hb => ⟨bt_keep (h712 (bt_old hb (by decide : (12 : Nat) ≠ 9))).1, (h712 (bt_old hb (by decide : (12 : Nat) ≠ 9))).2⟩, fun hb => ⟨bt_keep (h713 (bt_old hb (by decide : (13 : Nat) ≠ 9))).1, (h713 (bt_old hb (by decide : (13 : Nat) ≠ 9))).2⟩, fun hb => ⟨bt_keep (h714 (bt_old hb (by decide : (14 : Nat) ≠ 9))).1, (h714 (bt_old hb (by decide : (14 : Nat) ≠ 9))).2⟩, fun hb => h819 (bt_old hb (by decide : (19 : Nat) ≠ 9)), ?_⟩
        rw [bt_ne (d := ds) (j := 9) (i := 10) (by decide), bt_ne (d := ds) (j := 9) (i := 15) (by decide), bt_ne (d := ds) (j := 9) (i := 16) (by decide), bt_ne (d := ds) (j := 9) (i := 17) (by decide), bt_ne (d := ds) (j := 9) (i := 18) (by decide)]
        exact hT.ex ((Kept.ownL _ _).and (Kept.ownL _ _)) hv
      · obtain rfl := Option.some.inj hoj
        obtain ⟨D1, k1, rfl, hr1⟩ := hc1 (hall ⟨1, .data⟩ (by simp) rfl) hu
        obtain ⟨D3, k3, rfl, hr3⟩ := hc3 (hall ⟨3, .data⟩ (by simp) rfl) hu
        obtain ⟨D5, k5, rfl, hr5⟩ := hc5 (hall ⟨5, .data⟩ (by simp) rfl) hu
        obtain ⟨D7, k7, rfl, hr7⟩ := hc7 (hall ⟨7, .data⟩ (by simp) rfl) hu
        obtain ⟨D9, k9, rfl, hr9⟩ := hc9 (hall ⟨9, .data⟩ (by simp) rfl) hu
        clear hall
        refine wpOp_step rfl fun K' hK' => ?_
        have hK := Lib.hid hK'
        clear hK'
        rw [if_pos (by rfl)]
        try simp only [Act.put]
        go_simp
        refine (HS.out D1 k1 D3 k3 D5 k5 D7 k7 D9 k9 _ (hr1) (hr3) (hr5) (hr7) (hr9) HX0.out HX1.out HX2.out HX3.out HX4.out).mono ?_
        rintro e w2 ⟨C'0, n'0, C'1, n'1, rfl, hv, ho0, ho1⟩
        refine hK.out _ _ ⟨.agg #[.slice D1 t0.length k1], .agg #[.slice D3 t1.length k3], .agg #[.int .i64 m2, .slice D5 t2.length k5], .slice D7 t3.length k7, .agg #[.int .i64 m4, .slice D9 t4.length k9], _, v52, v64, v65, v66, v12, v13, v14, C'0, n'0, C'1, n'1, w'.heap.size, w2.heap.size, D, E, by go_simp, ⟨bt_keep hd0, bt_keep hd2, bt_keep hd4, bt_keep hd6, bt_keep hd8⟩, hE.trans hv, fun _ hn => absurd hn (by rw [bt_self]; decide), fun _ hn => absurd hn (by rw [bt_self]; decide), fun _ hn => absurd hn (by rw [bt_self]; decide), fun _ hn => absurd hn (by rw [bt_self]; decide), fun _ hn => absurd hn (by rw [bt_self]; decide), fun _ => rfl, fun hb => absurd (h6 (bt_old hb (by decide : (11 : Nat) ≠ 10))).1 (by rw [hu]; decide), fun hb => absurd (h712 (bt_old hb (by decide : (12 : Nat) ≠ 10))).1 (by rw [hu]; decide), fun hb => absurd (h713 (bt_old hb (by decide : (13 : Nat) ≠ 10))).1 (by rw [hu]; decide), fun hb => absurd (h714 (bt_old hb (by decide : (14 : Nat) ≠ 10))).1 (by rw [hu]; decide), fun hb => h819 (bt_old hb (by decide : (19 : Nat) ≠ 10)), ?_⟩
        rw [bt_self (d := ds) (j := 10), bt_ne (d := ds) (j := 10) (i := 15) (by decide), bt_ne (d := ds) (j := 10) (i := 16) (by decide), bt_ne (d := ds) (j := 10) (i := 17) (by decide), bt_ne (d := ds) (j := 10) (i := 18) (by decide)]
        rw [hu] at hT; exact hT.call hv ⟨ho0, ho1⟩
      · obtain rfl := Option.some.inj hoj
        have hcall := (hall ⟨10, .data⟩ (by simp) rfl)
        obtain rfl := h5 hcall
        clear hall
        refine wpOp_step rfl fun K' hK' => ?_
        have hK := Lib.hid hK'
        clear hK'
        rw [if_pos (by rfl)]
        try simp only [Act.put]
        go_simp
        refine hK.out _ _ ⟨v54, v56, v58, v60, v62, (.tuple #[.agg #[.int .i64 q0, .slice C0 y0.length n0], .agg #[.int .i64 q1, .slice C1 y1.length n1], .int .i64 q2] : Value), (.tuple #[.agg #[.int .i64 q0, .slice C0 y0.length n0], .agg #[.int .i64 q1, .slice C1 y1.length n1], .int .i64 q2] : Value), v64, v65, v66, v12, v13, v14, C0, n0, C1, n1, lo, hi, D, E, by go_simp, ⟨bt_keep hd0, bt_keep hd2, bt_keep hd4, bt_keep hd6, bt_keep hd8⟩, hE, fun hb hn => hc1 (bt_old hb (by decide : (1 : Nat) ≠ 11)) (bt_no hn), fun hb hn => hc3 (bt_old hb (by decide : (3 : Nat) ≠ 11)) (bt_no hn), fun hb hn => hc5 (bt_old hb (by decide : (5 : Nat) ≠ 11)) (bt_no hn), fun hb hn => hc7 (bt_old hb (by decide : (7 : Nat) ≠ 11)) (bt_no hn), fun hb hn => hc9 (bt_old hb (by decide : (9 : Nat) ≠ 11)) (bt_no hn), fun _ => rfl, fun _ => ⟨bt_keep hcall, rfl⟩, fun hb => ⟨bt_keep (h712 (bt_old hb (by decide : (12 : Nat) ≠ 11))).1, (h712 (bt_old hb (by decide : (12 : Nat) ≠ 11))).2⟩, fun hb => ⟨bt_keep (h713 (bt_old hb (by decide : (13 : Nat) ≠ 11))).1, (h713 (bt_old hb (by decide : (13 : Nat) ≠ 11))).2⟩, fun hb => ⟨bt_keep (h714 (bt_old hb (by decide : (14 : Nat) ≠ 11))).1, (h714 (bt_old hb (by decide : (14 : Nat) ≠ 11))).2⟩, fun hb => h819 (bt_old hb (by decide : (19 : Nat) ≠ 11)), ?_⟩
        rw [bt_ne (d := ds) (j := 11) (i := 10) (by decide), bt_ne (d := ds) (j := 11) (i := 15) (by decide), bt_ne (d := ds) (j := 11) (i := 16) (by decide), bt_ne (d := ds) (j := 11) (i := 17) (by decide), bt_ne (d := ds) (j := 11) (i := 18) (by decide)]
        exact hT
      · obtain rfl := Option.some.inj hoj
        obtain ⟨hcall, rfl⟩ := h6 (hall ⟨11, .data⟩ (by simp) rfl)
        clear hall
        refine wpOp_step rfl fun K' hK' => ?_
        have hK := Lib.hid hK'
        clear hK'
        rw [if_pos (by rfl)]
        try simp only [Act.put]
        go_simp
        refine hK.out _ _ ⟨v54, v56, v58, v60, v62, v63, (.tuple #[.agg #[.int .i64 q0, .slice C0 y0.length n0], .agg #[.int .i64 q1, .slice C1 y1.length n1], .int .i64 q2] : Value), (.agg #[.int .i64 q0, .slice C0 y0.length n0]), v65, v66, v12, v13, v14, C0, n0, C1, n1, lo, hi, D, E, by go_simp, ⟨bt_keep hd0, bt_keep hd2, bt_keep hd4, bt_keep hd6, bt_keep hd8⟩, hE, fun hb hn => hc1 (bt_old hb (by decide : (1 : Nat) ≠ 12)) (bt_no hn), fun hb hn => hc3 (bt_old hb (by decide : (3 : Nat) ≠ 12)) (bt_no hn), fun hb hn => hc5 (bt_old hb (by decide : (5 : Nat) ≠ 12)) (bt_no hn), fun hb hn => hc7 (bt_old hb (by decide : (7 : Nat) ≠ 12)) (bt_no hn), fun hb hn => hc9 (bt_old hb (by decide : (9 : Nat) ≠ 12)) (bt_no hn), fun hb => h5 (bt_old hb (by decide : (10 : Nat) ≠ 12)), fun _ => ⟨bt_keep hcall, rfl⟩, fun _ => ⟨bt_keep hcall, rfl⟩, fun hb => ⟨bt_keep (h713 (bt_old hb (by decide : (13 : Nat) ≠ 12))).1, (h713 (bt_old hb (by decide : (13 : Nat) ≠ 12))).2⟩, fun hb => ⟨bt_keep (h714 (bt_old hb (by decide : (14 : Nat) ≠ 12))).1, (h714 (bt_old hb (by decide : (14 : Nat) ≠ 12))).2⟩, fun hb => h819 (bt_old hb (by decide : (19 : Nat) ≠ 12)), ?_⟩
        rw [bt_ne (d := ds) (j := 12) (i := 10) (by decide), bt_ne (d := ds) (j := 12) (i := 15) (by decide), bt_ne (d := ds) (j := 12) (i := 16) (by decide), bt_ne (d := ds) (j := 12) (i := 17) (by decide), bt_ne (d := ds) (j := 12) (i := 18) (by decide)]
        exact hT
      · obtain rfl := Option.some.inj hoj
        obtain ⟨hcall, rfl⟩ := h6 (hall ⟨11, .data⟩ (by simp) rfl)
        clear hall
        refine wpOp_step rfl fun K' hK' => ?_
        have hK := Lib.hid hK'
        clear hK'
        rw [if_pos (by rfl)]
        try simp only [Act.put]
        go_simp
        refine hK.out _ _ ⟨v54, v56, v58, v60, v62, v63, (.tuple #[.agg #[.int .i64 q0, .slice C0 y0.length n0], .agg #[.int .i64 q1, .slice C1 y1.length n1], .int .i64 q2] : Value), v64, (.agg #[.int .i64 q1, .slice C1 y1.length n1]), v66, v12, v13, v14, C0, n0, C1, n1, lo, hi, D, E, by go_simp, ⟨bt_keep hd0, bt_keep hd2, bt_keep hd4, bt_keep hd6, bt_keep hd8⟩, hE, fun hb hn => hc1 (bt_old hb (by decide : (1 : Nat) ≠ 13)) (bt_no hn), fun hb hn => hc3 (bt_old hb (by decide : (3 : Nat) ≠ 13)) (bt_no hn), fun hb hn => hc5 (bt_old hb (by decide : (5 : Nat) ≠ 13)) (bt_no hn), fun hb hn => hc7 (bt_old hb (by decide : (7 : Nat) ≠ 13)) (bt_no hn), fun hb hn => hc9 (bt_old hb (by decide : (9 : Nat) ≠ 13)) (bt_no hn), fun hb => h5 (bt_old hb (by decide : (10 : Nat) ≠ 13)), fun _ => ⟨bt_keep hcall, rfl⟩, fun hb => ⟨bt_keep (h712 (bt_old hb (by decide : (12 : Nat) ≠ 13))).1, (h712 (bt_old hb (by decide : (12 : Nat) ≠ 13))).2⟩, fun _ => ⟨bt_keep hcall, rfl⟩, fun hb => ⟨bt_keep (h714 (bt_old hb (by decide : (14 : Nat) ≠ 13))).1, (h714 (bt_old hb (by decide : (14 : Nat) ≠ 13))).2⟩, fun hb => h819 (bt_old hb (by decide : (19 : Nat) ≠ 13)), ?_⟩
        rw [bt_ne (d := ds) (j := 13) (i := 10) (by decide), bt_ne (d := ds) (j := 13) (i := 15) (by decide), bt_ne (d := ds) (j := 13) (i := 16) (by decide), bt_ne (d := ds) (j := 13) (i := 17) (by decide), bt_ne (d := ds) (j := 13) (i := 18) (by decide)]
        exact hT
      · obtain rfl := Option.some.inj hoj
        obtain ⟨hcall, rfl⟩ := h6 (hall ⟨11, .data⟩ (by simp) rfl)
        clear hall
        refine wpOp_step rfl fun K' hK' => ?_
        have hK := Lib.hid hK'
        clear hK'
        rw [if_pos (by rfl)]
        try simp only [Act.put]
        go_simp
        refine hK.out _ _ ⟨v54, v56, v58, v60, v62, v63, (.tuple #[.agg #[.int .i64 q0, .slice C0 y0.length n0], .agg #[.int .i64 q1, .slice C1 y1.length n1], .int .i64 q2] : Value), v64, v65, (.int .i64 q2), v12, v13, v14, C0, n0, C1, n1, lo, hi, D, E, by go_simp, ⟨bt_keep hd0, bt_keep hd2, bt_keep hd4, bt_keep hd6, bt_keep hd8⟩, hE, fun hb hn => hc1 (bt_old hb (by decide : (1 : Nat) ≠ 14)) (bt_no hn), fun hb hn => hc3 (bt_old hb (by decide : (3 : Nat) ≠ 14)) (bt_no hn), fun hb hn => hc5 (bt_old hb (by decide : (5 : Nat) ≠ 14)) (bt_no hn), fun hb hn => hc7 (bt_old hb (by decide : (7 : Nat) ≠ 14)) (bt_no hn), fun hb hn => hc9 (bt_old hb (by decide : (9 : Nat) ≠ 14)) (bt_no hn), fun hb => h5 (bt_old hb (by decide : (10 : Nat) ≠ 14)), fun _ => ⟨bt_keep hcall, rfl⟩, fun hb => ⟨bt_keep (h712 (bt_old hb (by decide : (12 : Nat) ≠ 14))).1, (h712 (bt_old hb (by decide : (12 : Nat) ≠ 14))).2⟩, fun hb => ⟨bt_keep (h713 (bt_old hb (by decide : (13 : Nat) ≠ 14))).1, (h713 (bt_old hb (by decide : (13 : Nat) ≠ 14))).2⟩, fun _ => ⟨bt_keep hcall, rfl⟩, fun hb => h819 (bt_old hb (by decide : (19 : Nat) ≠ 14)), ?_⟩
        rw [bt_ne (d := ds) (j := 14) (i := 10) (by decide), bt_ne (d := ds) (j := 14) (i := 15) (by decide), bt_ne (d := ds) (j := 14) (i := 16) (by decide), bt_ne (d := ds) (j := 14) (i := 17) (by decide), bt_ne (d := ds) (j := 14) (i := 18) (by decide)]
        exact hT
      · obtain rfl := Option.some.inj hoj
        clear hall
        refine wpOp_step rfl fun K' hK' => ?_
        have hK := Lib.hid hK'
        clear hK'
        rw [if_pos (by rfl)]
        try simp only [Act.put]
        go_simp
        refine hK.out _ _ ⟨v54, v56, v58, v60, v62, v63, v52, v64, v65, v66, (.pointer (some ⟨w'.heap.size, 0, none⟩)), v13, v14, C0, n0, C1, n1, lo, hi, w'.heap.size, E, by go_simp, ⟨bt_keep hd0, bt_keep hd2, bt_keep hd4, bt_keep hd6, bt_keep hd8⟩, hE.alloc _, fun hb hn => let ⟨D', k', e, h⟩ := hc1 (bt_old hb (by decide : (1 : Nat) ≠ 15)) (bt_no hn); ⟨D', k', e, h.ex (Ex.new _ _)⟩, fun hb hn => let ⟨D', k', e, h⟩ := hc3 (bt_old hb (by decide : (3 : Nat) ≠ 15)) (bt_no hn); ⟨D', k', e, h.ex (Ex.new _ _)⟩, fun hb hn => let ⟨D', k', e, h⟩ := hc5 (bt_old hb (by decide : (5 : Nat) ≠ 15)) (bt_no hn); ⟨D', k', e, h.ex (Ex.new _ _)⟩, fun hb hn => let ⟨D', k', e, h⟩ := hc7 (bt_old hb (by decide : (7 : Nat) ≠ 15)) (bt_no hn); ⟨D', k', e, h.ex (Ex.new _ _)⟩, fun hb hn => let ⟨D', k', e, h⟩ := hc9 (bt_old hb (by decide : (9 : Nat) ≠ 15)) (bt_no hn); ⟨D', k', e, h.ex (Ex.new _ _)⟩, fun hb => h5 (bt_old hb (by decide : (10 : Nat) ≠ 15)), fun hb => ⟨bt_keep (h6 (bt_old hb (by decide : (11 : Nat) ≠ 15))).1, (h6 (bt_old hb (by decide : (11 : Nat) ≠ 15))).2⟩, fun hb => ⟨bt_keep (h712 (bt_old hb (by decide : (12 : Nat) ≠ 15))).1, (h712 (bt_old hb (by decide : (12 : Nat) ≠ 15))).2⟩, fun hb => ⟨bt_keep (h713 (bt_old hb (by decide : (13 : Nat) ≠ 15))).1, (h713 (bt_old hb (by decide : (13 : Nat) ≠ 15))).2⟩, fun hb => ⟨bt_keep (h714 (bt_old hb (by decide : (14 : Nat) ≠ 15))).1, (h714 (bt_old hb (by decide : (14 : Nat) ≠ 15))).2⟩, fun hb => h819 (bt_old hb (by decide : (19 : Nat) ≠ 15)), ?_⟩
        rw [bt_ne (d := ds) (j := 15) (i := 10) (by decide), bt_self (d := ds) (j := 15), bt_ne (d := ds) (j := 15) (i := 16) (by decide), bt_ne (d := ds) (j := 15) (i := 17) (by decide), bt_ne (d := ds) (j := 15) (i := 18) (by decide)]
        rw [hu] at hT; exact hT.alloc0 ((Kept.ownL _ _).and (Kept.ownL _ _)) hE.size
      · obtain rfl := Option.some.inj hoj
        clear hall
        refine wpOp_step rfl fun K' hK' => ?_
        have hK := Lib.hid hK'
        clear hK'
        rw [if_pos (by rfl)]
        try simp only [Act.put]
        go_simp
        refine hK.out _ _ ⟨v54, v56, v58, v60, v62, v63, v52, v64, v65, v66, v12, (.pointer (some ⟨w'.heap.size, 0, none⟩)), v14, C0, n0, C1, n1, lo, hi, D, w'.heap.size, by go_simp, ⟨bt_keep hd0, bt_keep hd2, bt_keep hd4, bt_keep hd6, bt_keep hd8⟩, hE.alloc _, fun hb hn => let ⟨D', k', e, h⟩ := hc1 (bt_old hb (by decide : (1 : Nat) ≠ 16)) (bt_no hn); ⟨D', k', e, h.ex (Ex.new _ _)⟩, fun hb hn => let ⟨D', k', e, h⟩ := hc3 (bt_old hb (by decide : (3 : Nat) ≠ 16)) (bt_no hn); ⟨D', k', e, h.ex (Ex.new _ _)⟩, fun hb hn => let ⟨D', k', e, h⟩ := hc5 (bt_old hb (by decide : (5 : Nat) ≠ 16)) (bt_no hn); ⟨D', k', e, h.ex (Ex.new _ _)⟩, fun hb hn => let ⟨D', k', e, h⟩ := hc7 (bt_old hb (by decide : (7 : Nat) ≠ 16)) (bt_no hn); ⟨D', k', e, h.ex (Ex.new _ _)⟩, fun hb hn => let ⟨D', k', e, h⟩ := hc9 (bt_old hb (by decide : (9 : Nat) ≠ 16)) (bt_no hn); ⟨D', k', e, h.ex (Ex.new _ _)⟩, fun hb => h5 (bt_old hb (by decide : (10 : Nat) ≠ 16)), fun hb => ⟨bt_keep (h6 (bt_old hb (by decide : (11 : Nat) ≠ 16))).1, (h6 (bt_old hb (by decide : (11 : Nat) ≠ 16))).2⟩, fun hb => ⟨bt_keep (h712 (bt_old hb (by decide : (12 : Nat) ≠ 16))).1, (h712 (bt_old hb (by decide : (12 : Nat) ≠ 16))).2⟩, fun hb => ⟨bt_keep (h713 (bt_old hb (by decide : (13 : Nat) ≠ 16))).1, (h713 (bt_old hb (by decide : (13 : Nat) ≠ 16))).2⟩, fun hb => ⟨bt_keep (h714 (bt_old hb (by decide : (14 : Nat) ≠ 16))).1, (h714 (bt_old hb (by decide : (14 : Nat) ≠ 16))).2⟩, fun hb => h819 (bt_old hb (by decide : (19 : Nat) ≠ 16)), ?_⟩
        rw [bt_ne (d := ds) (j := 16) (i := 10) (by decide), bt_ne (d := ds) (j := 16) (i := 15) (by decide), bt_self (d := ds) (j := 16), bt_ne (d := ds) (j := 16) (i := 17) (by decide), bt_ne (d := ds) (j := 16) (i := 18) (by decide)]
        rw [hu] at hT; exact hT.alloc1 ((Kept.ownL _ _).and (Kept.ownL _ _)) hE.size
      · obtain rfl := Option.some.inj hoj
        obtain ⟨hcall, rfl⟩ := h712 (hall ⟨12, .data⟩ (by simp) rfl)
        have hal := (hall ⟨15, .data⟩ (by simp) rfl)
        obtain ⟨rfl, hDl, hDH, -⟩ := hT.box0 hal
        rw [hu] at hDH
        have hDD : Has w' D 40 #[.int .i64 0, .slice none 0 0] := hDH
        clear hDH
        have k0 := hDD.cell 0
        have f0 := hDD.free 0
        have k1 := hDD.cell 1
        have f1 := hDD.free 1
        clear hall
        refine wpOp_step rfl fun K' hK' => ?_
        have hK := Lib.hid hK'
        clear hK'
        rw [if_pos (by rfl)]
        try simp only [Act.put]
        go_simp
        refine hK.out _ _ ⟨v54, v56, v58, v60, v62, v63, v52, (.agg #[.int .i64 q0, .slice C0 y0.length n0]), v65, v66, (.pointer (some ⟨D, 0, none⟩)), v13, v14, C0, n0, C1, n1, lo, hi, D, E, by go_simp, ⟨bt_keep hd0, bt_keep hd2, bt_keep hd4, bt_keep hd6, bt_keep hd8⟩, ((hE.setCell (p := ⟨D, 0, none⟩) hDl _).setCell (p := ⟨D, 1, none⟩) hDl _), fun _ hn => absurd hn (by rw [bt_keep hcall]; decide), fun _ hn => absurd hn (by rw [bt_keep hcall]; decide), fun _ hn => absurd hn (by rw [bt_keep hcall]; decide), fun _ hn => absurd hn (by rw [bt_keep hcall]; decide), fun _ hn => absurd hn (by rw [bt_keep hcall]; decide), fun hb => h5 (bt_old hb (by decide : (10 : Nat) ≠ 17)), fun hb => ⟨bt_keep (h6 (bt_old hb (by decide : (11 : Nat) ≠ 17))).1, (h6 (bt_old hb (by decide : (11 : Nat) ≠ 17))).2⟩, fun _ => ⟨bt_keep hcall, rfl⟩, fun hb => ⟨bt_keep (h713 (bt_old hb (by decide : (13 : Nat) ≠ 17))).1, (h713 (bt_old hb (by decide : (13 : Nat) ≠ 17))).2⟩, fun hb => ⟨bt_keep (h714 (bt_old hb (by decide : (14 : Nat) ≠ 17))).1, (h714 (bt_old hb (by decide : (14 : Nat) ≠ 17))).2⟩, fun hb => h819 (bt_old hb (by decide : (19 : Nat) ≠ 17)), ?_⟩
        rw [bt_ne (d := ds) (j := 17) (i := 10) (by decide), bt_ne (d := ds) (j := 17) (i := 15) (by decide), bt_ne (d := ds) (j := 17) (i := 16) (by decide), bt_self (d := ds) (j := 17), bt_ne (d := ds) (j := 17) (i := 18) (by decide)]
        rw [hcall, hal] at hT ⊢; exact hT.store0 ((Kept.ownL _ _).and (Kept.ownL _ _)) ((Only.set _ D 0 _).trans (Only.set _ D 1 _) (Nat.le_refl _) (Nat.le_refl _)) hDD.put2
      · obtain rfl := Option.some.inj hoj
        obtain ⟨hcall, rfl⟩ := h713 (hall ⟨13, .data⟩ (by simp) rfl)
        have hal := (hall ⟨16, .data⟩ (by simp) rfl)
        obtain ⟨rfl, hDl, hDH, -⟩ := hT.box1 hal
        rw [hu] at hDH
        have hDD : Has w' E 57 #[.int .i64 0, .slice none 0 0] := hDH
        clear hDH
        have k0 := hDD.cell 0
        have f0 := hDD.free 0
        have k1 := hDD.cell 1
        have f1 := hDD.free 1
        clear hall
        refine wpOp_step rfl fun K' hK' => ?_
        have hK := Lib.hid hK'
        clear hK'
        rw [if_pos (by rfl)]
        try simp only [Act.put]
        go_simp
        refine hK.out _ _ ⟨v54, v56, v58, v60, v62, v63, v52, v64, (.agg #[.int .i64 q1, .slice C1 y1.length n1]), v66, v12, (.pointer (some ⟨E, 0, none⟩)), v14, C0, n0, C1, n1, lo, hi, D, E, by go_simp, ⟨bt_keep hd0, bt_keep hd2, bt_keep hd4, bt_keep hd6, bt_keep hd8⟩, ((hE.setCell (p := ⟨E, 0, none⟩) hDl _).setCell (p := ⟨E, 1, none⟩) hDl _), fun _ hn => absurd hn (by rw [bt_keep hcall]; decide), fun _ hn => absurd hn (by rw [bt_keep hcall]; decide), fun _ hn => absurd hn (by rw [bt_keep hcall]; decide), fun _ hn => absurd hn (by rw [bt_keep hcall]; decide), fun _ hn => absurd hn (by rw [bt_keep hcall]; decide), fun hb => h5 (bt_old hb (by decide : (10 : Nat) ≠ 18)), fun hb => ⟨bt_keep (h6 (bt_old hb (by decide : (11 : Nat) ≠ 18))).1, (h6 (bt_old hb (by decide : (11 : Nat) ≠ 18))).2⟩, fun hb => ⟨bt_keep (h712 (bt_old hb (by decide : (12 : Nat) ≠ 18))).1, (h712 (bt_old hb (by decide : (12 : Nat) ≠ 18))).2⟩, fun _ => ⟨bt_keep hcall, rfl⟩, fun hb => ⟨bt_keep (h714 (bt_old hb (by decide : (14 : Nat) ≠ 18))).1, (h714 (bt_old hb (by decide : (14 : Nat) ≠ 18))).2⟩, fun hb => h819 (bt_old hb (by decide : (19 : Nat) ≠ 18)), ?_⟩
        rw [bt_ne (d := ds) (j := 18) (i := 10) (by decide), bt_ne (d := ds) (j := 18) (i := 15) (by decide), bt_ne (d := ds) (j := 18) (i := 16) (by decide), bt_ne (d := ds) (j := 18) (i := 17) (by decide), bt_self (d := ds) (j := 18)]
        rw [hcall, hal] at hT ⊢; exact hT.store1 ((Kept.ownL _ _).and (Kept.ownL _ _)) ((Only.set _ E 0 _).trans (Only.set _ E 1 _) (Nat.le_refl _) (Nat.le_refl _)) hDD.put2
      · obtain rfl := Option.some.inj hoj
        obtain ⟨hcall, rfl⟩ := h714 (hall ⟨14, .data⟩ (by simp) rfl)
        clear hall
        refine wpOp_step rfl fun K' hK' => ?_
        have hK := Lib.hid hK'
        clear hK'
        rw [if_pos (by rfl)]
        try simp only [Act.put]
        go_simp
        refine hK.out _ _ ⟨v54, v56, v58, v60, v62, v63, v52, v64, v65, (.int .i64 q2), v12, v13, (.int .i64 q2), C0, n0, C1, n1, lo, hi, D, E, by go_simp, ⟨bt_keep hd0, bt_keep hd2, bt_keep hd4, bt_keep hd6, bt_keep hd8⟩, hE, fun hb hn => hc1 (bt_old hb (by decide : (1 : Nat) ≠ 19)) (bt_no hn), fun hb hn => hc3 (bt_old hb (by decide : (3 : Nat) ≠ 19)) (bt_no hn), fun hb hn => hc5 (bt_old hb (by decide : (5 : Nat) ≠ 19)) (bt_no hn), fun hb hn => hc7 (bt_old hb (by decide : (7 : Nat) ≠ 19)) (bt_no hn), fun hb hn => hc9 (bt_old hb (by decide : (9 : Nat) ≠ 19)) (bt_no hn), fun hb => h5 (bt_old hb (by decide : (10 : Nat) ≠ 19)), fun hb => ⟨bt_keep (h6 (bt_old hb (by decide : (11 : Nat) ≠ 19))).1, (h6 (bt_old hb (by decide : (11 : Nat) ≠ 19))).2⟩, fun hb => ⟨bt_keep (h712 (bt_old hb (by decide : (12 : Nat) ≠ 19))).1, (h712 (bt_old hb (by decide : (12 : Nat) ≠ 19))).2⟩, fun hb => ⟨bt_keep (h713 (bt_old hb (by decide : (13 : Nat) ≠ 19))).1, (h713 (bt_old hb (by decide : (13 : Nat) ≠ 19))).2⟩, fun _ => ⟨bt_keep hcall, rfl⟩, fun _ => rfl, ?_⟩
        rw [bt_ne (d := ds) (j := 19) (i := 10) (by decide), bt_ne (d := ds) (j := 19) (i := 15) (by decide), bt_ne (d := ds) (j := 19) (i := 16) (by decide), bt_ne (d := ds) (j := 19) (i := 17) (by decide), bt_ne (d := ds) (j := 19) (i := 18) (by decide)]
        exact hT
  obtain ⟨Us, rfl⟩ : ∃ x : World, x = wc := ⟨_, rfl⟩
  obtain ⟨bbs0, Cs0, ns0, bbs1, Cs1, ns1, rfl, rfl, rfl, hfs, hbxs0, hbxs1, hos0, hos1⟩ := hcut
  have HOs0 := Lib.hid hos0
  clear hos0
  have HOs1 := Lib.hid hos1
  clear hos1
  clear HKs ED
  have HXs0 := Lib.hid hbxs0
  have HXs1 := Lib.hid hbxs1
  clear hbxs0 hbxs1
  have EW := Lib.hid (EW.out.trans hfs)
  have EA := Lib.hid (EA.out.trans hfs)
  clear hfs
  have ES := Lib.hid (Ex.refl Us)
  have cb0 := (HB0.out.ex EA.out).cell 0
  go_wp2_with fail
  have hzw := EW.out.size
  have hzl0 := EA.out.size
  have hzs0 := ES.out.size
  refine (toGroup_ex A0 t0 c0 Us (HR0.out.ex EA.out) HX0.out).mono ?_
  rintro e W5 ⟨D0, k0, rfl, hv, hd⟩
  have hz0 := hv.size
  clear cb0
  have hbx : Has (W5.alloc (.cells #[.slice D0 t0.length k0] 27)) W5.heap.size 27 #[.slice D0 t0.length k0] := Has.new W5 27 #[.slice D0 t0.length k0]
  have hv1 : Ex W5 (W5.alloc (.cells #[.slice D0 t0.length k0] 27)) := Ex.new _ _
  have hv2 : Ex Us (W5.alloc (.cells #[.slice D0 t0.length k0] 27)) := hv.trans hv1
  have cb1 := (HB1.out.ex (EA.out.trans hv2)).cell 0
  have HD0 := Lib.hid (hd.ex hv1)
  have HBX0 := Lib.hid hbx
  have hzb0 := hbx.lt
  clear hd hbx hv1 hv
  go_wp2_with fail
  generalize (W5.alloc (.cells #[.slice D0 t0.length k0] 27)) = W6 at *
  have EW := Lib.hid (EW.out.trans hv2)
  have EA := Lib.hid (EA.out.trans hv2)
  have ES := Lib.hid (ES.out.trans hv2)
  clear hv2
  have EX0 := Lib.hid (Ex.refl W6)
  have hzl1 := EA.out.size
  have hzs1 := ES.out.size
  refine (toGroup_ex A1 t1 c1 W6 (HR1.out.ex EA.out) HX1.out).mono ?_
  rintro e W7 ⟨D1, k1, rfl, hv, hd⟩
  have hz1 := hv.size
  clear cb1
  have hbx : Has (W7.alloc (.cells #[.slice D1 t1.length k1] 27)) W7.heap.size 27 #[.slice D1 t1.length k1] := Has.new W7 27 #[.slice D1 t1.length k1]
  have hv1 : Ex W7 (W7.alloc (.cells #[.slice D1 t1.length k1] 27)) := Ex.new _ _
  have hv2 : Ex W6 (W7.alloc (.cells #[.slice D1 t1.length k1] 27)) := hv.trans hv1
  have cb2 := (HB2.out.ex (EA.out.trans hv2)).cell 0
  have cb2' := (HB2.out.ex (EA.out.trans hv2)).cell 1
  have HD1 := Lib.hid (hd.ex hv1)
  have HBX1 := Lib.hid hbx
  have hzb1 := hbx.lt
  clear hd hbx hv1 hv
  go_wp2_with fail
  generalize (W7.alloc (.cells #[.slice D1 t1.length k1] 27)) = W8 at *
  have EW := Lib.hid (EW.out.trans hv2)
  have EA := Lib.hid (EA.out.trans hv2)
  have ES := Lib.hid (ES.out.trans hv2)
  have EX0 := Lib.hid (EX0.out.trans hv2)
  clear hv2
  have EX1 := Lib.hid (Ex.refl W8)
  have hzl2 := EA.out.size
  have hzs2 := ES.out.size
  refine (toModule_ex A2 m2 t2 c2 W8 (HR2.out.ex EA.out) HX2.out).mono ?_
  rintro e W9 ⟨D2, k2, rfl, hv, hd⟩
  have hz2 := hv.size
  clear cb2 cb2'
  have hbx : Has (W9.alloc (.cells #[.int .i64 m2, .slice D2 t2.length k2] 40)) W9.heap.size 40 #[.int .i64 m2, .slice D2 t2.length k2] := Has.new W9 40 #[.int .i64 m2, .slice D2 t2.length k2]
  have hv1 : Ex W9 (W9.alloc (.cells #[.int .i64 m2, .slice D2 t2.length k2] 40)) := Ex.new _ _
  have hv2 : Ex W8 (W9.alloc (.cells #[.int .i64 m2, .slice D2 t2.length k2] 40)) := hv.trans hv1
  have HD2 := Lib.hid (hd.ex hv1)
  have HBX2 := Lib.hid hbx
  have hzb2 := hbx.lt
  clear hd hbx hv1 hv
  go_wp2_with fail
  generalize (W9.alloc (.cells #[.int .i64 m2, .slice D2 t2.length k2] 40)) = W10 at *
  have EW := Lib.hid (EW.out.trans hv2)
  have EA := Lib.hid (EA.out.trans hv2)
  have ES := Lib.hid (ES.out.trans hv2)
  have EX0 := Lib.hid (EX0.out.trans hv2)
  have EX1 := Lib.hid (EX1.out.trans hv2)
  clear hv2
  have EX2 := Lib.hid (Ex.refl W10)
  have hzl3 := EA.out.size
  have hzs3 := ES.out.size
  refine (toInt64S_ex A3 t3 c3 W10 (HR3.out.ex EA.out) HX3.out).mono ?_
  rintro e W11 ⟨D3, k3, rfl, hv, hd⟩
  have hz3 := hv.size
  have HD3 := Lib.hid hd
  clear hd
  have EW := Lib.hid (EW.out.trans hv)
  have EA := Lib.hid (EA.out.trans hv)
  have ES := Lib.hid (ES.out.trans hv)
  have EX0 := Lib.hid (EX0.out.trans hv)
  have EX1 := Lib.hid (EX1.out.trans hv)
  have EX2 := Lib.hid (EX2.out.trans hv)
  clear hv
  have EX3 := Lib.hid (Ex.refl W11)
  have cb4 := (HB4.out.ex EA.out).cell 0
  have cb4' := (HB4.out.ex EA.out).cell 1
  go_wp2_with fail
  have hzl4 := EA.out.size
  have hzs4 := ES.out.size
  refine (toCochain_ex A4 m4 t4 c4 W11 (HR4.out.ex EA.out) HX4.out).mono ?_
  rintro e W12 ⟨D4, k4, rfl, hv, hd⟩
  have hz4 := hv.size
  clear cb4 cb4'
  have hbx : Has (W12.alloc (.cells #[.int .i64 m4, .slice D4 t4.length k4] 57)) W12.heap.size 57 #[.int .i64 m4, .slice D4 t4.length k4] := Has.new W12 57 #[.int .i64 m4, .slice D4 t4.length k4]
  have hv1 : Ex W12 (W12.alloc (.cells #[.int .i64 m4, .slice D4 t4.length k4] 57)) := Ex.new _ _
  have hv2 : Ex W11 (W12.alloc (.cells #[.int .i64 m4, .slice D4 t4.length k4] 57)) := hv.trans hv1
  have cx0 := (HBX0.out.ex (EX0.out.trans hv2)).cell 0
  have cx1 := (HBX1.out.ex (EX1.out.trans hv2)).cell 0
  have cx2 := (HBX2.out.ex (EX2.out.trans hv2)).cell 0
  have cx2' := (HBX2.out.ex (EX2.out.trans hv2)).cell 1
  have cx4 := hbx.cell 0
  have cx4' := hbx.cell 1
  have HD4 := Lib.hid (hd.ex hv1)
  have HBX4 := Lib.hid hbx
  have hzb4 := hbx.lt
  clear hd hbx hv1 hv
  go_wp2_with fail
  generalize (W12.alloc (.cells #[.int .i64 m4, .slice D4 t4.length k4] 57)) = W13 at *
  have EW := Lib.hid (EW.out.trans hv2)
  have EA := Lib.hid (EA.out.trans hv2)
  have ES := Lib.hid (ES.out.trans hv2)
  have EX0 := Lib.hid (EX0.out.trans hv2)
  have EX1 := Lib.hid (EX1.out.trans hv2)
  have EX2 := Lib.hid (EX2.out.trans hv2)
  have EX3 := Lib.hid (EX3.out.trans hv2)
  clear hv2
  have EX4 := Lib.hid (Ex.refl W13)
  refine (HI.out D0 k0 D1 k1 D2 k2 D3 k3 D4 k4 W13 (HD0.out.rws.ex EX0.out) (HD1.out.rws.ex EX1.out) (HD2.out.ints.ex EX2.out) (HD3.out.ints.ex EX3.out) (HD4.out.ints.ex EX4.out) HX0.out HX1.out HX2.out HX3.out HX4.out).mono ?_
  rintro e Ug ⟨Cg0, ng0, Cg1, ng1, midg, rfl, heg, hm1g, hm2g, hog0, hog1⟩
  have HOg0 := Lib.hid hog0
  clear hog0
  have HOg1 := Lib.hid hog1
  clear hog1
  have hfg : Ex W13 Ug := heg
  have hzg := heg.size
  clear heg cx0 cx1 cx2 cx2' cx4 cx4'
  have hq2 : (q2 != q2) = false := by simp
  have hbxg0 : Has ((Ug.alloc (.cells #[.int .i64 q0, .slice Cg0 y0.length ng0] 40)).alloc (.cells #[.int .i64 q1, .slice Cg1 y1.length ng1] 57)) (Ug.heap.size) 40 #[.int .i64 q0, .slice Cg0 y0.length ng0] := ((Has.newAt (w := Ug) (e := 40) (cs := #[.int .i64 q0, .slice Cg0 y0.length ng0]) (k := Ug.heap.size) (by simp)).alloc _)
  have hbxg1 : Has ((Ug.alloc (.cells #[.int .i64 q0, .slice Cg0 y0.length ng0] 40)).alloc (.cells #[.int .i64 q1, .slice Cg1 y1.length ng1] 57)) (Ug.heap.size + 1) 57 #[.int .i64 q1, .slice Cg1 y1.length ng1] := (Has.newAt (w := (Ug.alloc (.cells #[.int .i64 q0, .slice Cg0 y0.length ng0] 40))) (e := 57) (cs := #[.int .i64 q1, .slice Cg1 y1.length ng1]) (k := Ug.heap.size + 1) (by simp))
  have hfbg : Ex W13 ((Ug.alloc (.cells #[.int .i64 q0, .slice Cg0 y0.length ng0] 40)).alloc (.cells #[.int .i64 q1, .slice Cg1 y1.length ng1] 57)) := ((hfg).alloc _).alloc _
  have hfug : Ex Ug ((Ug.alloc (.cells #[.int .i64 q0, .slice Cg0 y0.length ng0] 40)).alloc (.cells #[.int .i64 q1, .slice Cg1 y1.length ng1] 57)) := ((Ex.refl _).alloc _).alloc _
  have crg0 := hbxg0.cell 0
  have crg0' := hbxg0.cell 1
  have crs0 := (HXs0.out.ex (ES.out.trans hfbg)).cell 0
  have crs0' := (HXs0.out.ex (ES.out.trans hfbg)).cell 1
  have crg1 := hbxg1.cell 0
  have crg1' := hbxg1.cell 1
  have crs1 := (HXs1.out.ex (ES.out.trans hfbg)).cell 0
  have crs1' := (HXs1.out.ex (ES.out.trans hfbg)).cell 1
  go_wp2_with fail
  generalize ((Ug.alloc (.cells #[.int .i64 q0, .slice Cg0 y0.length ng0] 40)).alloc (.cells #[.int .i64 q1, .slice Cg1 y1.length ng1] 57)) = W14 at *
  have HXg0 := Lib.hid hbxg0
  have HXg1 := Lib.hid hbxg1
  clear hbxg0 hbxg1
  have HOg0 := Lib.hid (HOg0.out.ex hfug)
  have HOg1 := Lib.hid (HOg1.out.ex hfug)
  have hzug := hfug.size
  have EW := Lib.hid (EW.out.trans hfbg)
  have EA := Lib.hid (EA.out.trans hfbg)
  have ES := Lib.hid (ES.out.trans hfbg)
  have EX0 := Lib.hid (EX0.out.trans hfbg)
  have EX1 := Lib.hid (EX1.out.trans hfbg)
  have EX2 := Lib.hid (EX2.out.trans hfbg)
  have EX3 := Lib.hid (EX3.out.trans hfbg)
  have EX4 := Lib.hid (EX4.out.trans hfbg)
  clear hfbg hfug hfg
  have EG := Lib.hid (Ex.refl W14)
  clear crg0 crg0' crg1 crg1'
  clear crs0 crs0' crs1 crs1'
  refine (eqModule_ex Cg0 Cs0 q0 y0 ng0 ns0 W14 (HOg0.out.ints.ex EG.out) (HOs0.out.ex ES.out) HY0.out).mono ?_
  rintro e W15 ⟨rfl, he⟩
  have EW := Lib.hid (EW.out.trans he)
  have EA := Lib.hid (EA.out.trans he)
  have ES := Lib.hid (ES.out.trans he)
  have EX0 := Lib.hid (EX0.out.trans he)
  have EX1 := Lib.hid (EX1.out.trans he)
  have EX2 := Lib.hid (EX2.out.trans he)
  have EX3 := Lib.hid (EX3.out.trans he)
  have EX4 := Lib.hid (EX4.out.trans he)
  have EG := Lib.hid (EG.out.trans he)
  clear he
  have crg1 := (HXg1.out.ex EG.out).cell 0
  have crg1' := (HXg1.out.ex EG.out).cell 1
  have crs1 := (HXs1.out.ex ES.out).cell 0
  have crs1' := (HXs1.out.ex ES.out).cell 1
  go_wp2_with fail
  clear crg1 crg1' crs1 crs1'
  refine (eqCochain_ex Cg1 Cs1 q1 y1 ng1 ns1 W15 (HOg1.out.ints.ex EG.out) (HOs1.out.ex ES.out) HY1.out).mono ?_
  rintro e W16 ⟨rfl, he⟩
  have EW := Lib.hid (EW.out.trans he)
  have EA := Lib.hid (EA.out.trans he)
  have ES := Lib.hid (ES.out.trans he)
  have EX0 := Lib.hid (EX0.out.trans he)
  have EX1 := Lib.hid (EX1.out.trans he)
  have EX2 := Lib.hid (EX2.out.trans he)
  have EX3 := Lib.hid (EX3.out.trans he)
  have EX4 := Lib.hid (EX4.out.trans he)
  have EG := Lib.hid (EG.out.trans he)
  clear he
  have HK := Lib.hid (fun (W' : World) (hb : Ex W16.drew W') => (⟨(HB0.out.ex (EA.out.drew.trans hb)).cell 0, (HBX0.out.ex (EX0.out.drew.trans hb)).cell 0⟩ : (fun w' : World => w'.cell? ⟨w.heap.size, 0, none⟩ = some (.slice A0 t0.length c0) ∧ w'.cell? ⟨W5.heap.size, 0, none⟩ = some (.slice D0 t0.length k0)) W'))
  have ED := Lib.hid EA.out.drew
  have EDX := Lib.hid EX0.out.drew
  go_wp2_with fail
  go_region_held3 (fun w' : World => w'.cell? ⟨w.heap.size, 0, none⟩ = some (.slice A0 t0.length c0) ∧ w'.cell? ⟨W5.heap.size, 0, none⟩ = some (.slice D0 t0.length k0))
    (first
      | exact HK.out _ (Ex.refl _)
      | exact HK.out _ hv
      | exact HK.out _ ht)
    (first
      | (go_at_call 17; refine (toGroup_ex A0 t0 c0 W16.drew (HR0.out.ex ED.out) HX0.out).mono ?_; rintro e Va ⟨Da, ka, rfl, hv, hd⟩; have HDa := Lib.hid hd; clear hd)
      | (go_at_call 20; refine (eqGroup_ex D0 Da t0 k0 ka Va (HD0.out.rws.ex (EDX.out.trans hv)) HDa.out.rws HX0.out).mono ?_; rintro e Vb ⟨rfl, he⟩; have ht : Ex W16.drew Vb := hv.trans he))
  have hu : Ex W16 Vb := (Ex.refl W16).drew.trans ht
  clear HK ED EDX hv ht he HDa
  generalize Vb = W17 at *
  have EW := Lib.hid (EW.out.trans hu)
  have EA := Lib.hid (EA.out.trans hu)
  have ES := Lib.hid (ES.out.trans hu)
  have EX0 := Lib.hid (EX0.out.trans hu)
  have EX1 := Lib.hid (EX1.out.trans hu)
  have EX2 := Lib.hid (EX2.out.trans hu)
  have EX3 := Lib.hid (EX3.out.trans hu)
  have EX4 := Lib.hid (EX4.out.trans hu)
  have EG := Lib.hid (EG.out.trans hu)
  clear hu
  have HK := Lib.hid (fun (W' : World) (hb : Ex W17.drew W') => (⟨(HB1.out.ex (EA.out.drew.trans hb)).cell 0, (HBX1.out.ex (EX1.out.drew.trans hb)).cell 0⟩ : (fun w' : World => w'.cell? ⟨w.heap.size + 1, 0, none⟩ = some (.slice A1 t1.length c1) ∧ w'.cell? ⟨W7.heap.size, 0, none⟩ = some (.slice D1 t1.length k1)) W'))
  have ED := Lib.hid EA.out.drew
  have EDX := Lib.hid EX1.out.drew
  go_wp2_with fail
  go_region_held3 (fun w' : World => w'.cell? ⟨w.heap.size + 1, 0, none⟩ = some (.slice A1 t1.length c1) ∧ w'.cell? ⟨W7.heap.size, 0, none⟩ = some (.slice D1 t1.length k1))
    (first
      | exact HK.out _ (Ex.refl _)
      | exact HK.out _ hv
      | exact HK.out _ ht)
    (first
      | (go_at_call 17; refine (toGroup_ex A1 t1 c1 W17.drew (HR1.out.ex ED.out) HX1.out).mono ?_; rintro e Va ⟨Da, ka, rfl, hv, hd⟩; have HDa := Lib.hid hd; clear hd)
      | (go_at_call 20; refine (eqGroup_ex D1 Da t1 k1 ka Va (HD1.out.rws.ex (EDX.out.trans hv)) HDa.out.rws HX1.out).mono ?_; rintro e Vb ⟨rfl, he⟩; have ht : Ex W17.drew Vb := hv.trans he))
  have hu : Ex W17 Vb := (Ex.refl W17).drew.trans ht
  clear HK ED EDX hv ht he HDa
  generalize Vb = W18 at *
  have EW := Lib.hid (EW.out.trans hu)
  have EA := Lib.hid (EA.out.trans hu)
  have ES := Lib.hid (ES.out.trans hu)
  have EX0 := Lib.hid (EX0.out.trans hu)
  have EX1 := Lib.hid (EX1.out.trans hu)
  have EX2 := Lib.hid (EX2.out.trans hu)
  have EX3 := Lib.hid (EX3.out.trans hu)
  have EX4 := Lib.hid (EX4.out.trans hu)
  have EG := Lib.hid (EG.out.trans hu)
  clear hu
  have HK := Lib.hid (fun (W' : World) (hb : Ex W18.drew W') => (⟨(HB2.out.ex (EA.out.drew.trans hb)).cell 0, (HB2.out.ex (EA.out.drew.trans hb)).cell 1, (HBX2.out.ex (EX2.out.drew.trans hb)).cell 0, (HBX2.out.ex (EX2.out.drew.trans hb)).cell 1⟩ : (fun w' : World => w'.cell? ⟨w.heap.size + 1 + 1, 0, none⟩ = some (.int .i64 m2) ∧ w'.cell? ⟨w.heap.size + 1 + 1, 1, none⟩ = some (.slice A2 t2.length c2) ∧ w'.cell? ⟨W9.heap.size, 0, none⟩ = some (.int .i64 m2) ∧ w'.cell? ⟨W9.heap.size, 1, none⟩ = some (.slice D2 t2.length k2)) W'))
  have ED := Lib.hid EA.out.drew
  have EDX := Lib.hid EX2.out.drew
  go_wp2_with fail
  go_region_held3 (fun w' : World => w'.cell? ⟨w.heap.size + 1 + 1, 0, none⟩ = some (.int .i64 m2) ∧ w'.cell? ⟨w.heap.size + 1 + 1, 1, none⟩ = some (.slice A2 t2.length c2) ∧ w'.cell? ⟨W9.heap.size, 0, none⟩ = some (.int .i64 m2) ∧ w'.cell? ⟨W9.heap.size, 1, none⟩ = some (.slice D2 t2.length k2))
    (first
      | exact HK.out _ (Ex.refl _)
      | exact HK.out _ hv
      | exact HK.out _ ht)
    (first
      | (go_at_call 27; refine (toModule_ex A2 m2 t2 c2 W18.drew (HR2.out.ex ED.out) HX2.out).mono ?_; rintro e Va ⟨Da, ka, rfl, hv, hd⟩; have HDa := Lib.hid hd; clear hd)
      | (go_at_call 29; refine (eqModule_ex D2 Da m2 t2 k2 ka Va (HD2.out.ints.ex (EDX.out.trans hv)) HDa.out.ints HX2.out).mono ?_; rintro e Vb ⟨rfl, he⟩; have ht : Ex W18.drew Vb := hv.trans he))
  have hu : Ex W18 Vb := (Ex.refl W18).drew.trans ht
  clear HK ED EDX hv ht he HDa
  generalize Vb = W19 at *
  have EW := Lib.hid (EW.out.trans hu)
  have EA := Lib.hid (EA.out.trans hu)
  have ES := Lib.hid (ES.out.trans hu)
  have EX0 := Lib.hid (EX0.out.trans hu)
  have EX1 := Lib.hid (EX1.out.trans hu)
  have EX2 := Lib.hid (EX2.out.trans hu)
  have EX3 := Lib.hid (EX3.out.trans hu)
  have EX4 := Lib.hid (EX4.out.trans hu)
  have EG := Lib.hid (EG.out.trans hu)
  clear hu
  go_wp2_with fail
  refine (toInt64S_ex A3 t3 c3 W19 (HR3.out.ex EA.out) HX3.out).mono ?_
  rintro e W20 ⟨Da, ka, rfl, hv, hd⟩
  have HDa := Lib.hid hd
  clear hd
  have EW := Lib.hid (EW.out.trans hv)
  have EA := Lib.hid (EA.out.trans hv)
  have ES := Lib.hid (ES.out.trans hv)
  have EX0 := Lib.hid (EX0.out.trans hv)
  have EX1 := Lib.hid (EX1.out.trans hv)
  have EX2 := Lib.hid (EX2.out.trans hv)
  have EX3 := Lib.hid (EX3.out.trans hv)
  have EX4 := Lib.hid (EX4.out.trans hv)
  have EG := Lib.hid (EG.out.trans hv)
  clear hv
  go_wp2_with fail
  refine (eqInt64S_ex D3 Da t3 k3 ka W20 (HD3.out.ints.ex EX3.out) HDa.out.ints HX3.out).mono ?_
  rintro e W21 ⟨rfl, he⟩
  clear HDa
  have EW := Lib.hid (EW.out.trans he)
  have EA := Lib.hid (EA.out.trans he)
  have ES := Lib.hid (ES.out.trans he)
  have EX0 := Lib.hid (EX0.out.trans he)
  have EX1 := Lib.hid (EX1.out.trans he)
  have EX2 := Lib.hid (EX2.out.trans he)
  have EX3 := Lib.hid (EX3.out.trans he)
  have EX4 := Lib.hid (EX4.out.trans he)
  have EG := Lib.hid (EG.out.trans he)
  clear he
  have HK := Lib.hid (fun (W' : World) (hb : Ex W21.drew W') => (⟨(HB4.out.ex (EA.out.drew.trans hb)).cell 0, (HB4.out.ex (EA.out.drew.trans hb)).cell 1, (HBX4.out.ex (EX4.out.drew.trans hb)).cell 0, (HBX4.out.ex (EX4.out.drew.trans hb)).cell 1⟩ : (fun w' : World => w'.cell? ⟨w.heap.size + 1 + 1 + 1, 0, none⟩ = some (.int .i64 m4) ∧ w'.cell? ⟨w.heap.size + 1 + 1 + 1, 1, none⟩ = some (.slice A4 t4.length c4) ∧ w'.cell? ⟨W12.heap.size, 0, none⟩ = some (.int .i64 m4) ∧ w'.cell? ⟨W12.heap.size, 1, none⟩ = some (.slice D4 t4.length k4)) W'))
  have ED := Lib.hid EA.out.drew
  have EDX := Lib.hid EX4.out.drew
  go_wp2_with fail
  go_region_held3 (fun w' : World => w'.cell? ⟨w.heap.size + 1 + 1 + 1, 0, none⟩ = some (.int .i64 m4) ∧ w'.cell? ⟨w.heap.size + 1 + 1 + 1, 1, none⟩ = some (.slice A4 t4.length c4) ∧ w'.cell? ⟨W12.heap.size, 0, none⟩ = some (.int .i64 m4) ∧ w'.cell? ⟨W12.heap.size, 1, none⟩ = some (.slice D4 t4.length k4))
    (first
      | exact HK.out _ (Ex.refl _)
      | exact HK.out _ hv
      | exact HK.out _ ht)
    (first
      | (go_at_call 43; refine (toCochain_ex A4 m4 t4 c4 W21.drew (HR4.out.ex ED.out) HX4.out).mono ?_; rintro e Va ⟨Da, ka, rfl, hv, hd⟩; have HDa := Lib.hid hd; clear hd)
      | (go_at_call 45; refine (eqCochain_ex D4 Da m4 t4 k4 ka Va (HD4.out.ints.ex (EDX.out.trans hv)) HDa.out.ints HX4.out).mono ?_; rintro e Vb ⟨rfl, he⟩; have ht : Ex W21.drew Vb := hv.trans he))
  have hu : Ex W21 Vb := (Ex.refl W21).drew.trans ht
  clear HK ED EDX hv ht he HDa
  generalize Vb = W22 at *
  have EW := Lib.hid (EW.out.trans hu)
  have EA := Lib.hid (EA.out.trans hu)
  have ES := Lib.hid (ES.out.trans hu)
  have EX0 := Lib.hid (EX0.out.trans hu)
  have EX1 := Lib.hid (EX1.out.trans hu)
  have EX2 := Lib.hid (EX2.out.trans hu)
  have EX3 := Lib.hid (EX3.out.trans hu)
  have EX4 := Lib.hid (EX4.out.trans hu)
  have EG := Lib.hid (EG.out.trans hu)
  clear hu
  -- marks in the copies
  have hzsz := ES.out.size
  have cx0 := (HBX0.out.ex EX0.out).cell 0
  have HBX0 := Lib.hid (HBX0.out.ex EX0.out)
  have HD0 := Lib.hid (HD0.out.ex EX0.out)
  have HBX1 := Lib.hid (HBX1.out.ex EX1.out)
  have HD1 := Lib.hid (HD1.out.ex EX1.out)
  have HBX2 := Lib.hid (HBX2.out.ex EX2.out)
  have HD2 := Lib.hid (HD2.out.ex EX2.out)
  have HD3 := Lib.hid (HD3.out.ex EX3.out)
  have HBX4 := Lib.hid (HBX4.out.ex EX4.out)
  have HD4 := Lib.hid (HD4.out.ex EX4.out)
  have HOg0 := Lib.hid (HOg0.out.ex EG.out)
  have HOg1 := Lib.hid (HOg1.out.ex EG.out)
  have HXg0 := Lib.hid (HXg0.out.ex EG.out)
  have HXg1 := Lib.hid (HXg1.out.ex EG.out)
  have hzgc := EG.out.size
  clear EG EX0 EX1 EX2 EX3 EX4
  go_wp2_with fail
  have hcn0 : cntT t0 ≤ 1099511627776 := HX0.out.cnt
  refine (markGroup_ex D0 t0 k0 1 Us.heap.size W5.heap.size W22 HD0.out HX0.out (by omega) (by omega)).mono ?_
  rintro e W23 ⟨rfl, ho, _⟩
  have HBX1 := Lib.hid (HBX1.out.above ho (by omega))
  have HD1 := Lib.hid (HD1.out.above ho (by omega))
  have HBX2 := Lib.hid (HBX2.out.above ho (by omega))
  have HD2 := Lib.hid (HD2.out.above ho (by omega))
  have HD3 := Lib.hid (HD3.out.above ho (by omega))
  have HBX4 := Lib.hid (HBX4.out.above ho (by omega))
  have HD4 := Lib.hid (HD4.out.above ho (by omega))
  have HOg0 := Lib.hid (HOg0.out.above ho (by omega))
  have HOg1 := Lib.hid (HOg1.out.above ho (by omega))
  have HXg0 := Lib.hid (HXg0.out.above ho (by omega))
  have HXg1 := Lib.hid (HXg1.out.above ho (by omega))
  have hzm0 := ho.size
  have EW := Lib.hid (EW.out.only ho (by omega))
  have EA := Lib.hid (EA.out.only ho (by omega))
  have ES := Lib.hid (ES.out.only ho (by omega))
  obtain ⟨kn0, hkn0⟩ : ∃ kn : Nat, 1 + cntT t0 = kn := ⟨_, rfl⟩
  rw [hkn0]
  have hkl0 : kn0 ≤ 1099511627777 := by omega
  clear hkn0 ho cx0
  have cx1 := HBX1.out.cell 0
  go_wp2_with fail
  have hcn1 : cntT t1 ≤ 1099511627776 := HX1.out.cnt
  refine (markGroup_ex D1 t1 k1 kn0 W6.heap.size W7.heap.size W23 HD1.out HX1.out (by omega) (by omega)).mono ?_
  rintro e W24 ⟨rfl, ho, _⟩
  have HBX2 := Lib.hid (HBX2.out.above ho (by omega))
  have HD2 := Lib.hid (HD2.out.above ho (by omega))
  have HD3 := Lib.hid (HD3.out.above ho (by omega))
  have HBX4 := Lib.hid (HBX4.out.above ho (by omega))
  have HD4 := Lib.hid (HD4.out.above ho (by omega))
  have HOg0 := Lib.hid (HOg0.out.above ho (by omega))
  have HOg1 := Lib.hid (HOg1.out.above ho (by omega))
  have HXg0 := Lib.hid (HXg0.out.above ho (by omega))
  have HXg1 := Lib.hid (HXg1.out.above ho (by omega))
  have hzm1 := ho.size
  have EW := Lib.hid (EW.out.only ho (by omega))
  have EA := Lib.hid (EA.out.only ho (by omega))
  have ES := Lib.hid (ES.out.only ho (by omega))
  obtain ⟨kn1, hkn1⟩ : ∃ kn : Nat, kn0 + cntT t1 = kn := ⟨_, rfl⟩
  rw [hkn1]
  have hkl1 : kn1 ≤ 2199023255553 := by omega
  clear hkn1 ho cx1
  have cx2 := HBX2.out.cell 0
  have cx2' := HBX2.out.cell 1
  go_wp2_with fail
  have hcn2 : t2.length ≤ 1099511627776 := (by have := HX2.out; omega)
  refine (markModule_ex D2 m2 t2 k2 kn1 W8.heap.size W9.heap.size W24 HD2.out HX2.out (by omega) (by omega)).mono ?_
  rintro e W25 ⟨rfl, ho, _⟩
  have HD3 := Lib.hid (HD3.out.above ho (by omega))
  have HBX4 := Lib.hid (HBX4.out.above ho (by omega))
  have HD4 := Lib.hid (HD4.out.above ho (by omega))
  have HOg0 := Lib.hid (HOg0.out.above ho (by omega))
  have HOg1 := Lib.hid (HOg1.out.above ho (by omega))
  have HXg0 := Lib.hid (HXg0.out.above ho (by omega))
  have HXg1 := Lib.hid (HXg1.out.above ho (by omega))
  have hzm2 := ho.size
  have EW := Lib.hid (EW.out.only ho (by omega))
  have EA := Lib.hid (EA.out.only ho (by omega))
  have ES := Lib.hid (ES.out.only ho (by omega))
  obtain ⟨kn2, hkn2⟩ : ∃ kn : Nat, kn1 + t2.length = kn := ⟨_, rfl⟩
  rw [hkn2]
  have hkl2 : kn2 ≤ 3298534883329 := by omega
  clear hkn2 ho cx2 cx2'
  go_wp2_with fail
  have hcn3 : t3.length ≤ 1099511627776 := (by have := HX3.out; omega)
  refine (markInt64S_ex D3 t3 k3 kn2 W10.heap.size W11.heap.size W25 HD3.out HX3.out (by omega)).mono ?_
  rintro e W26 ⟨rfl, ho, _⟩
  have HBX4 := Lib.hid (HBX4.out.above ho (by omega))
  have HD4 := Lib.hid (HD4.out.above ho (by omega))
  have HOg0 := Lib.hid (HOg0.out.above ho (by omega))
  have HOg1 := Lib.hid (HOg1.out.above ho (by omega))
  have HXg0 := Lib.hid (HXg0.out.above ho (by omega))
  have HXg1 := Lib.hid (HXg1.out.above ho (by omega))
  have hzm3 := ho.size
  have EW := Lib.hid (EW.out.only ho (by omega))
  have EA := Lib.hid (EA.out.only ho (by omega))
  have ES := Lib.hid (ES.out.only ho (by omega))
  obtain ⟨kn3, hkn3⟩ : ∃ kn : Nat, kn2 + t3.length = kn := ⟨_, rfl⟩
  rw [hkn3]
  have hkl3 : kn3 ≤ 4398046511105 := by omega
  clear hkn3 ho
  have cx4 := HBX4.out.cell 0
  have cx4' := HBX4.out.cell 1
  go_wp2_with fail
  have hcn4 : t4.length ≤ 1099511627776 := (by have := HX4.out; omega)
  refine (markCochain_ex D4 m4 t4 k4 kn3 W11.heap.size W12.heap.size W26 HD4.out HX4.out (by omega) (by omega)).mono ?_
  rintro e W27 ⟨rfl, ho, _⟩
  have HOg0 := Lib.hid (HOg0.out.above ho (by omega))
  have HOg1 := Lib.hid (HOg1.out.above ho (by omega))
  have HXg0 := Lib.hid (HXg0.out.above ho (by omega))
  have HXg1 := Lib.hid (HXg1.out.above ho (by omega))
  have hzm4 := ho.size
  have EW := Lib.hid (EW.out.only ho (by omega))
  have EA := Lib.hid (EA.out.only ho (by omega))
  have ES := Lib.hid (ES.out.only ho (by omega))
  obtain ⟨kn4, hkn4⟩ : ∃ kn : Nat, kn3 + t4.length = kn := ⟨_, rfl⟩
  rw [hkn4]
  have hkl4 : kn4 ≤ 5497558138881 := by omega
  clear hkn4 ho cx4 cx4'
  obtain ⟨kz, hkz⟩ : ∃ kz : Int, (kn4 : Int) = kz := ⟨_, rfl⟩
  have hkd : decide (kz < 0) = false := by simp only [decide_eq_false_iff_not]; omega
  rw [hkz]
  clear hkz
  have EG := Lib.hid (Ex.refl W27)
  -- the results again
  have crg0 := (HXg0.out.ex EG.out).cell 0
  have crg0' := (HXg0.out.ex EG.out).cell 1
  have crs0 := (HXs0.out.ex ES.out).cell 0
  have crs0' := (HXs0.out.ex ES.out).cell 1
  go_wp2_with fail
  clear crg0 crg0' crs0 crs0'
  refine (eqModule_ex Cg0 Cs0 q0 y0 ng0 ns0 W27 (HOg0.out.ints.ex EG.out) (HOs0.out.ex ES.out) HY0.out).mono ?_
  rintro e W28 ⟨rfl, he⟩
  have EW := Lib.hid (EW.out.trans he)
  have EA := Lib.hid (EA.out.trans he)
  have ES := Lib.hid (ES.out.trans he)
  have EG := Lib.hid (EG.out.trans he)
  clear he
  have crg1 := (HXg1.out.ex EG.out).cell 0
  have crg1' := (HXg1.out.ex EG.out).cell 1
  have crs1 := (HXs1.out.ex ES.out).cell 0
  have crs1' := (HXs1.out.ex ES.out).cell 1
  go_wp2_with fail
  clear crg1 crg1' crs1 crs1'
  refine (eqCochain_ex Cg1 Cs1 q1 y1 ng1 ns1 W28 (HOg1.out.ints.ex EG.out) (HOs1.out.ex ES.out) HY1.out).mono ?_
  rintro e W29 ⟨rfl, he⟩
  have EW := Lib.hid (EW.out.trans he)
  have EA := Lib.hid (EA.out.trans he)
  have ES := Lib.hid (ES.out.trans he)
  have EG := Lib.hid (EG.out.trans he)
  clear he
  clear hkd
  -- marks in the result
  have HOg0 := Lib.hid (HOg0.out.ex EG.out)
  have HOg1 := Lib.hid (HOg1.out.ex EG.out)
  have HXg0 := Lib.hid (HXg0.out.ex EG.out)
  have HXg1 := Lib.hid (HXg1.out.ex EG.out)
  clear EG
  have crg0 := HXg0.out.cell 0
  have crg0' := HXg0.out.cell 1
  have crg1 := HXg1.out.cell 0
  have crg1' := HXg1.out.cell 1
  go_wp2_with fail
  clear crg0 crg0' crg1 crg1'
  have hcr0 : y0.length ≤ 1099511627776 := (by have := HY0.out; omega)
  have hgl := HOg0.out.le
  refine (markModule_ex Cg0 q0 y0 ng0 1 W13.heap.size midg W29 HOg0.out HY0.out (by omega) (by omega)).mono ?_
  rintro e W30 ⟨rfl, ho, hmk⟩
  have HM0 := Lib.hid hmk
  clear hmk hgl
  have HOg1 := Lib.hid (HOg1.out.above ho (by omega))
  have HXg0 := Lib.hid (HXg0.out.above ho (by omega))
  have HXg1 := Lib.hid (HXg1.out.above ho (by omega))
  have hzr0 := ho.size
  have EW := Lib.hid (EW.out.only ho (by omega))
  have EA := Lib.hid (EA.out.only ho (by omega))
  have ES := Lib.hid (ES.out.only ho (by omega))
  obtain ⟨mn0, hmn0⟩ : ∃ mn : Nat, 1 + y0.length = mn := ⟨_, rfl⟩
  rw [hmn0]
  have hml0 : mn0 ≤ 1099511627777 := by omega
  have HMN0 := Lib.hid hmn0
  clear hmn0 ho
  have crg1 := HXg1.out.cell 0
  have crg1' := HXg1.out.cell 1
  go_wp2_with fail
  clear crg1 crg1'
  have hcr1 : y1.length ≤ 1099511627776 := (by have := HY1.out; omega)
  have hgl := HOg1.out.le
  refine (markCochain_ex Cg1 q1 y1 ng1 mn0 midg Ug.heap.size W30 HOg1.out HY1.out (by omega) (by omega)).mono ?_
  rintro e W31 ⟨rfl, ho, hmk⟩
  have HM1 := Lib.hid hmk
  clear hmk hgl
  have HM0 := Lib.hid (HM0.out.under ho (by omega))
  have HXg0 := Lib.hid (HXg0.out.above ho (by omega))
  have HXg1 := Lib.hid (HXg1.out.above ho (by omega))
  have hzr1 := ho.size
  have EW := Lib.hid (EW.out.only ho (by omega))
  have EA := Lib.hid (EA.out.only ho (by omega))
  have ES := Lib.hid (ES.out.only ho (by omega))
  obtain ⟨mn1, hmn1⟩ : ∃ mn : Nat, mn0 + y1.length = mn := ⟨_, rfl⟩
  rw [hmn1]
  have hml1 : mn1 ≤ 2199023255553 := by omega
  have HMN1 := Lib.hid hmn1
  clear hmn1 ho
  have EM := Lib.hid (Ex.refl W31)
  obtain ⟨mm, hmm⟩ : ∃ mm : Int, (mn1 : Int) = mm := ⟨_, rfl⟩
  have h122 : (mm != mm) = false := by simp
  have HMM := Lib.hid hmm
  rw [hmm]
  clear hmm
  have hmneg0 : decide ((mn0 : Int) < 0) = false := by have := HMM.out; simp only [decide_eq_false_iff_not]; omega
  have hmneg1 : decide (mm < 0) = false := by have := HMM.out; simp only [decide_eq_false_iff_not]; omega
  have crg0 := (HXg0.out.ex EM.out).cell 0
  have crg0' := (HXg0.out.ex EM.out).cell 1
  go_wp2_with fail
  clear crg0 crg0'
  refine (heldModule_ex Cg0 q0 y0.length ng0 1 W13.heap.size midg W31 (HM0.out.ex EM.out) HY0.out (by omega)).mono ?_
  rintro e W32 ⟨rfl, he⟩
  have EW := Lib.hid (EW.out.trans he)
  have EA := Lib.hid (EA.out.trans he)
  have ES := Lib.hid (ES.out.trans he)
  have EM := Lib.hid (EM.out.trans he)
  clear he
  rw [HMN0.out]
  have crg1 := (HXg1.out.ex EM.out).cell 0
  have crg1' := (HXg1.out.ex EM.out).cell 1
  go_wp2_with fail
  clear crg1 crg1'
  refine (heldCochain_ex Cg1 q1 y1.length ng1 mn0 midg Ug.heap.size W32 (HM1.out.ex EM.out) HY1.out (by omega)).mono ?_
  rintro e W33 ⟨rfl, he⟩
  have EW := Lib.hid (EW.out.trans he)
  have EA := Lib.hid (EA.out.trans he)
  have ES := Lib.hid (ES.out.trans he)
  have EM := Lib.hid (EM.out.trans he)
  clear he
  rw [HMN1.out, HMM.out]
  -- the second call
  have HKh := Lib.hid (fun (W' : World) (hb : Ex W33 W') => (⟨(HB0.out.ex (EA.out.trans hb)).cell 0, (HB1.out.ex (EA.out.trans hb)).cell 0, (HB2.out.ex (EA.out.trans hb)).cell 0, (HB2.out.ex (EA.out.trans hb)).cell 1, (HB4.out.ex (EA.out.trans hb)).cell 0, (HB4.out.ex (EA.out.trans hb)).cell 1⟩ : (fun w' : World => w'.cell? ⟨w.heap.size, 0, none⟩ = some (.slice A0 t0.length c0) ∧ w'.cell? ⟨w.heap.size + 1, 0, none⟩ = some (.slice A1 t1.length c1) ∧ w'.cell? ⟨w.heap.size + 1 + 1, 0, none⟩ = some (.int .i64 m2) ∧ w'.cell? ⟨w.heap.size + 1 + 1, 1, none⟩ = some (.slice A2 t2.length c2) ∧ w'.cell? ⟨w.heap.size + 1 + 1 + 1, 0, none⟩ = some (.int .i64 m4) ∧ w'.cell? ⟨w.heap.size + 1 + 1 + 1, 1, none⟩ = some (.slice A4 t4.length c4)) W'))
  have ED := Lib.hid (EA.out.drew)
  go_upto_region 55 with (fail)
  go_cut [26, 27, 28] (fun s26 s27 s28 wx => ∃ (b0 : Nat) (C0 : Option Addr) (n0 : Nat) (b1 : Nat) (C1 : Option Addr) (n1 : Nat), s26 = .pointer (some ⟨b0, 0, none⟩) ∧ s27 = .pointer (some ⟨b1, 0, none⟩) ∧ s28 = .int .i64 q2 ∧ Ex W33 wx ∧ Has wx b0 40 #[.int .i64 q0, .slice C0 y0.length n0] ∧ Has wx b1 57 #[.int .i64 q1, .slice C1 y1.length n1] ∧ IntsW wx C0 y0 ∧ IntsW wx C1 y1)
  case first =>
    have HMF := HKh.out W33 (Ex.refl W33)
    refine Late.region (C := (fun w' : World => w'.cell? ⟨w.heap.size, 0, none⟩ = some (.slice A0 t0.length c0) ∧ w'.cell? ⟨w.heap.size + 1, 0, none⟩ = some (.slice A1 t1.length c1) ∧ w'.cell? ⟨w.heap.size + 1 + 1, 0, none⟩ = some (.int .i64 m2) ∧ w'.cell? ⟨w.heap.size + 1 + 1, 1, none⟩ = some (.slice A2 t2.length c2) ∧ w'.cell? ⟨w.heap.size + 1 + 1 + 1, 0, none⟩ = some (.int .i64 m4) ∧ w'.cell? ⟨w.heap.size + 1 + 1 + 1, 1, none⟩ = some (.slice A4 t4.length c4))) (fun _ => true) (by kernel_rfl) HMF (fun hC => ?_)
    refine Late.take (i := 0) (oi := _) (v := ?_) rfl (by kernel_rfl) (by kernel_rfl) (by kernel_rfl) (by kernel_rfl) (fun _ _ _ h => h) (Or.inl ⟨by rfl, ?_⟩) hC ?_
    rotate_left
    · (intro w hSw; (try dsimp only at hSw); go_simp; first | done | with_reducible rfl)
    simp only [Act.put]
    refine Late.take (i := 2) (oi := _) (v := ?_) rfl (by kernel_rfl) (by kernel_rfl) (by kernel_rfl) (by kernel_rfl) (fun _ _ _ h => h) (Or.inl ⟨by rfl, ?_⟩) hC ?_
    rotate_left
    · (intro w hSw; (try dsimp only at hSw); go_simp; first | done | with_reducible rfl)
    simp only [Act.put]
    refine Late.take (i := 4) (oi := _) (v := ?_) rfl (by kernel_rfl) (by kernel_rfl) (by kernel_rfl) (by kernel_rfl) (fun _ _ _ h => h) (Or.inl ⟨by rfl, ?_⟩) hC ?_
    rotate_left
    · (intro w hSw; (try dsimp only at hSw); go_simp; first | done | with_reducible rfl)
    simp only [Act.put]
    refine Late.take (i := 6) (oi := _) (v := ?_) rfl (by kernel_rfl) (by kernel_rfl) (by kernel_rfl) (by kernel_rfl) (fun _ _ _ h => h) (Or.inl ⟨by rfl, ?_⟩) hC ?_
    rotate_left
    · (intro w hSw; (try dsimp only at hSw); go_simp; first | done | with_reducible rfl)
    simp only [Act.put]
    refine Late.take (i := 8) (oi := _) (v := ?_) rfl (by kernel_rfl) (by kernel_rfl) (by kernel_rfl) (by kernel_rfl) (fun _ _ _ h => h) (Or.inl ⟨by rfl, ?_⟩) hC ?_
    rotate_left
    · (intro w hSw; (try dsimp only at hSw); go_simp; first | done | with_reducible rfl)
    simp only [Act.put]
    clear hC HMF
    refine late_start (SS := fun (a0 : Act) (ds : Array Bool) (a : Act) (w' : World) => ∃ (v182 v184 v186 v188 v190 v191 v180 v192 v193 v194 v26 v27 v28 : Value) (C0 : Option Addr) (n0 : Nat) (C1 : Option Addr) (n1 : Nat) (lo hi D E : Nat), a = (((((((((((((a0.put (some 182) v182).put (some 184) v184).put (some 186) v186).put (some 188) v188).put (some 190) v190).put (some 191) v191).put (some 180) v180).put (some 192) v192).put (some 193) v193).put (some 194) v194).put (some 26) v26).put (some 27) v27).put (some 28) v28) ∧ (ds.getD 0 true = true ∧ ds.getD 2 true = true ∧ ds.getD 4 true = true ∧ ds.getD 6 true = true ∧ ds.getD 8 true = true) ∧ Ex W33 w' ∧ (ds.getD 1 true = true → ds.getD 10 true = false → ∃ (D : Option Addr) (k : Nat), v182 = .agg #[.slice D t0.length k] ∧ RwsW w' D t0) ∧ (ds.getD 3 true = true → ds.getD 10 true = false → ∃ (D : Option Addr) (k : Nat), v184 = .agg #[.slice D t1.length k] ∧ RwsW w' D t1) ∧ (ds.getD 5 true = true → ds.getD 10 true = false → ∃ (D : Option Addr) (k : Nat), v186 = .agg #[.int .i64 m2, .slice D t2.length k] ∧ IntsW w' D t2) ∧ (ds.getD 7 true = true → ds.getD 10 true = false → ∃ (D : Option Addr) (k : Nat), v188 = .slice D t3.length k ∧ IntsW w' D t3) ∧ (ds.getD 9 true = true → ds.getD 10 true = false → ∃ (D : Option Addr) (k : Nat), v190 = .agg #[.int .i64 m4, .slice D t4.length k] ∧ IntsW w' D t4) ∧ (ds.getD 10 true = true → v191 = (.tuple #[.agg #[.int .i64 q0, .slice C0 y0.length n0], .agg #[.int .i64 q1, .slice C1 y1.length n1], .int .i64 q2] : Value)) ∧ (ds.getD 11 true = true → ds.getD 10 true = true ∧ v180 = (.tuple #[.agg #[.int .i64 q0, .slice C0 y0.length n0], .agg #[.int .i64 q1, .slice C1 y1.length n1], .int .i64 q2] : Value)) ∧ (ds.getD 12 true = true → ds.getD 10 true = true ∧ v192 = .agg #[.int .i64 q0, .slice C0 y0.length n0]) ∧ (ds.getD 13 true = true → ds.getD 10 true = true ∧ v193 = .agg #[.int .i64 q1, .slice C1 y1.length n1]) ∧ (ds.getD 14 true = true → ds.getD 10 true = true ∧ v194 = .int .i64 q2) ∧ (ds.getD 19 true = true → v28 = .int .i64 q2) ∧ TwoR W33.heap.size 40 57 #[.int .i64 0, .slice none 0 0] #[.int .i64 0, .slice none 0 0] #[.int .i64 q0, .slice C0 y0.length n0] #[.int .i64 q1, .slice C1 y1.length n1] (fun W lo hi => OwnL W lo hi C0 y0 ∧ OwnL W lo hi C1 y1) (ds.getD 10 true) (ds.getD 15 true) (ds.getD 16 true) (ds.getD 17 true) (ds.getD 18 true) v26 v27 lo hi D E w') (by kernel_rfl) ?h0 (by rfl) (by decide) ?hC ?hend ?hstep
    case h0 => exact ⟨u182, u184, u186, u188, u190, u191, u180, u192, u193, u194, undef, undef, undef, none, 0, none, 0, 0, 0, 0, 0, by go_simp, ⟨by decide, by decide, by decide, by decide, by decide⟩, (Ex.refl W33).drew, fun hb => absurd hb (by decide), fun hb => absurd hb (by decide), fun hb => absurd hb (by decide), fun hb => absurd hb (by decide), fun hb => absurd hb (by decide), fun hb => absurd hb (by decide), fun hb => absurd hb (by decide), fun hb => absurd hb (by decide), fun hb => absurd hb (by decide), fun hb => absurd hb (by decide), fun hb => absurd hb (by decide), TwoR.start⟩
    case hC =>
      rintro ds a w' ⟨v182, v184, v186, v188, v190, v191, v180, v192, v193, v194, v26, v27, v28, C0, n0, C1, n1, lo, hi, D, E, rfl, ⟨hd0, hd2, hd4, hd6, hd8⟩, hE, hc1, hc3, hc5, hc7, hc9, h5, h6, h712, h713, h714, h819, hT⟩
      exact HKh.out w' hE
    case hend =>
      rintro ds a w' ⟨v182, v184, v186, v188, v190, v191, v180, v192, v193, v194, v26, v27, v28, C0, n0, C1, n1, lo, hi, D, E, rfl, ⟨hd0, hd2, hd4, hd6, hd8⟩, hE, hc1, hc3, hc5, hc7, hc9, h5, h6, h712, h713, h714, h819, hT⟩ hall
      have hcall := hall 10 (by decide)
      obtain ⟨rfl, hD1, hD, -⟩ := hT.box0 (hall 15 (by decide))
      obtain ⟨rfl, hE1, hH, -⟩ := hT.box1 (hall 16 (by decide))
      have hR := (hT.res hcall).1
      rw [hall 17 (by decide)] at hD
      rw [hall 18 (by decide)] at hH
      obtain rfl := h819 (hall 19 (by decide))
      have HEE := Lib.hid hE
      have H0 := Lib.hid hD
      have H1 := Lib.hid hH
      have HR := Lib.hid hR
      clear hall hT hR hD hH hE hc1 hc3 hc5 hc7 hc9 h5 h6 h712 h713 h714 h819
      go_simp
      go_wp2_with fail
      go_meet
      exact ⟨D, C0, n0, E, C1, n1, rfl, rfl, rfl, HEE.out, H0.out, H1.out, HR.out.1.ints, HR.out.2.ints⟩
    case hstep =>
      rintro ds a w' ⟨v182, v184, v186, v188, v190, v191, v180, v192, v193, v194, v26, v27, v28, C0, n0, C1, n1, lo, hi, D, E, rfl, ⟨hd0, hd2, hd4, hd6, hd8⟩, hE, hc1, hc3, hc5, hc7, hc9, h5, h6, h712, h713, h714, h819, hT⟩ j oj hoj hu hall
      have hjn : j < 20 := (Array.getElem?_eq_some_iff.1 hoj).1
      rcases (by omega : j = 0 ∨ j = 2 ∨ j = 4 ∨ j = 6 ∨ j = 8 ∨ j = 1 ∨ j = 3 ∨ j = 5 ∨ j = 7 ∨ j = 9 ∨ j = 10 ∨ j = 11 ∨ j = 12 ∨ j = 13 ∨ j = 14 ∨ j = 15 ∨ j = 16 ∨ j = 17 ∨ j = 18 ∨ j = 19) with rfl | rfl | rfl | rfl | rfl | rfl | rfl | rfl | rfl | rfl | rfl | rfl | rfl | rfl | rfl | rfl | rfl | rfl | rfl | rfl
      · rw [hd0] at hu; cases hu
      · rw [hd2] at hu; cases hu
      · rw [hd4] at hu; cases hu
      · rw [hd6] at hu; cases hu
      · rw [hd8] at hu; cases hu
      · obtain rfl := Option.some.inj hoj
        clear hall
        refine wpOp_step rfl fun K' hK' => ?_
        have hK := Lib.hid hK'
        clear hK'
        rw [if_pos (by rfl)]
        try simp only [Act.put]
        go_simp
        refine (toGroup_ex A0 t0 c0 _ (HR0.out.ex (EA.out.trans hE)) HX0.out).mono ?_
        rintro e w2 ⟨D', k', rfl, hv, hd⟩
        refine hK.out _ _ ⟨_, v184, v186, v188, v190, v191, v180, v192, v193, v194, v26, v27, v28, C0, n0, C1, n1, lo, hi, D, E, by go_simp, ⟨bt_keep hd0, bt_keep hd2, bt_keep hd4, bt_keep hd6, bt_keep hd8⟩, hE.trans hv, fun _ _ => ⟨D', k', rfl, hd.rws⟩, fun hb hn => let ⟨D', k', e, h⟩ := hc3 (bt_old hb (by decide : (3 : Nat) ≠ 1)) (bt_no hn); ⟨D', k', e, h.ex hv⟩, fun hb hn => let ⟨D', k', e, h⟩ := hc5 (bt_old hb (by decide : (5 : Nat) ≠ 1)) (bt_no hn); ⟨D', k', e, h.ex hv⟩, fun hb hn => let ⟨D', k', e, h⟩ := hc7 (bt_old hb (by decide : (7 : Nat) ≠ 1)) (bt_no hn); ⟨D', k', e, h.ex hv⟩, fun hb hn => let ⟨D', k', e, h⟩ := hc9 (bt_old hb (by decide : (9 : Nat) ≠ 1)) (bt_no hn); ⟨D', k', e, h.ex hv⟩, fun hb => h5 (bt_old hb (by decide : (10 : Nat) ≠ 1)), fun hb => ⟨bt_keep (h6 (bt_old hb (by decide : (11 : Nat) ≠ 1))).1, (h6 (bt_old hb (by decide : (11 : Nat) ≠ 1))).2⟩, fun hb => ⟨bt_keep (h712 (bt_old hb (by decide : (12 : Nat) ≠ 1))).1, (h712 (bt_old hb (by decide : (12 : Nat) ≠ 1))).2⟩, fun hb => ⟨bt_keep (h713 (bt_old hb (by decide : (13 : Nat) ≠ 1))).1, (h713 (bt_old hb (by decide : (13 : Nat) ≠ 1))).2⟩, fun hb => ⟨bt_keep (h714 (bt_old hb (by decide : (14 : Nat) ≠ 1))).1, (h714 (bt_old hb (by decide : (14 : Nat) ≠ 1))).2⟩, fun hb => h819 (bt_old hb (by decide : (19 : Nat) ≠ 1)), ?_⟩
        rw [bt_ne (d := ds) (j := 1) (i := 10) (by decide), bt_ne (d := ds) (j := 1) (i := 15) (by decide), bt_ne (d := ds) (j := 1) (i := 16) (by decide), bt_ne (d := ds) (j := 1) (i := 17) (by decide), bt_ne (d := ds) (j := 1) (i := 18) (by decide)]
        exact hT.ex ((Kept.ownL _ _).and (Kept.ownL _ _)) hv
      · obtain rfl := Option.some.inj hoj
        clear hall
        refine wpOp_step rfl fun K' hK' => ?_
        have hK := Lib.hid hK'
        clear hK'
        rw [if_pos (by rfl)]
        try simp only [Act.put]
        go_simp
        refine (toGroup_ex A1 t1 c1 _ (HR1.out.ex (EA.out.trans hE)) HX1.out).mono ?_
        rintro e w2 ⟨D', k', rfl, hv, hd⟩
        refine hK.out _ _ ⟨v182, _, v186, v188, v190, v191, v180, v192, v193, v194, v26, v27, v28, C0, n0, C1, n1, lo, hi, D, E, by go_simp, ⟨bt_keep hd0, bt_keep hd2, bt_keep hd4, bt_keep hd6, bt_keep hd8⟩, hE.trans hv, fun hb hn => let ⟨D', k', e, h⟩ := hc1 (bt_old hb (by decide : (1 : Nat) ≠ 3)) (bt_no hn); ⟨D', k', e, h.ex hv⟩, fun _ _ => ⟨D', k', rfl, hd.rws⟩, fun hb hn => let ⟨D', k', e, h⟩ := hc5 (bt_old hb (by decide : (5 : Nat) ≠ 3)) (bt_no hn); ⟨D', k', e, h.ex hv⟩, fun hb hn => let ⟨D', k', e, h⟩ := hc7 (bt_old hb (by decide : (7 : Nat) ≠ 3)) (bt_no hn); ⟨D', k', e, h.ex hv⟩, fun hb hn => let ⟨D', k', e, h⟩ := hc9 (bt_old hb (by decide : (9 : Nat) ≠ 3)) (bt_no hn); ⟨D', k', e, h.ex hv⟩, fun hb => h5 (bt_old hb (by decide : (10 : Nat) ≠ 3)), fun hb => ⟨bt_keep (h6 (bt_old hb (by decide : (11 : Nat) ≠ 3))).1, (h6 (bt_old hb (by decide : (11 : Nat) ≠ 3))).2⟩, fun hb => ⟨bt_keep (h712 (bt_old hb (by decide : (12 : Nat) ≠ 3))).1, (h712 (bt_old hb (by decide : (12 : Nat) ≠ 3))).2⟩, fun hb => ⟨bt_keep (h713 (bt_old hb (by decide : (13 : Nat) ≠ 3))).1, (h713 (bt_old hb (by decide : (13 : Nat) ≠ 3))).2⟩, fun hb => ⟨bt_keep (h714 (bt_old hb (by decide : (14 : Nat) ≠ 3))).1, (h714 (bt_old hb (by decide : (14 : Nat) ≠ 3))).2⟩, fun hb => h819 (bt_old hb (by decide : (19 : Nat) ≠ 3)), ?_⟩
        rw [bt_ne (d := ds) (j := 3) (i := 10) (by decide), bt_ne (d := ds) (j := 3) (i := 15) (by decide), bt_ne (d := ds) (j := 3) (i := 16) (by decide), bt_ne (d := ds) (j := 3) (i := 17) (by decide), bt_ne (d := ds) (j := 3) (i := 18) (by decide)]
        exact hT.ex ((Kept.ownL _ _).and (Kept.ownL _ _)) hv
      · obtain rfl := Option.some.inj hoj
        clear hall
        refine wpOp_step rfl fun K' hK' => ?_
        have hK := Lib.hid hK'
        clear hK'
        rw [if_pos (by rfl)]
        try simp only [Act.put]
        go_simp
        refine (toModule_ex A2 m2 t2 c2 _ (HR2.out.ex (EA.out.trans hE)) HX2.out).mono ?_
        rintro e w2 ⟨D', k', rfl, hv, hd⟩
        refine hK.out _ _ ⟨v182, v184, _, v188, v190, v191, v180, v192, v193, v194, v26, v27, v28, C0, n0, C1, n1, lo, hi, D, E, by go_simp, ⟨bt_keep hd0, bt_keep hd2, bt_keep hd4, bt_keep hd6, bt_keep hd8⟩, hE.trans hv, fun hb hn => let ⟨D', k', e, h⟩ := hc1 (bt_old hb (by decide : (1 : Nat) ≠ 5)) (bt_no hn); ⟨D', k', e, h.ex hv⟩, fun hb hn => let ⟨D', k', e, h⟩ := hc3 (bt_old hb (by decide : (3 : Nat) ≠ 5)) (bt_no hn); ⟨D', k', e, h.ex hv⟩, fun _ _ => ⟨D', k', rfl, hd.ints⟩, fun hb hn => let ⟨D', k', e, h⟩ := hc7 (bt_old hb (by decide : (7 : Nat) ≠ 5)) (bt_no hn); ⟨D', k', e, h.ex hv⟩, fun hb hn => let ⟨D', k', e, h⟩ := hc9 (bt_old hb (by decide : (9 : Nat) ≠ 5)) (bt_no hn); ⟨D', k', e, h.ex hv⟩, fun hb => h5 (bt_old hb (by decide : (10 : Nat) ≠ 5)), fun hb => ⟨bt_keep (h6 (bt_old hb (by decide : (11 : Nat) ≠ 5))).1, (h6 (bt_old hb (by decide : (11 : Nat) ≠ 5))).2⟩, fun hb => ⟨bt_keep (h712 (bt_old hb (by decide : (12 : Nat) ≠ 5))).1, (h712 (bt_old hb (by decide : (12 : Nat) ≠ 5))).2⟩, fun hb => ⟨bt_keep (h713 (bt_old hb (by decide : (13 : Nat) ≠ 5))).1, (h713 (bt_old hb (by decide : (13 : Nat) ≠ 5))).2⟩, fun hb => ⟨bt_keep (h714 (bt_old hb (by decide : (14 : Nat) ≠ 5))).1, (h714 (bt_old hb (by decide : (14 : Nat) ≠ 5))).2⟩, fun hb => h819 (bt_old hb (by decide : (19 : Nat) ≠ 5)), ?_⟩
        rw [bt_ne (d := ds) (j := 5) (i := 10) (by decide), bt_ne (d := ds) (j := 5) (i := 15) (by decide), bt_ne (d := ds) (j := 5) (i := 16) (by decide), bt_ne (d := ds) (j := 5) (i := 17) (by decide), bt_ne (d := ds) (j := 5) (i := 18) (by decide)]
        exact hT.ex ((Kept.ownL _ _).and (Kept.ownL _ _)) hv
      · obtain rfl := Option.some.inj hoj
        clear hall
        refine wpOp_step rfl fun K' hK' => ?_
        have hK := Lib.hid hK'
        clear hK'
        rw [if_pos (by rfl)]
        try simp only [Act.put]
        go_simp
        refine (toInt64S_ex A3 t3 c3 _ (HR3.out.ex (EA.out.trans hE)) HX3.out).mono ?_
        rintro e w2 ⟨D', k', rfl, hv, hd⟩
        refine hK.out _ _ ⟨v182, v184, v186, _, v190, v191, v180, v192, v193, v194, v26, v27, v28, C0, n0, C1, n1, lo, hi, D, E, by go_simp, ⟨bt_keep hd0, bt_keep hd2, bt_keep hd4, bt_keep hd6, bt_keep hd8⟩, hE.trans hv, fun hb hn => let ⟨D', k', e, h⟩ := hc1 (bt_old hb (by decide : (1 : Nat) ≠ 7)) (bt_no hn); ⟨D', k', e, h.ex hv⟩, fun hb hn => let ⟨D', k', e, h⟩ := hc3 (bt_old hb (by decide : (3 : Nat) ≠ 7)) (bt_no hn); ⟨D', k', e, h.ex hv⟩, fun hb hn => let ⟨D', k', e, h⟩ := hc5 (bt_old hb (by decide : (5 : Nat) ≠ 7)) (bt_no hn); ⟨D', k', e, h.ex hv⟩, fun _ _ => ⟨D', k', rfl, hd.ints⟩, fun hb hn => let ⟨D', k', e, h⟩ := hc9 (bt_old hb (by decide : (9 : Nat) ≠ 7)) (bt_no hn); ⟨D', k', e, h.ex hv⟩, fun hb => h5 (bt_old hb (by decide : (10 : Nat) ≠ 7)), fun hb => ⟨bt_keep (h6 (bt_old hb (by decide : (11 : Nat) ≠ 7))).1, (h6 (bt_old hb (by decide : (11 : Nat) ≠ 7))).2⟩, fun hb => ⟨bt_keep (h712 (bt_old hb (by decide : (12 : Nat) ≠ 7))).1, (h712 (bt_old hb (by decide : (12 : Nat) ≠ 7))).2⟩, fun hb => ⟨bt_keep (h713 (bt_old hb (by decide : (13 : Nat) ≠ 7))).1, (h713 (bt_old hb (by decide : (13 : Nat) ≠ 7))).2⟩, fun hb => ⟨bt_keep (h714 (bt_old hb (by decide : (14 : Nat) ≠ 7))).1, (h714 (bt_old hb (by decide : (14 : Nat) ≠ 7))).2⟩, fun hb => h819 (bt_old hb (by decide : (19 : Nat) ≠ 7)), ?_⟩
        rw [bt_ne (d := ds) (j := 7) (i := 10) (by decide), bt_ne (d := ds) (j := 7) (i := 15) (by decide), bt_ne (d := ds) (j := 7) (i := 16) (by decide), bt_ne (d := ds) (j := 7) (i := 17) (by decide), bt_ne (d := ds) (j := 7) (i := 18) (by decide)]
        exact hT.ex ((Kept.ownL _ _).and (Kept.ownL _ _)) hv
      · obtain rfl := Option.some.inj hoj
        clear hall
        refine wpOp_step rfl fun K' hK' => ?_
        have hK := Lib.hid hK'
        clear hK'
        rw [if_pos (by rfl)]
        try simp only [Act.put]
        go_simp
        refine (toCochain_ex A4 m4 t4 c4 _ (HR4.out.ex (EA.out.trans hE)) HX4.out).mono ?_
        rintro e w2 ⟨D', k', rfl, hv, hd⟩
        refine hK.out _ _ ⟨v182, v184, v186, v188, _, v191, v180, v192, v193, v194, v26, v27, v28, C0, n0, C1, n1, lo, hi, D, E, by go_simp, ⟨bt_keep hd0, bt_keep hd2, bt_keep hd4, bt_keep hd6, bt_keep hd8⟩, hE.trans hv, fun hb hn => let ⟨D', k', e, h⟩ := hc1 (bt_old hb (by decide : (1 : Nat) ≠ 9)) (bt_no hn); ⟨D', k', e, h.ex hv⟩, fun hb hn => let ⟨D', k', e, h⟩ := hc3 (bt_old hb (by decide : (3 : Nat) ≠ 9)) (bt_no hn); ⟨D', k', e, h.ex hv⟩, fun hb hn => let ⟨D', k', e, h⟩ := hc5 (bt_old hb (by decide : (5 : Nat) ≠ 9)) (bt_no hn); ⟨D', k', e, h.ex hv⟩, fun hb hn => let ⟨D', k', e, h⟩ := hc7 (bt_old hb (by decide : (7 : Nat) ≠ 9)) (bt_no hn); ⟨D', k', e, h.ex hv⟩, fun _ _ => ⟨D', k', rfl, hd.ints⟩, fun hb => h5 (bt_old hb (by decide : (10 : Nat) ≠ 9)), fun hb => ⟨bt_keep (h6 (bt_old hb (by decide : (11 : Nat) ≠ 9))).1, (h6 (bt_old hb (by decide : (11 : Nat) ≠ 9))).2⟩, fun hb => ⟨bt_keep (h712 (bt_old hb (by decide : (12 : Nat) ≠ 9))).1, (h712 (bt_old hb (by decide : (12 : Nat) ≠ 9))).2⟩, fun hb => ⟨bt_keep (h713 (bt_old hb (by decide : (13 : Nat) ≠ 9))).1, (h713 (bt_old hb (by decide : (13 : Nat) ≠ 9))).2⟩, fun hb => ⟨bt_keep (h714 (bt_old hb (by decide : (14 : Nat) ≠ 9))).1, (h714 (bt_old hb (by decide : (14 : Nat) ≠ 9))).2⟩, fun hb => h819 (bt_old hb (by decide : (19 : Nat) ≠ 9)), ?_⟩
        rw [bt_ne (d := ds) (j := 9) (i := 10) (by decide), bt_ne (d := ds) (j := 9) (i := 15) (by decide), bt_ne (d := ds) (j := 9) (i := 16) (by decide), bt_ne (d := ds) (j := 9) (i := 17) (by decide), bt_ne (d := ds) (j := 9) (i := 18) (by decide)]
        exact hT.ex ((Kept.ownL _ _).and (Kept.ownL _ _)) hv
      · obtain rfl := Option.some.inj hoj
        obtain ⟨D1, k1, rfl, hr1⟩ := hc1 (hall ⟨1, .data⟩ (by simp) rfl) hu
        obtain ⟨D3, k3, rfl, hr3⟩ := hc3 (hall ⟨3, .data⟩ (by simp) rfl) hu
        obtain ⟨D5, k5, rfl, hr5⟩ := hc5 (hall ⟨5, .data⟩ (by simp) rfl) hu
        obtain ⟨D7, k7, rfl, hr7⟩ := hc7 (hall ⟨7, .data⟩ (by simp) rfl) hu
        obtain ⟨D9, k9, rfl, hr9⟩ := hc9 (hall ⟨9, .data⟩ (by simp) rfl) hu
        clear hall
        refine wpOp_step rfl fun K' hK' => ?_
        have hK := Lib.hid hK'
        clear hK'
        rw [if_pos (by rfl)]
        try simp only [Act.put]
        go_simp
        refine (HI.out D1 k1 D3 k3 D5 k5 D7 k7 D9 k9 _ (hr1) (hr3) (hr5) (hr7) (hr9) HX0.out HX1.out HX2.out HX3.out HX4.out).mono ?_
        rintro e w2 ⟨C'0, n'0, C'1, n'1, mid, rfl, hv, hm1, hm2, ho0, ho1⟩
        refine hK.out _ _ ⟨.agg #[.slice D1 t0.length k1], .agg #[.slice D3 t1.length k3], .agg #[.int .i64 m2, .slice D5 t2.length k5], .slice D7 t3.length k7, .agg #[.int .i64 m4, .slice D9 t4.length k9], _, v180, v192, v193, v194, v26, v27, v28, C'0, n'0, C'1, n'1, w'.heap.size, w2.heap.size, D, E, by go_simp, ⟨bt_keep hd0, bt_keep hd2, bt_keep hd4, bt_keep hd6, bt_keep hd8⟩, hE.trans hv, fun _ hn => absurd hn (by rw [bt_self]; decide), fun _ hn => absurd hn (by rw [bt_self]; decide), fun _ hn => absurd hn (by rw [bt_self]; decide), fun _ hn => absurd hn (by rw [bt_self]; decide), fun _ hn => absurd hn (by rw [bt_self]; decide), fun _ => rfl, fun hb => absurd (h6 (bt_old hb (by decide : (11 : Nat) ≠ 10))).1 (by rw [hu]; decide), fun hb => absurd (h712 (bt_old hb (by decide : (12 : Nat) ≠ 10))).1 (by rw [hu]; decide), fun hb => absurd (h713 (bt_old hb (by decide : (13 : Nat) ≠ 10))).1 (by rw [hu]; decide), fun hb => absurd (h714 (bt_old hb (by decide : (14 : Nat) ≠ 10))).1 (by rw [hu]; decide), fun hb => h819 (bt_old hb (by decide : (19 : Nat) ≠ 10)), ?_⟩
        rw [bt_self (d := ds) (j := 10), bt_ne (d := ds) (j := 10) (i := 15) (by decide), bt_ne (d := ds) (j := 10) (i := 16) (by decide), bt_ne (d := ds) (j := 10) (i := 17) (by decide), bt_ne (d := ds) (j := 10) (i := 18) (by decide)]
        rw [hu] at hT; exact hT.call hv ⟨ho0.mono (Nat.le_refl _) hm2 (Nat.le_refl _), ho1.mono hm1 (Nat.le_refl _) (Nat.le_refl _)⟩
      · obtain rfl := Option.some.inj hoj
        have hcall := (hall ⟨10, .data⟩ (by simp) rfl)
        obtain rfl := h5 hcall
        clear hall
        refine wpOp_step rfl fun K' hK' => ?_
        have hK := Lib.hid hK'
        clear hK'
        rw [if_pos (by rfl)]
        try simp only [Act.put]
        go_simp
        refine hK.out _ _ ⟨v182, v184, v186, v188, v190, (.tuple #[.agg #[.int .i64 q0, .slice C0 y0.length n0], .agg #[.int .i64 q1, .slice C1 y1.length n1], .int .i64 q2] : Value), (.tuple #[.agg #[.int .i64 q0, .slice C0 y0.length n0], .agg #[.int .i64 q1, .slice C1 y1.length n1], .int .i64 q2] : Value), v192, v193, v194, v26, v27, v28, C0, n0, C1, n1, lo, hi, D, E, by go_simp, ⟨bt_keep hd0, bt_keep hd2, bt_keep hd4, bt_keep hd6, bt_keep hd8⟩, hE, fun hb hn => hc1 (bt_old hb (by decide : (1 : Nat) ≠ 11)) (bt_no hn), fun hb hn => hc3 (bt_old hb (by decide : (3 : Nat) ≠ 11)) (bt_no hn), fun hb hn => hc5 (bt_old hb (by decide : (5 : Nat) ≠ 11)) (bt_no hn), fun hb hn => hc7 (bt_old hb (by decide : (7 : Nat) ≠ 11)) (bt_no hn), fun hb hn => hc9 (bt_old hb (by decide : (9 : Nat) ≠ 11)) (bt_no hn), fun _ => rfl, fun _ => ⟨bt_keep hcall, rfl⟩, fun hb => ⟨bt_keep (h712 (bt_old hb (by decide : (12 : Nat) ≠ 11))).1, (h712 (bt_old hb (by decide : (12 : Nat) ≠ 11))).2⟩, fun hb => ⟨bt_keep (h713 (bt_old hb (by decide : (13 : Nat) ≠ 11))).1, (h713 (bt_old hb (by decide : (13 : Nat) ≠ 11))).2⟩, fun hb => ⟨bt_keep (h714 (bt_old hb (by decide : (14 : Nat) ≠ 11))).1, (h714 (bt_old hb (by decide : (14 : Nat) ≠ 11))).2⟩, fun hb => h819 (bt_old hb (by decide : (19 : Nat) ≠ 11)), ?_⟩
        rw [bt_ne (d := ds) (j := 11) (i := 10) (by decide), bt_ne (d := ds) (j := 11) (i := 15) (by decide), bt_ne (d := ds) (j := 11) (i := 16) (by decide), bt_ne (d := ds) (j := 11) (i := 17) (by decide), bt_ne (d := ds) (j := 11) (i := 18) (by decide)]
        exact hT
      · obtain rfl := Option.some.inj hoj
        obtain ⟨hcall, rfl⟩ := h6 (hall ⟨11, .data⟩ (by simp) rfl)
        clear hall
        refine wpOp_step rfl fun K' hK' => ?_
        have hK := Lib.hid hK'
        clear hK'
        rw [if_pos (by rfl)]
        try simp only [Act.put]
        go_simp
        refine hK.out _ _ ⟨v182, v184, v186, v188, v190, v191, (.tuple #[.agg #[.int .i64 q0, .slice C0 y0.length n0], .agg #[.int .i64 q1, .slice C1 y1.length n1], .int .i64 q2] : Value), (.agg #[.int .i64 q0, .slice C0 y0.length n0]), v193, v194, v26, v27, v28, C0, n0, C1, n1, lo, hi, D, E, by go_simp, ⟨bt_keep hd0, bt_keep hd2, bt_keep hd4, bt_keep hd6, bt_keep hd8⟩, hE, fun hb hn => hc1 (bt_old hb (by decide : (1 : Nat) ≠ 12)) (bt_no hn), fun hb hn => hc3 (bt_old hb (by decide : (3 : Nat) ≠ 12)) (bt_no hn), fun hb hn => hc5 (bt_old hb (by decide : (5 : Nat) ≠ 12)) (bt_no hn), fun hb hn => hc7 (bt_old hb (by decide : (7 : Nat) ≠ 12)) (bt_no hn), fun hb hn => hc9 (bt_old hb (by decide : (9 : Nat) ≠ 12)) (bt_no hn), fun hb => h5 (bt_old hb (by decide : (10 : Nat) ≠ 12)), fun _ => ⟨bt_keep hcall, rfl⟩, fun _ => ⟨bt_keep hcall, rfl⟩, fun hb => ⟨bt_keep (h713 (bt_old hb (by decide : (13 : Nat) ≠ 12))).1, (h713 (bt_old hb (by decide : (13 : Nat) ≠ 12))).2⟩, fun hb => ⟨bt_keep (h714 (bt_old hb (by decide : (14 : Nat) ≠ 12))).1, (h714 (bt_old hb (by decide : (14 : Nat) ≠ 12))).2⟩, fun hb => h819 (bt_old hb (by decide : (19 : Nat) ≠ 12)), ?_⟩
        rw [bt_ne (d := ds) (j := 12) (i := 10) (by decide), bt_ne (d := ds) (j := 12) (i := 15) (by decide), bt_ne (d := ds) (j := 12) (i := 16) (by decide), bt_ne (d := ds) (j := 12) (i := 17) (by decide), bt_ne (d := ds) (j := 12) (i := 18) (by decide)]
        exact hT
      · obtain rfl := Option.some.inj hoj
        obtain ⟨hcall, rfl⟩ := h6 (hall ⟨11, .data⟩ (by simp) rfl)
        clear hall
        refine wpOp_step rfl fun K' hK' => ?_
        have hK := Lib.hid hK'
        clear hK'
        rw [if_pos (by rfl)]
        try simp only [Act.put]
        go_simp
        refine hK.out _ _ ⟨v182, v184, v186, v188, v190, v191, (.tuple #[.agg #[.int .i64 q0, .slice C0 y0.length n0], .agg #[.int .i64 q1, .slice C1 y1.length n1], .int .i64 q2] : Value), v192, (.agg #[.int .i64 q1, .slice C1 y1.length n1]), v194, v26, v27, v28, C0, n0, C1, n1, lo, hi, D, E, by go_simp, ⟨bt_keep hd0, bt_keep hd2, bt_keep hd4, bt_keep hd6, bt_keep hd8⟩, hE, fun hb hn => hc1 (bt_old hb (by decide : (1 : Nat) ≠ 13)) (bt_no hn), fun hb hn => hc3 (bt_old hb (by decide : (3 : Nat) ≠ 13)) (bt_no hn), fun hb hn => hc5 (bt_old hb (by decide : (5 : Nat) ≠ 13)) (bt_no hn), fun hb hn => hc7 (bt_old hb (by decide : (7 : Nat) ≠ 13)) (bt_no hn), fun hb hn => hc9 (bt_old hb (by decide : (9 : Nat) ≠ 13)) (bt_no hn), fun hb => h5 (bt_old hb (by decide : (10 : Nat) ≠ 13)), fun _ => ⟨bt_keep hcall, rfl⟩, fun hb => ⟨bt_keep (h712 (bt_old hb (by decide : (12 : Nat) ≠ 13))).1, (h712 (bt_old hb (by decide : (12 : Nat) ≠ 13))).2⟩, fun _ => ⟨bt_keep hcall, rfl⟩, fun hb => ⟨bt_keep (h714 (bt_old hb (by decide : (14 : Nat) ≠ 13))).1, (h714 (bt_old hb (by decide : (14 : Nat) ≠ 13))).2⟩, fun hb => h819 (bt_old hb (by decide : (19 : Nat) ≠ 13)), ?_⟩
        rw [bt_ne (d := ds) (j := 13) (i := 10) (by decide), bt_ne (d := ds) (j := 13) (i := 15) (by decide), bt_ne (d := ds) (j := 13) (i := 16) (by decide), bt_ne (d := ds) (j := 13) (i := 17) (by decide), bt_ne (d := ds) (j := 13) (i := 18) (by decide)]
        exact hT
      · obtain rfl := Option.some.inj hoj
        obtain ⟨hcall, rfl⟩ := h6 (hall ⟨11, .data⟩ (by simp) rfl)
        clear hall
        refine wpOp_step rfl fun K' hK' => ?_
        have hK := Lib.hid hK'
        clear hK'
        rw [if_pos (by rfl)]
        try simp only [Act.put]
        go_simp
        refine hK.out _ _ ⟨v182, v184, v186, v188, v190, v191, (.tuple #[.agg #[.int .i64 q0, .slice C0 y0.length n0], .agg #[.int .i64 q1, .slice C1 y1.length n1], .int .i64 q2] : Value), v192, v193, (.int .i64 q2), v26, v27, v28, C0, n0, C1, n1, lo, hi, D, E, by go_simp, ⟨bt_keep hd0, bt_keep hd2, bt_keep hd4, bt_keep hd6, bt_keep hd8⟩, hE, fun hb hn => hc1 (bt_old hb (by decide : (1 : Nat) ≠ 14)) (bt_no hn), fun hb hn => hc3 (bt_old hb (by decide : (3 : Nat) ≠ 14)) (bt_no hn), fun hb hn => hc5 (bt_old hb (by decide : (5 : Nat) ≠ 14)) (bt_no hn), fun hb hn => hc7 (bt_old hb (by decide : (7 : Nat) ≠ 14)) (bt_no hn), fun hb hn => hc9 (bt_old hb (by decide : (9 : Nat) ≠ 14)) (bt_no hn), fun hb => h5 (bt_old hb (by decide : (10 : Nat) ≠ 14)), fun _ => ⟨bt_keep hcall, rfl⟩, fun hb => ⟨bt_keep (h712 (bt_old hb (by decide : (12 : Nat) ≠ 14))).1, (h712 (bt_old hb (by decide : (12 : Nat) ≠ 14))).2⟩, fun hb => ⟨bt_keep (h713 (bt_old hb (by decide : (13 : Nat) ≠ 14))).1, (h713 (bt_old hb (by decide : (13 : Nat) ≠ 14))).2⟩, fun _ => ⟨bt_keep hcall, rfl⟩, fun hb => h819 (bt_old hb (by decide : (19 : Nat) ≠ 14)), ?_⟩
        rw [bt_ne (d := ds) (j := 14) (i := 10) (by decide), bt_ne (d := ds) (j := 14) (i := 15) (by decide), bt_ne (d := ds) (j := 14) (i := 16) (by decide), bt_ne (d := ds) (j := 14) (i := 17) (by decide), bt_ne (d := ds) (j := 14) (i := 18) (by decide)]
        exact hT
      · obtain rfl := Option.some.inj hoj
        clear hall
        refine wpOp_step rfl fun K' hK' => ?_
        have hK := Lib.hid hK'
        clear hK'
        rw [if_pos (by rfl)]
        try simp only [Act.put]
        go_simp
        refine hK.out _ _ ⟨v182, v184, v186, v188, v190, v191, v180, v192, v193, v194, (.pointer (some ⟨w'.heap.size, 0, none⟩)), v27, v28, C0, n0, C1, n1, lo, hi, w'.heap.size, E, by go_simp, ⟨bt_keep hd0, bt_keep hd2, bt_keep hd4, bt_keep hd6, bt_keep hd8⟩, hE.alloc _, fun hb hn => let ⟨D', k', e, h⟩ := hc1 (bt_old hb (by decide : (1 : Nat) ≠ 15)) (bt_no hn); ⟨D', k', e, h.ex (Ex.new _ _)⟩, fun hb hn => let ⟨D', k', e, h⟩ := hc3 (bt_old hb (by decide : (3 : Nat) ≠ 15)) (bt_no hn); ⟨D', k', e, h.ex (Ex.new _ _)⟩, fun hb hn => let ⟨D', k', e, h⟩ := hc5 (bt_old hb (by decide : (5 : Nat) ≠ 15)) (bt_no hn); ⟨D', k', e, h.ex (Ex.new _ _)⟩, fun hb hn => let ⟨D', k', e, h⟩ := hc7 (bt_old hb (by decide : (7 : Nat) ≠ 15)) (bt_no hn); ⟨D', k', e, h.ex (Ex.new _ _)⟩, fun hb hn => let ⟨D', k', e, h⟩ := hc9 (bt_old hb (by decide : (9 : Nat) ≠ 15)) (bt_no hn); ⟨D', k', e, h.ex (Ex.new _ _)⟩, fun hb => h5 (bt_old hb (by decide : (10 : Nat) ≠ 15)), fun hb => ⟨bt_keep (h6 (bt_old hb (by decide : (11 : Nat) ≠ 15))).1, (h6 (bt_old hb (by decide : (11 : Nat) ≠ 15))).2⟩, fun hb => ⟨bt_keep (h712 (bt_old hb (by decide : (12 : Nat) ≠ 15))).1, (h712 (bt_old hb (by decide : (12 : Nat) ≠ 15))).2⟩, fun hb => ⟨bt_keep (h713 (bt_old hb (by decide : (13 : Nat) ≠ 15))).1, (h713 (bt_old hb (by decide : (13 : Nat) ≠ 15))).2⟩, fun hb => ⟨bt_keep (h714 (bt_old hb (by decide : (14 : Nat) ≠ 15))).1, (h714 (bt_old hb (by decide : (14 : Nat) ≠ 15))).2⟩, fun hb => h819 (bt_old hb (by decide : (19 : Nat) ≠ 15)), ?_⟩
        rw [bt_ne (d := ds) (j := 15) (i := 10) (by decide), bt_self (d := ds) (j := 15), bt_ne (d := ds) (j := 15) (i := 16) (by decide), bt_ne (d := ds) (j := 15) (i := 17) (by decide), bt_ne (d := ds) (j := 15) (i := 18) (by decide)]
        rw [hu] at hT; exact hT.alloc0 ((Kept.ownL _ _).and (Kept.ownL _ _)) hE.size
      · obtain rfl := Option.some.inj hoj
        clear hall
        refine wpOp_step rfl fun K' hK' => ?_
        have hK := Lib.hid hK'
        clear hK'
        rw [if_pos (by rfl)]
        try simp only [Act.put]
        go_simp
        refine hK.out _ _ ⟨v182, v184, v186, v188, v190, v191, v180, v192, v193, v194, v26, (.pointer (some ⟨w'.heap.size, 0, none⟩)), v28, C0, n0, C1, n1, lo, hi, D, w'.heap.size, by go_simp, ⟨bt_keep hd0, bt_keep hd2, bt_keep hd4, bt_keep hd6, bt_keep hd8⟩, hE.alloc _, fun hb hn => let ⟨D', k', e, h⟩ := hc1 (bt_old hb (by decide : (1 : Nat) ≠ 16)) (bt_no hn); ⟨D', k', e, h.ex (Ex.new _ _)⟩, fun hb hn => let ⟨D', k', e, h⟩ := hc3 (bt_old hb (by decide : (3 : Nat) ≠ 16)) (bt_no hn); ⟨D', k', e, h.ex (Ex.new _ _)⟩, fun hb hn => let ⟨D', k', e, h⟩ := hc5 (bt_old hb (by decide : (5 : Nat) ≠ 16)) (bt_no hn); ⟨D', k', e, h.ex (Ex.new _ _)⟩, fun hb hn => let ⟨D', k', e, h⟩ := hc7 (bt_old hb (by decide : (7 : Nat) ≠ 16)) (bt_no hn); ⟨D', k', e, h.ex (Ex.new _ _)⟩, fun hb hn => let ⟨D', k', e, h⟩ := hc9 (bt_old hb (by decide : (9 : Nat) ≠ 16)) (bt_no hn); ⟨D', k', e, h.ex (Ex.new _ _)⟩, fun hb => h5 (bt_old hb (by decide : (10 : Nat) ≠ 16)), fun hb => ⟨bt_keep (h6 (bt_old hb (by decide : (11 : Nat) ≠ 16))).1, (h6 (bt_old hb (by decide : (11 : Nat) ≠ 16))).2⟩, fun hb => ⟨bt_keep (h712 (bt_old hb (by decide : (12 : Nat) ≠ 16))).1, (h712 (bt_old hb (by decide : (12 : Nat) ≠ 16))).2⟩, fun hb => ⟨bt_keep (h713 (bt_old hb (by decide : (13 : Nat) ≠ 16))).1, (h713 (bt_old hb (by decide : (13 : Nat) ≠ 16))).2⟩, fun hb => ⟨bt_keep (h714 (bt_old hb (by decide : (14 : Nat) ≠ 16))).1, (h714 (bt_old hb (by decide : (14 : Nat) ≠ 16))).2⟩, fun hb => h819 (bt_old hb (by decide : (19 : Nat) ≠ 16)), ?_⟩
        rw [bt_ne (d := ds) (j := 16) (i := 10) (by decide), bt_ne (d := ds) (j := 16) (i := 15) (by decide), bt_self (d := ds) (j := 16), bt_ne (d := ds) (j := 16) (i := 17) (by decide), bt_ne (d := ds) (j := 16) (i := 18) (by decide)]
        rw [hu] at hT; exact hT.alloc1 ((Kept.ownL _ _).and (Kept.ownL _ _)) hE.size
      · obtain rfl := Option.some.inj hoj
        obtain ⟨hcall, rfl⟩ := h712 (hall ⟨12, .data⟩ (by simp) rfl)
        have hal := (hall ⟨15, .data⟩ (by simp) rfl)
        obtain ⟨rfl, hDl, hDH, -⟩ := hT.box0 hal
        rw [hu] at hDH
        have hDD : Has w' D 40 #[.int .i64 0, .slice none 0 0] := hDH
        clear hDH
        have k0 := hDD.cell 0
        have f0 := hDD.free 0
        have k1 := hDD.cell 1
        have f1 := hDD.free 1
        clear hall
        refine wpOp_step rfl fun K' hK' => ?_
        have hK := Lib.hid hK'
        clear hK'
        rw [if_pos (by rfl)]
        try simp only [Act.put]
        go_simp
        refine hK.out _ _ ⟨v182, v184, v186, v188, v190, v191, v180, (.agg #[.int .i64 q0, .slice C0 y0.length n0]), v193, v194, (.pointer (some ⟨D, 0, none⟩)), v27, v28, C0, n0, C1, n1, lo, hi, D, E, by go_simp, ⟨bt_keep hd0, bt_keep hd2, bt_keep hd4, bt_keep hd6, bt_keep hd8⟩, ((hE.setCell (p := ⟨D, 0, none⟩) hDl _).setCell (p := ⟨D, 1, none⟩) hDl _), fun _ hn => absurd hn (by rw [bt_keep hcall]; decide), fun _ hn => absurd hn (by rw [bt_keep hcall]; decide), fun _ hn => absurd hn (by rw [bt_keep hcall]; decide), fun _ hn => absurd hn (by rw [bt_keep hcall]; decide), fun _ hn => absurd hn (by rw [bt_keep hcall]; decide), fun hb => h5 (bt_old hb (by decide : (10 : Nat) ≠ 17)), fun hb => ⟨bt_keep (h6 (bt_old hb (by decide : (11 : Nat) ≠ 17))).1, (h6 (bt_old hb (by decide : (11 : Nat) ≠ 17))).2⟩, fun _ => ⟨bt_keep hcall, rfl⟩, fun hb => ⟨bt_keep (h713 (bt_old hb (by decide : (13 : Nat) ≠ 17))).1, (h713 (bt_old hb (by decide : (13 : Nat) ≠ 17))).2⟩, fun hb => ⟨bt_keep (h714 (bt_old hb (by decide : (14 : Nat) ≠ 17))).1, (h714 (bt_old hb (by decide : (14 : Nat) ≠ 17))).2⟩, fun hb => h819 (bt_old hb (by decide : (19 : Nat) ≠ 17)), ?_⟩
        rw [bt_ne (d := ds) (j := 17) (i := 10) (by decide), bt_ne (d := ds) (j := 17) (i := 15) (by decide), bt_ne (d := ds) (j := 17) (i := 16) (by decide), bt_self (d := ds) (j := 17), bt_ne (d := ds) (j := 17) (i := 18) (by decide)]
        rw [hcall, hal] at hT ⊢; exact hT.store0 ((Kept.ownL _ _).and (Kept.ownL _ _)) ((Only.set _ D 0 _).trans (Only.set _ D 1 _) (Nat.le_refl _) (Nat.le_refl _)) hDD.put2
      · obtain rfl := Option.some.inj hoj
        obtain ⟨hcall, rfl⟩ := h713 (hall ⟨13, .data⟩ (by simp) rfl)
        have hal := (hall ⟨16, .data⟩ (by simp) rfl)
        obtain ⟨rfl, hDl, hDH, -⟩ := hT.box1 hal
        rw [hu] at hDH
        have hDD : Has w' E 57 #[.int .i64 0, .slice none 0 0] := hDH
        clear hDH
        have k0 := hDD.cell 0
        have f0 := hDD.free 0
        have k1 := hDD.cell 1
        have f1 := hDD.free 1
        clear hall
        refine wpOp_step rfl fun K' hK' => ?_
        have hK := Lib.hid hK'
        clear hK'
        rw [if_pos (by rfl)]
        try simp only [Act.put]
        go_simp
        refine hK.out _ _ ⟨v182, v184, v186, v188, v190, v191, v180, v192, (.agg #[.int .i64 q1, .slice C1 y1.length n1]), v194, v26, (.pointer (some ⟨E, 0, none⟩)), v28, C0, n0, C1, n1, lo, hi, D, E, by go_simp, ⟨bt_keep hd0, bt_keep hd2, bt_keep hd4, bt_keep hd6, bt_keep hd8⟩, ((hE.setCell (p := ⟨E, 0, none⟩) hDl _).setCell (p := ⟨E, 1, none⟩) hDl _), fun _ hn => absurd hn (by rw [bt_keep hcall]; decide), fun _ hn => absurd hn (by rw [bt_keep hcall]; decide), fun _ hn => absurd hn (by rw [bt_keep hcall]; decide), fun _ hn => absurd hn (by rw [bt_keep hcall]; decide), fun _ hn => absurd hn (by rw [bt_keep hcall]; decide), fun hb => h5 (bt_old hb (by decide : (10 : Nat) ≠ 18)), fun hb => ⟨bt_keep (h6 (bt_old hb (by decide : (11 : Nat) ≠ 18))).1, (h6 (bt_old hb (by decide : (11 : Nat) ≠ 18))).2⟩, fun hb => ⟨bt_keep (h712 (bt_old hb (by decide : (12 : Nat) ≠ 18))).1, (h712 (bt_old hb (by decide : (12 : Nat) ≠ 18))).2⟩, fun _ => ⟨bt_keep hcall, rfl⟩, fun hb => ⟨bt_keep (h714 (bt_old hb (by decide : (14 : Nat) ≠ 18))).1, (h714 (bt_old hb (by decide : (14 : Nat) ≠ 18))).2⟩, fun hb => h819 (bt_old hb (by decide : (19 : Nat) ≠ 18)), ?_⟩
        rw [bt_ne (d := ds) (j := 18) (i := 10) (by decide), bt_ne (d := ds) (j := 18) (i := 15) (by decide), bt_ne (d := ds) (j := 18) (i := 16) (by decide), bt_ne (d := ds) (j := 18) (i := 17) (by decide), bt_self (d := ds) (j := 18)]
        rw [hcall, hal] at hT ⊢; exact hT.store1 ((Kept.ownL _ _).and (Kept.ownL _ _)) ((Only.set _ E 0 _).trans (Only.set _ E 1 _) (Nat.le_refl _) (Nat.le_refl _)) hDD.put2
      · obtain rfl := Option.some.inj hoj
        obtain ⟨hcall, rfl⟩ := h714 (hall ⟨14, .data⟩ (by simp) rfl)
        clear hall
        refine wpOp_step rfl fun K' hK' => ?_
        have hK := Lib.hid hK'
        clear hK'
        rw [if_pos (by rfl)]
        try simp only [Act.put]
        go_simp
        refine hK.out _ _ ⟨v182, v184, v186, v188, v190, v191, v180, v192, v193, (.int .i64 q2), v26, v27, (.int .i64 q2), C0, n0, C1, n1, lo, hi, D, E, by go_simp, ⟨bt_keep hd0, bt_keep hd2, bt_keep hd4, bt_keep hd6, bt_keep hd8⟩, hE, fun hb hn => hc1 (bt_old hb (by decide : (1 : Nat) ≠ 19)) (bt_no hn), fun hb hn => hc3 (bt_old hb (by decide : (3 : Nat) ≠ 19)) (bt_no hn), fun hb hn => hc5 (bt_old hb (by decide : (5 : Nat) ≠ 19)) (bt_no hn), fun hb hn => hc7 (bt_old hb (by decide : (7 : Nat) ≠ 19)) (bt_no hn), fun hb hn => hc9 (bt_old hb (by decide : (9 : Nat) ≠ 19)) (bt_no hn), fun hb => h5 (bt_old hb (by decide : (10 : Nat) ≠ 19)), fun hb => ⟨bt_keep (h6 (bt_old hb (by decide : (11 : Nat) ≠ 19))).1, (h6 (bt_old hb (by decide : (11 : Nat) ≠ 19))).2⟩, fun hb => ⟨bt_keep (h712 (bt_old hb (by decide : (12 : Nat) ≠ 19))).1, (h712 (bt_old hb (by decide : (12 : Nat) ≠ 19))).2⟩, fun hb => ⟨bt_keep (h713 (bt_old hb (by decide : (13 : Nat) ≠ 19))).1, (h713 (bt_old hb (by decide : (13 : Nat) ≠ 19))).2⟩, fun _ => ⟨bt_keep hcall, rfl⟩, fun _ => rfl, ?_⟩
        rw [bt_ne (d := ds) (j := 19) (i := 10) (by decide), bt_ne (d := ds) (j := 19) (i := 15) (by decide), bt_ne (d := ds) (j := 19) (i := 16) (by decide), bt_ne (d := ds) (j := 19) (i := 17) (by decide), bt_ne (d := ds) (j := 19) (i := 18) (by decide)]
        exact hT
  obtain ⟨Uh, rfl⟩ : ∃ x : World, x = wc := ⟨_, rfl⟩
  obtain ⟨bbh0, Ch0, nh0, bbh1, Ch1, nh1, rfl, rfl, rfl, hfh, hbxh0, hbxh1, hoh0, hoh1⟩ := hcut
  have HOh0 := Lib.hid hoh0
  clear hoh0
  have HOh1 := Lib.hid hoh1
  clear hoh1
  clear HKh ED
  have HXh0 := Lib.hid hbxh0
  have HXh1 := Lib.hid hbxh1
  clear hbxh0 hbxh1
  have EW := Lib.hid (EW.out.trans hfh)
  have EA := Lib.hid (EA.out.trans hfh)
  have ES := Lib.hid (ES.out.trans hfh)
  have EM := Lib.hid (EM.out.trans hfh)
  clear hfh
  have EH := Lib.hid (Ex.refl Uh)
  have crh0 := (HXh0.out.ex EH.out).cell 0
  have crh0' := (HXh0.out.ex EH.out).cell 1
  have crs0 := (HXs0.out.ex ES.out).cell 0
  have crs0' := (HXs0.out.ex ES.out).cell 1
  go_wp2_with fail
  clear crh0 crh0' crs0 crs0'
  refine (eqModule_ex Ch0 Cs0 q0 y0 nh0 ns0 Uh (HOh0.out.ex EH.out) (HOs0.out.ex ES.out) HY0.out).mono ?_
  rintro e W34 ⟨rfl, he⟩
  have EW := Lib.hid (EW.out.trans he)
  have EA := Lib.hid (EA.out.trans he)
  have ES := Lib.hid (ES.out.trans he)
  have EM := Lib.hid (EM.out.trans he)
  have EH := Lib.hid (EH.out.trans he)
  clear he
  have crh1 := (HXh1.out.ex EH.out).cell 0
  have crh1' := (HXh1.out.ex EH.out).cell 1
  have crs1 := (HXs1.out.ex ES.out).cell 0
  have crs1' := (HXs1.out.ex ES.out).cell 1
  go_wp2_with fail
  clear crh1 crh1' crs1 crs1'
  refine (eqCochain_ex Ch1 Cs1 q1 y1 nh1 ns1 W34 (HOh1.out.ex EH.out) (HOs1.out.ex ES.out) HY1.out).mono ?_
  rintro e W35 ⟨rfl, he⟩
  have EW := Lib.hid (EW.out.trans he)
  have EA := Lib.hid (EA.out.trans he)
  have ES := Lib.hid (ES.out.trans he)
  have EM := Lib.hid (EM.out.trans he)
  have EH := Lib.hid (EH.out.trans he)
  clear he
  have crg0 := (HXg0.out.ex EM.out).cell 0
  have crg0' := (HXg0.out.ex EM.out).cell 1
  go_wp2_with fail
  clear crg0 crg0'
  refine (heldModule_ex Cg0 q0 y0.length ng0 1 W13.heap.size midg W35 (HM0.out.ex EM.out) HY0.out (by omega)).mono ?_
  rintro e W36 ⟨rfl, he⟩
  have EW := Lib.hid (EW.out.trans he)
  have EA := Lib.hid (EA.out.trans he)
  have ES := Lib.hid (ES.out.trans he)
  have EM := Lib.hid (EM.out.trans he)
  have EH := Lib.hid (EH.out.trans he)
  clear he
  rw [HMN0.out]
  have crg1 := (HXg1.out.ex EM.out).cell 0
  have crg1' := (HXg1.out.ex EM.out).cell 1
  go_wp2_with fail
  clear crg1 crg1'
  refine (heldCochain_ex Cg1 q1 y1.length ng1 mn0 midg Ug.heap.size W36 (HM1.out.ex EM.out) HY1.out (by omega)).mono ?_
  rintro e W37 ⟨rfl, he⟩
  have EW := Lib.hid (EW.out.trans he)
  have EA := Lib.hid (EA.out.trans he)
  have ES := Lib.hid (ES.out.trans he)
  have EM := Lib.hid (EM.out.trans he)
  have EH := Lib.hid (EH.out.trans he)
  clear he
  rw [HMN1.out, HMM.out]
  go_wp2_with fail
  go_ret
  exact ⟨rfl, EW.out⟩

end Go.Proofs.YtalejhbdbclfaaaDoor
