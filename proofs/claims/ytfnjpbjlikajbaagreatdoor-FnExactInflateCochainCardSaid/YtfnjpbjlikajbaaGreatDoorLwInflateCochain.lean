/- The law of InflateCochain: the walk, whatever the contracts of both functions. -/
import Derived.Deep.RegionHeld3
import Derived.Deep.RegionWith
import Derived.Deep.DeepCutAuto
import Derived.Test.YtfnjpbjlikajbaaGreatDoorExv
import Derived.Test.YtfnjpbjlikajbaaGreatDoorTwo
import Derived.Test.YtfnjpbjlikajbaaGreatDoorSm
namespace Go.Proofs.YtfnjpbjlikajbaaGreatDoor
open Go.RowKit

set_option maxRecDepth 100000 in
set_option maxHeartbeats 16000000 in
theorem lawInflateCochain_any (A0 : Option Addr) (t0 : List (List Int)) (c0 : Nat) (A1 : Option Addr) (t1 : List Int) (c1 : Nat) (m2 : Int) (A2 : Option Addr) (t2 : List Int) (c2 : Nat) (m3 : Int) (A3 : Option Addr) (t3 : List Int) (c3 : Nat) (q0 : Int) (y0 : List Int) (q1 : Int) (y1 : List Int) (q2 : Int) (w : World) (hR0 : RwsW w A0 t0) (hn0 : t0.length ≤ maxLen) (hl0 : ∀ i, i < t0.length → (row t0 i).length ≤ maxLen) (hR1 : IntsW w A1 t1) (hn1 : t1.length ≤ maxLen) (hR2 : IntsW w A2 t2) (hn2 : t2.length ≤ maxLen) (hR3 : IntsW w A3 t3) (hn3 : t3.length ≤ maxLen) (hy0 : y0.length ≤ 1048576) (hy1 : y1.length ≤ 1048576) (hT : TabL w)
    (HS : ∀ (B0 : Option Addr) (d0 : Nat) (B1 : Option Addr) (d1 : Nat) (B2 : Option Addr) (d2 : Nat) (B3 : Option Addr) (d3 : Nat) (W : World), RwsW W B0 t0 → IntsW W B1 t1 → IntsW W B2 t2 → IntsW W B3 t3 → SmallT t0 → t1.length ≤ 1048576 → t2.length ≤ 1048576 → t3.length ≤ 1048576 → Calls Tryz.prog 25 #[.agg #[.slice B0 t0.length d0], .slice B1 t1.length d1, .agg #[.int .i64 m2, .slice B2 t2.length d2], .agg #[.int .i64 m3, .slice B3 t3.length d3]] W fun e W' => ∃ (C0 : Option Addr) (e0 : Nat) (C1 : Option Addr) (e1 : Nat), e = .returned (.tuple #[.agg #[.int .i64 q0, .slice C0 y0.length e0], .agg #[.int .i64 q1, .slice C1 y1.length e1], .int .i64 q2]) ∧ Ex W W' ∧ OwnL W' W.heap.size W'.heap.size C0 y0 ∧ OwnL W' W.heap.size W'.heap.size C1 y1)
    (HI : ∀ (B0 : Option Addr) (d0 : Nat) (B1 : Option Addr) (d1 : Nat) (B2 : Option Addr) (d2 : Nat) (B3 : Option Addr) (d3 : Nat) (W : World), RwsW W B0 t0 → IntsW W B1 t1 → IntsW W B2 t2 → IntsW W B3 t3 → SmallT t0 → t1.length ≤ 1048576 → t2.length ≤ 1048576 → t3.length ≤ 1048576 → TabL W → Calls Tryz.prog 26 #[.agg #[.slice B0 t0.length d0], .slice B1 t1.length d1, .agg #[.int .i64 m2, .slice B2 t2.length d2], .agg #[.int .i64 m3, .slice B3 t3.length d3]] W fun e W' => ∃ (C0 : Option Addr) (e0 : Nat) (C1 : Option Addr) (e1 : Nat) (mid : Nat), e = .returned (.tuple #[.agg #[.int .i64 q0, .slice C0 y0.length e0], .agg #[.int .i64 q1, .slice C1 y1.length e1], .int .i64 q2]) ∧ Ex W W' ∧ W.heap.size ≤ mid ∧ mid ≤ W'.heap.size ∧ OwnL W' W.heap.size mid C0 y0 ∧ OwnL W' mid W'.heap.size C1 y1) :
    Calls Tryz.prog 4 #[.agg #[.slice A0 t0.length c0], .slice A1 t1.length c1, .agg #[.int .i64 m2, .slice A2 t2.length c2], .agg #[.int .i64 m3, .slice A3 t3.length c3]] w fun e w' => e = .returned (.bool true) ∧ Ex w w' := by
  have e0 : Ex w (((w.alloc (.cells #[.slice A0 t0.length c0] 24)).alloc (.cells #[.int .i64 m2, .slice A2 t2.length c2] 27)).alloc (.cells #[.int .i64 m3, .slice A3 t3.length c3] 29)) := (((Ex.refl w).alloc _).alloc _).alloc _
  have b0 : Has (((w.alloc (.cells #[.slice A0 t0.length c0] 24)).alloc (.cells #[.int .i64 m2, .slice A2 t2.length c2] 27)).alloc (.cells #[.int .i64 m3, .slice A3 t3.length c3] 29)) (w.heap.size) 24 #[.slice A0 t0.length c0] := (((Has.newAt (w := w) (e := 24) (cs := #[.slice A0 t0.length c0]) (k := w.heap.size) (by simp)).alloc _).alloc _)
  have b2 : Has (((w.alloc (.cells #[.slice A0 t0.length c0] 24)).alloc (.cells #[.int .i64 m2, .slice A2 t2.length c2] 27)).alloc (.cells #[.int .i64 m3, .slice A3 t3.length c3] 29)) (w.heap.size + 1) 27 #[.int .i64 m2, .slice A2 t2.length c2] := ((Has.newAt (w := (w.alloc (.cells #[.slice A0 t0.length c0] 24))) (e := 27) (cs := #[.int .i64 m2, .slice A2 t2.length c2]) (k := w.heap.size + 1) (by simp)).alloc _)
  have b3 : Has (((w.alloc (.cells #[.slice A0 t0.length c0] 24)).alloc (.cells #[.int .i64 m2, .slice A2 t2.length c2] 27)).alloc (.cells #[.int .i64 m3, .slice A3 t3.length c3] 29)) (w.heap.size + 1 + 1) 29 #[.int .i64 m3, .slice A3 t3.length c3] := (Has.newAt (w := ((w.alloc (.cells #[.slice A0 t0.length c0] 24)).alloc (.cells #[.int .i64 m2, .slice A2 t2.length c2] 27))) (e := 29) (cs := #[.int .i64 m3, .slice A3 t3.length c3]) (k := w.heap.size + 1 + 1) (by simp))
  have HR0 := Lib.hid (hR0.ex e0)
  have HR1 := Lib.hid (hR1.ex e0)
  have HR2 := Lib.hid (hR2.ex e0)
  have HR3 := Lib.hid (hR3.ex e0)
  have HN0 := Lib.hid hn0
  have HL0 := Lib.hid hl0
  have HN2 := Lib.hid hn2
  have HN3 := Lib.hid hn3
  have HY0 := Lib.hid hy0
  have HY1 := Lib.hid hy1
  have HS := Lib.hid HS
  have HI := Lib.hid HI
  have HTL := Lib.hid hT
  clear hT
  clear hR0 hR1 hR2 hR3 hn0 hn2 hn3 hl0 hy0 hy1
  have cb0 := b0.cell 0
  have HB0 := Lib.hid b0
  have HB2 := Lib.hid b2
  have HB3 := Lib.hid b3
  clear b0 b2 b3
  unfold maxLen at hn1
  by_cases hbig : 1048576 < t1.length
  · have hbb1 : decide ((1048576 : Int) < (t1.length : Int)) = true := by simp; omega
    go_enter Tryz.func4, Tryz.ntmps4
    go_wp2
    go_ret
    exact ⟨rfl, e0⟩
  have hbb1 : decide ((1048576 : Int) < (t1.length : Int)) = false := by simp; omega
  have HX1 := Lib.hid (show t1.length ≤ 1048576 by omega)
  clear hbig hn1
  go_enter Tryz.func4, Tryz.ntmps4
  go_wp2_with fail
  generalize (((w.alloc (.cells #[.slice A0 t0.length c0] 24)).alloc (.cells #[.int .i64 m2, .slice A2 t2.length c2] 27)).alloc (.cells #[.int .i64 m3, .slice A3 t3.length c3] 29)) = W0 at *
  have EW := Lib.hid e0
  have EA := Lib.hid (Ex.refl W0)
  clear e0
  clear hbb1
  refine (szGroup_ex A0 t0 c0 1048576 W0 (HR0.out.ex EA.out) HN0.out HL0.out (by omega) (by omega)).mono ?_
  rintro e W1 ⟨⟨r0, rfl, hr⟩, he⟩
  have EW := Lib.hid (EW.out.trans he)
  have EA := Lib.hid (EA.out.trans he)
  clear he cb0
  rcases hr with rfl | ⟨hr0, hr1, hs⟩
  · go_wp2
    go_ret
    exact ⟨rfl, EW.out⟩
  have HX0 := Lib.hid hs
  have hneg : decide (r0 < 0) = false := by simp; omega
  clear hs
  have cb2 := (HB2.out.ex EA.out).cell 0
  have cb2' := (HB2.out.ex EA.out).cell 1
  go_wp2_with fail
  refine (szModule_ex A2 m2 t2 c2 r0 W1 HN2.out (by omega) (by omega)).mono ?_
  rintro e W2 ⟨⟨r2, rfl, hr⟩, he⟩
  have EW := Lib.hid (EW.out.trans he)
  have EA := Lib.hid (EA.out.trans he)
  clear he cb2 cb2' hneg
  rcases hr with rfl | ⟨hr0, hr1, hs⟩
  · go_wp2
    go_ret
    exact ⟨rfl, EW.out⟩
  have HX2 := Lib.hid hs
  have hrl : r2 ≤ 1048576 := by omega
  have hneg : decide (r2 < 0) = false := by simp; omega
  clear hs
  have cb3 := (HB3.out.ex EA.out).cell 0
  have cb3' := (HB3.out.ex EA.out).cell 1
  go_wp2_with fail
  refine (szCochain_ex A3 m3 t3 c3 r2 W2 HN3.out (by omega) (by omega)).mono ?_
  rintro e W3 ⟨⟨r3, rfl, hr⟩, he⟩
  have EW := Lib.hid (EW.out.trans he)
  have EA := Lib.hid (EA.out.trans he)
  clear he cb3 cb3' hneg
  rcases hr with rfl | ⟨hr0, hr1, hs⟩
  · go_wp2
    go_ret
    exact ⟨rfl, EW.out⟩
  have HX3 := Lib.hid hs
  have hrl : r3 ≤ 1048576 := by omega
  have hneg : decide (r3 < 0) = false := by simp; omega
  clear hs
  clear HN0 HN2 HN3 HL0
  have HKs := Lib.hid (fun (W' : World) (hb : Ex W3 W') => (⟨(HB0.out.ex (EA.out.trans hb)).cell 0, (HB2.out.ex (EA.out.trans hb)).cell 0, (HB2.out.ex (EA.out.trans hb)).cell 1, (HB3.out.ex (EA.out.trans hb)).cell 0, (HB3.out.ex (EA.out.trans hb)).cell 1⟩ : (fun w' : World => w'.cell? ⟨w.heap.size, 0, none⟩ = some (.slice A0 t0.length c0) ∧ w'.cell? ⟨w.heap.size + 1, 0, none⟩ = some (.int .i64 m2) ∧ w'.cell? ⟨w.heap.size + 1, 1, none⟩ = some (.slice A2 t2.length c2) ∧ w'.cell? ⟨w.heap.size + 1 + 1, 0, none⟩ = some (.int .i64 m3) ∧ w'.cell? ⟨w.heap.size + 1 + 1, 1, none⟩ = some (.slice A3 t3.length c3)) W'))
  have ED := Lib.hid (EA.out.drew)
  go_upto_region 13 with (fail)
  go_cut [10, 11, 12] (fun s10 s11 s12 wx => ∃ (b0 : Nat) (C0 : Option Addr) (n0 : Nat) (b1 : Nat) (C1 : Option Addr) (n1 : Nat), s10 = .pointer (some ⟨b0, 0, none⟩) ∧ s11 = .pointer (some ⟨b1, 0, none⟩) ∧ s12 = .int .i64 q2 ∧ Ex W3 wx ∧ Has wx b0 38 #[.int .i64 q0, .slice C0 y0.length n0] ∧ Has wx b1 33 #[.int .i64 q1, .slice C1 y1.length n1] ∧ IntsW wx C0 y0 ∧ IntsW wx C1 y1)
  case first =>
    have HMF := HKs.out W3 (Ex.refl W3)
    refine Late.region (C := (fun w' : World => w'.cell? ⟨w.heap.size, 0, none⟩ = some (.slice A0 t0.length c0) ∧ w'.cell? ⟨w.heap.size + 1, 0, none⟩ = some (.int .i64 m2) ∧ w'.cell? ⟨w.heap.size + 1, 1, none⟩ = some (.slice A2 t2.length c2) ∧ w'.cell? ⟨w.heap.size + 1 + 1, 0, none⟩ = some (.int .i64 m3) ∧ w'.cell? ⟨w.heap.size + 1 + 1, 1, none⟩ = some (.slice A3 t3.length c3))) (fun _ => true) (by kernel_rfl) HMF (fun hC => ?_)
    refine Late.take (i := 0) (oi := _) (v := ?_) rfl (by kernel_rfl) (by kernel_rfl) (by kernel_rfl) (by kernel_rfl) (fun _ _ _ h => h) (Or.inl ⟨by rfl, ?_⟩) hC ?_
    rotate_left
    · (intro w hSw; (try dsimp only at hSw); go_simp; first | done | with_reducible rfl)
    simp only [Act.put]
    refine Late.take (i := 2) (oi := _) (v := ?_) rfl (by kernel_rfl) (by kernel_rfl) (by kernel_rfl) (by kernel_rfl) (fun _ _ _ h => h) (Or.inl ⟨by rfl, ?_⟩) hC ?_
    rotate_left
    · (intro w hSw; (try dsimp only at hSw); go_simp; first | done | with_reducible rfl)
    simp only [Act.put]
    refine Late.take (i := 4) (oi := _) (v := ?_) rfl (by kernel_rfl) (by kernel_rfl) (by kernel_rfl) (by kernel_rfl) (fun _ _ _ h => h) (Or.inl ⟨by rfl, ?_⟩) hC ?_
    rotate_left
    · (intro w hSw; (try dsimp only at hSw); go_simp; first | done | with_reducible rfl)
    simp only [Act.put]
    refine Late.take (i := 6) (oi := _) (v := ?_) rfl (by kernel_rfl) (by kernel_rfl) (by kernel_rfl) (by kernel_rfl) (fun _ _ _ h => h) (Or.inl ⟨by rfl, ?_⟩) hC ?_
    rotate_left
    · (intro w hSw; (try dsimp only at hSw); go_simp; first | done | with_reducible rfl)
    simp only [Act.put]
    clear hC HMF
    refine late_start (SS := fun (a0 : Act) (ds : Array Bool) (a : Act) (w' : World) => ∃ (v46 v48 v50 v52 v53 v44 v54 v55 v56 v10 v11 v12 : Value) (C0 : Option Addr) (n0 : Nat) (C1 : Option Addr) (n1 : Nat) (lo hi D E : Nat), a = ((((((((((((a0.put (some 46) v46).put (some 48) v48).put (some 50) v50).put (some 52) v52).put (some 53) v53).put (some 44) v44).put (some 54) v54).put (some 55) v55).put (some 56) v56).put (some 10) v10).put (some 11) v11).put (some 12) v12) ∧ (ds.getD 0 true = true ∧ ds.getD 2 true = true ∧ ds.getD 4 true = true ∧ ds.getD 6 true = true) ∧ Ex W3 w' ∧ (ds.getD 1 true = true → ds.getD 8 true = false → ∃ (D : Option Addr) (k : Nat), v46 = .agg #[.slice D t0.length k] ∧ RwsW w' D t0) ∧ (ds.getD 3 true = true → ds.getD 8 true = false → ∃ (D : Option Addr) (k : Nat), v48 = .slice D t1.length k ∧ IntsW w' D t1) ∧ (ds.getD 5 true = true → ds.getD 8 true = false → ∃ (D : Option Addr) (k : Nat), v50 = .agg #[.int .i64 m2, .slice D t2.length k] ∧ IntsW w' D t2) ∧ (ds.getD 7 true = true → ds.getD 8 true = false → ∃ (D : Option Addr) (k : Nat), v52 = .agg #[.int .i64 m3, .slice D t3.length k] ∧ IntsW w' D t3) ∧ (ds.getD 8 true = true → v53 = (.tuple #[.agg #[.int .i64 q0, .slice C0 y0.length n0], .agg #[.int .i64 q1, .slice C1 y1.length n1], .int .i64 q2] : Value)) ∧ (ds.getD 9 true = true → ds.getD 8 true = true ∧ v44 = (.tuple #[.agg #[.int .i64 q0, .slice C0 y0.length n0], .agg #[.int .i64 q1, .slice C1 y1.length n1], .int .i64 q2] : Value)) ∧ (ds.getD 10 true = true → ds.getD 8 true = true ∧ v54 = .agg #[.int .i64 q0, .slice C0 y0.length n0]) ∧ (ds.getD 11 true = true → ds.getD 8 true = true ∧ v55 = .agg #[.int .i64 q1, .slice C1 y1.length n1]) ∧ (ds.getD 12 true = true → ds.getD 8 true = true ∧ v56 = .int .i64 q2) ∧ (ds.getD 17 true = true → v12 = .int .i64 q2) ∧ TwoR W3.heap.size 38 33 #[.int .i64 0, .slice none 0 0] #[.int .i64 0, .slice none 0 0] #[.int .i64 q0, .slice C0 y0.length n0] #[.int .i64 q1, .slice C1 y1.length n1] (fun W lo hi => OwnL W lo hi C0 y0 ∧ OwnL W lo hi C1 y1) (ds.getD 8 true) (ds.getD 13 true) (ds.getD 14 true) (ds.getD 15 true) (ds.getD 16 true) v10 v11 lo hi D E w') (by kernel_rfl) ?h0 (by rfl) (by decide) ?hC ?hend ?hstep
    case h0 => exact ⟨undef, undef, undef, undef, undef, undef, undef, undef, undef, undef, undef, undef, none, 0, none, 0, 0, 0, 0, 0, by go_simp, ⟨by decide, by decide, by decide, by decide⟩, (Ex.refl W3).drew, fun hb => absurd hb (by decide), fun hb => absurd hb (by decide), fun hb => absurd hb (by decide), fun hb => absurd hb (by decide), fun hb => absurd hb (by decide), fun hb => absurd hb (by decide), fun hb => absurd hb (by decide), fun hb => absurd hb (by decide), fun hb => absurd hb (by decide), fun hb => absurd hb (by decide), TwoR.start⟩
    case hC =>
      rintro ds a w' ⟨v46, v48, v50, v52, v53, v44, v54, v55, v56, v10, v11, v12, C0, n0, C1, n1, lo, hi, D, E, rfl, ⟨hd0, hd2, hd4, hd6⟩, hE, hc1, hc3, hc5, hc7, h5, h6, h710, h711, h712, h817, hT⟩
      exact HKs.out w' hE
    case hend =>
      rintro ds a w' ⟨v46, v48, v50, v52, v53, v44, v54, v55, v56, v10, v11, v12, C0, n0, C1, n1, lo, hi, D, E, rfl, ⟨hd0, hd2, hd4, hd6⟩, hE, hc1, hc3, hc5, hc7, h5, h6, h710, h711, h712, h817, hT⟩ hall
      have hcall := hall 8 (by decide)
      obtain ⟨rfl, hD1, hD, -⟩ := hT.box0 (hall 13 (by decide))
      obtain ⟨rfl, hE1, hH, -⟩ := hT.box1 (hall 14 (by decide))
      have hR := (hT.res hcall).1
      rw [hall 15 (by decide)] at hD
      rw [hall 16 (by decide)] at hH
      obtain rfl := h817 (hall 17 (by decide))
      have HEE := Lib.hid hE
      have H0 := Lib.hid hD
      have H1 := Lib.hid hH
      have HR := Lib.hid hR
      clear hall hT hR hD hH hE hc1 hc3 hc5 hc7 h5 h6 h710 h711 h712 h817
      go_simp
      go_wp2_with fail
      go_meet
      exact ⟨D, C0, n0, E, C1, n1, rfl, rfl, rfl, HEE.out, H0.out, H1.out, HR.out.1.ints, HR.out.2.ints⟩
    case hstep =>
      rintro ds a w' ⟨v46, v48, v50, v52, v53, v44, v54, v55, v56, v10, v11, v12, C0, n0, C1, n1, lo, hi, D, E, rfl, ⟨hd0, hd2, hd4, hd6⟩, hE, hc1, hc3, hc5, hc7, h5, h6, h710, h711, h712, h817, hT⟩ j oj hoj hu hall
      have hjn : j < 18 := (Array.getElem?_eq_some_iff.1 hoj).1
      rcases (by omega : j = 0 ∨ j = 2 ∨ j = 4 ∨ j = 6 ∨ j = 1 ∨ j = 3 ∨ j = 5 ∨ j = 7 ∨ j = 8 ∨ j = 9 ∨ j = 10 ∨ j = 11 ∨ j = 12 ∨ j = 13 ∨ j = 14 ∨ j = 15 ∨ j = 16 ∨ j = 17) with rfl | rfl | rfl | rfl | rfl | rfl | rfl | rfl | rfl | rfl | rfl | rfl | rfl | rfl | rfl | rfl | rfl | rfl
      · rw [hd0] at hu; cases hu
      · rw [hd2] at hu; cases hu
      · rw [hd4] at hu; cases hu
      · rw [hd6] at hu; cases hu
      · obtain rfl := Option.some.inj hoj
        clear hall
        refine wpOp_step rfl fun K' hK' => ?_
        have hK := Lib.hid hK'
        clear hK'
        rw [if_pos (by rfl)]
        try simp only [Act.put]
        go_simp
        refine (toGroup_ex A0 t0 c0 _ (HR0.out.ex (EA.out.trans hE)) HX0.out).mono ?_
        rintro e w2 ⟨D', k', rfl, hv, hd⟩
        refine hK.out _ _ ⟨_, v48, v50, v52, v53, v44, v54, v55, v56, v10, v11, v12, C0, n0, C1, n1, lo, hi, D, E, by go_simp, ⟨bt_keep hd0, bt_keep hd2, bt_keep hd4, bt_keep hd6⟩, hE.trans hv, fun _ _ => ⟨D', k', rfl, hd.rws⟩, fun hb hn => let ⟨D', k', e, h⟩ := hc3 (bt_old hb (by decide : (3 : Nat) ≠ 1)) (bt_no hn); ⟨D', k', e, h.ex hv⟩, fun hb hn => let ⟨D', k', e, h⟩ := hc5 (bt_old hb (by decide : (5 : Nat) ≠ 1)) (bt_no hn); ⟨D', k', e, h.ex hv⟩, fun hb hn => let ⟨D', k', e, h⟩ := hc7 (bt_old hb (by decide : (7 : Nat) ≠ 1)) (bt_no hn); ⟨D', k', e, h.ex hv⟩, fun hb => h5 (bt_old hb (by decide : (8 : Nat) ≠ 1)), fun hb => ⟨bt_keep (h6 (bt_old hb (by decide : (9 : Nat) ≠ 1))).1, (h6 (bt_old hb (by decide : (9 : Nat) ≠ 1))).2⟩, fun hb => ⟨bt_keep (h710 (bt_old hb (by decide : (10 : Nat) ≠ 1))).1, (h710 (bt_old hb (by decide : (10 : Nat) ≠ 1))).2⟩, fun hb => ⟨bt_keep (h711 (bt_old hb (by decide : (11 : Nat) ≠ 1))).1, (h711 (bt_old hb (by decide : (11 : Nat) ≠ 1))).2⟩, fun hb => ⟨bt_keep (h712 (bt_old hb (by decide : (12 : Nat) ≠ 1))).1, (h712 (bt_old hb (by decide : (12 : Nat) ≠ 1))).2⟩, fun hb => h817 (bt_old hb (by decide : (17 : Nat) ≠ 1)), ?_⟩
        rw [bt_ne (d := ds) (j := 1) (i := 8) (by decide), bt_ne (d := ds) (j := 1) (i := 13) (by decide), bt_ne (d := ds) (j := 1) (i := 14) (by decide), bt_ne (d := ds) (j := 1) (i := 15) (by decide), bt_ne (d := ds) (j := 1) (i := 16) (by decide)]
        exact hT.ex ((Kept.ownL _ _).and (Kept.ownL _ _)) hv
      · obtain rfl := Option.some.inj hoj
        clear hall
        refine wpOp_step rfl fun K' hK' => ?_
        have hK := Lib.hid hK'
        clear hK'
        rw [if_pos (by rfl)]
        try simp only [Act.put]
        go_simp
        refine (toInt64S_ex A1 t1 c1 _ (HR1.out.ex (EA.out.trans hE)) HX1.out).mono ?_
        rintro e w2 ⟨D', k', rfl, hv, hd⟩
        refine hK.out _ _ ⟨v46, _, v50, v52, v53, v44, v54, v55, v56, v10, v11, v12, C0, n0, C1, n1, lo, hi, D, E, by go_simp, ⟨bt_keep hd0, bt_keep hd2, bt_keep hd4, bt_keep hd6⟩, hE.trans hv, fun hb hn => let ⟨D', k', e, h⟩ := hc1 (bt_old hb (by decide : (1 : Nat) ≠ 3)) (bt_no hn); ⟨D', k', e, h.ex hv⟩, fun _ _ => ⟨D', k', rfl, hd.ints⟩, fun hb hn => let ⟨D', k', e, h⟩ := hc5 (bt_old hb (by decide : (5 : Nat) ≠ 3)) (bt_no hn); ⟨D', k', e, h.ex hv⟩, fun hb hn => let ⟨D', k', e, h⟩ := hc7 (bt_old hb (by decide : (7 : Nat) ≠ 3)) (bt_no hn); ⟨D', k', e, h.ex hv⟩, fun hb => h5 (bt_old hb (by decide : (8 : Nat) ≠ 3)), fun hb => ⟨bt_keep (h6 (bt_old hb (by decide : (9 : Nat) ≠ 3))).1, (h6 (bt_old hb (by decide : (9 : Nat) ≠ 3))).2⟩, fun hb => ⟨bt_keep (h710 (bt_old hb (by decide : (10 : Nat) ≠ 3))).1, (h710 (bt_old hb (by decide : (10 : Nat) ≠ 3))).2⟩, fun hb => ⟨bt_keep (h711 (bt_old hb (by decide : (11 : Nat) ≠ 3))).1, (h711 (bt_old hb (by decide : (11 : Nat) ≠ 3))).2⟩, fun hb => ⟨bt_keep (h712 (bt_old hb (by decide : (12 : Nat) ≠ 3))).1, (h712 (bt_old hb (by decide : (12 : Nat) ≠ 3))).2⟩, fun hb => h817 (bt_old hb (by decide : (17 : Nat) ≠ 3)), ?_⟩
        rw [bt_ne (d := ds) (j := 3) (i := 8) (by decide), bt_ne (d := ds) (j := 3) (i := 13) (by decide), bt_ne (d := ds) (j := 3) (i := 14) (by decide), bt_ne (d := ds) (j := 3) (i := 15) (by decide), bt_ne (d := ds) (j := 3) (i := 16) (by decide)]
        exact hT.ex ((Kept.ownL _ _).and (Kept.ownL _ _)) hv
      · obtain rfl := Option.some.inj hoj
        clear hall
        refine wpOp_step rfl fun K' hK' => ?_
        have hK := Lib.hid hK'
        clear hK'
        rw [if_pos (by rfl)]
        try simp only [Act.put]
        go_simp
        refine (toModule_ex A2 m2 t2 c2 _ (HR2.out.ex (EA.out.trans hE)) HX2.out).mono ?_
        rintro e w2 ⟨D', k', rfl, hv, hd⟩
        refine hK.out _ _ ⟨v46, v48, _, v52, v53, v44, v54, v55, v56, v10, v11, v12, C0, n0, C1, n1, lo, hi, D, E, by go_simp, ⟨bt_keep hd0, bt_keep hd2, bt_keep hd4, bt_keep hd6⟩, hE.trans hv, fun hb hn => let ⟨D', k', e, h⟩ := hc1 (bt_old hb (by decide : (1 : Nat) ≠ 5)) (bt_no hn); ⟨D', k', e, h.ex hv⟩, fun hb hn => let ⟨D', k', e, h⟩ := hc3 (bt_old hb (by decide : (3 : Nat) ≠ 5)) (bt_no hn); ⟨D', k', e, h.ex hv⟩, fun _ _ => ⟨D', k', rfl, hd.ints⟩, fun hb hn => let ⟨D', k', e, h⟩ := hc7 (bt_old hb (by decide : (7 : Nat) ≠ 5)) (bt_no hn); ⟨D', k', e, h.ex hv⟩, fun hb => h5 (bt_old hb (by decide : (8 : Nat) ≠ 5)), fun hb => ⟨bt_keep (h6 (bt_old hb (by decide : (9 : Nat) ≠ 5))).1, (h6 (bt_old hb (by decide : (9 : Nat) ≠ 5))).2⟩, fun hb => ⟨bt_keep (h710 (bt_old hb (by decide : (10 : Nat) ≠ 5))).1, (h710 (bt_old hb (by decide : (10 : Nat) ≠ 5))).2⟩, fun hb => ⟨bt_keep (h711 (bt_old hb (by decide : (11 : Nat) ≠ 5))).1, (h711 (bt_old hb (by decide : (11 : Nat) ≠ 5))).2⟩, fun hb => ⟨bt_keep (h712 (bt_old hb (by decide : (12 : Nat) ≠ 5))).1, (h712 (bt_old hb (by decide : (12 : Nat) ≠ 5))).2⟩, fun hb => h817 (bt_old hb (by decide : (17 : Nat) ≠ 5)), ?_⟩
        rw [bt_ne (d := ds) (j := 5) (i := 8) (by decide), bt_ne (d := ds) (j := 5) (i := 13) (by decide), bt_ne (d := ds) (j := 5) (i := 14) (by decide), bt_ne (d := ds) (j := 5) (i := 15) (by decide), bt_ne (d := ds) (j := 5) (i := 16) (by decide)]
        exact hT.ex ((Kept.ownL _ _).and (Kept.ownL _ _)) hv
      · obtain rfl := Option.some.inj hoj
        clear hall
        refine wpOp_step rfl fun K' hK' => ?_
        have hK := Lib.hid hK'
        clear hK'
        rw [if_pos (by rfl)]
        try simp only [Act.put]
        go_simp
        refine (toCochain_ex A3 m3 t3 c3 _ (HR3.out.ex (EA.out.trans hE)) HX3.out).mono ?_
        rintro e w2 ⟨D', k', rfl, hv, hd⟩
        refine hK.out _ _ ⟨v46, v48, v50, _, v53, v44, v54, v55, v56, v10, v11, v12, C0, n0, C1, n1, lo, hi, D, E, by go_simp, ⟨bt_keep hd0, bt_keep hd2, bt_keep hd4, bt_keep hd6⟩, hE.trans hv, fun hb hn => let ⟨D', k', e, h⟩ := hc1 (bt_old hb (by decide : (1 : Nat) ≠ 7)) (bt_no hn); ⟨D', k', e, h.ex hv⟩, fun hb hn => let ⟨D', k', e, h⟩ := hc3 (bt_old hb (by decide : (3 : Nat) ≠ 7)) (bt_no hn); ⟨D', k', e, h.ex hv⟩, fun hb hn => let ⟨D', k', e, h⟩ := hc5 (bt_old hb (by decide : (5 : Nat) ≠ 7)) (bt_no hn); ⟨D', k', e, h.ex hv⟩, fun _ _ => ⟨D', k', rfl, hd.ints⟩, fun hb => h5 (bt_old hb (by decide : (8 : Nat) ≠ 7)), fun hb => ⟨bt_keep (h6 (bt_old hb (by decide : (9 : Nat) ≠ 7))).1, (h6 (bt_old hb (by decide : (9 : Nat) ≠ 7))).2⟩, fun hb => ⟨bt_keep (h710 (bt_old hb (by decide : (10 : Nat) ≠ 7))).1, (h710 (bt_old hb (by decide : (10 : Nat) ≠ 7))).2⟩, fun hb => ⟨bt_keep (h711 (bt_old hb (by decide : (11 : Nat) ≠ 7))).1, (h711 (bt_old hb (by decide : (11 : Nat) ≠ 7))).2⟩, fun hb => ⟨bt_keep (h712 (bt_old hb (by decide : (12 : Nat) ≠ 7))).1, (h712 (bt_old hb (by decide : (12 : Nat) ≠ 7))).2⟩, fun hb => h817 (bt_old hb (by decide : (17 : Nat) ≠ 7)), ?_⟩
        rw [bt_ne (d := ds) (j := 7) (i := 8) (by decide), bt_ne (d := ds) (j := 7) (i := 13) (by decide), bt_ne (d := ds) (j := 7) (i := 14) (by decide), bt_ne (d := ds) (j := 7) (i := 15) (by decide), bt_ne (d := ds) (j := 7) (i := 16) (by decide)]
        exact hT.ex ((Kept.ownL _ _).and (Kept.ownL _ _)) hv
      · obtain rfl := Option.some.inj hoj
        obtain ⟨D1, k1, rfl, hr1⟩ := hc1 (hall ⟨1, .data⟩ (by simp) rfl) hu
        obtain ⟨D3, k3, rfl, hr3⟩ := hc3 (hall ⟨3, .data⟩ (by simp) rfl) hu
        obtain ⟨D5, k5, rfl, hr5⟩ := hc5 (hall ⟨5, .data⟩ (by simp) rfl) hu
        obtain ⟨D7, k7, rfl, hr7⟩ := hc7 (hall ⟨7, .data⟩ (by simp) rfl) hu
        clear hall
        refine wpOp_step rfl fun K' hK' => ?_
        have hK := Lib.hid hK'
        clear hK'
        rw [if_pos (by rfl)]
        try simp only [Act.put]
        go_simp
        refine (HS.out D1 k1 D3 k3 D5 k5 D7 k7 _ (hr1) (hr3) (hr5) (hr7) HX0.out HX1.out HX2.out HX3.out).mono ?_
        rintro e w2 ⟨C'0, n'0, C'1, n'1, rfl, hv, ho0, ho1⟩
        refine hK.out _ _ ⟨.agg #[.slice D1 t0.length k1], .slice D3 t1.length k3, .agg #[.int .i64 m2, .slice D5 t2.length k5], .agg #[.int .i64 m3, .slice D7 t3.length k7], _, v44, v54, v55, v56, v10, v11, v12, C'0, n'0, C'1, n'1, w'.heap.size, w2.heap.size, D, E, by go_simp, ⟨bt_keep hd0, bt_keep hd2, bt_keep hd4, bt_keep hd6⟩, hE.trans hv, fun _ hn => absurd hn (by rw [bt_self]; decide), fun _ hn => absurd hn (by rw [bt_self]; decide), fun _ hn => absurd hn (by rw [bt_self]; decide), fun _ hn => absurd hn (by rw [bt_self]; decide), fun _ => rfl, fun hb => absurd (h6 (bt_old hb (by decide : (9 : Nat) ≠ 8))).1 (by rw [hu]; decide), fun hb => absurd (h710 (bt_old hb (by decide : (10 : Nat) ≠ 8))).1 (by rw [hu]; decide), fun hb => absurd (h711 (bt_old hb (by decide : (11 : Nat) ≠ 8))).1 (by rw [hu]; decide), fun hb => absurd (h712 (bt_old hb (by decide : (12 : Nat) ≠ 8))).1 (by rw [hu]; decide), fun hb => h817 (bt_old hb (by decide : (17 : Nat) ≠ 8)), ?_⟩
        rw [bt_self (d := ds) (j := 8), bt_ne (d := ds) (j := 8) (i := 13) (by decide), bt_ne (d := ds) (j := 8) (i := 14) (by decide), bt_ne (d := ds) (j := 8) (i := 15) (by decide), bt_ne (d := ds) (j := 8) (i := 16) (by decide)]
        rw [hu] at hT; exact hT.call hv ⟨ho0, ho1⟩
      · obtain rfl := Option.some.inj hoj
        have hcall := (hall ⟨8, .data⟩ (by simp) rfl)
        obtain rfl := h5 hcall
        clear hall
        refine wpOp_step rfl fun K' hK' => ?_
        have hK := Lib.hid hK'
        clear hK'
        rw [if_pos (by rfl)]
        try simp only [Act.put]
        go_simp
        refine hK.out _ _ ⟨v46, v48, v50, v52, (.tuple #[.agg #[.int .i64 q0, .slice C0 y0.length n0], .agg #[.int .i64 q1, .slice C1 y1.length n1], .int .i64 q2] : Value), (.tuple #[.agg #[.int .i64 q0, .slice C0 y0.length n0], .agg #[.int .i64 q1, .slice C1 y1.length n1], .int .i64 q2] : Value), v54, v55, v56, v10, v11, v12, C0, n0, C1, n1, lo, hi, D, E, by go_simp, ⟨bt_keep hd0, bt_keep hd2, bt_keep hd4, bt_keep hd6⟩, hE, fun hb hn => hc1 (bt_old hb (by decide : (1 : Nat) ≠ 9)) (bt_no hn), fun hb hn => hc3 (bt_old hb (by decide : (3 : Nat) ≠ 9)) (bt_no hn), fun hb hn => hc5 (bt_old hb (by decide : (5 : Nat) ≠ 9)) (bt_no hn), fun hb hn => hc7 (bt_old hb (by decide : (7 : Nat) ≠ 9)) (bt_no hn), fun _ => rfl, fun _ => ⟨bt_keep hcall, rfl⟩, fun hb => ⟨bt_keep (h710 (bt_old hb (by decide : (10 : Nat) ≠ 9))).1, (h710 (bt_old hb (by decide : (10 : Nat) ≠ 9))).2⟩, fun hb => ⟨bt_keep (h711 (bt_old hb (by decide : (11 : Nat) ≠ 9))).1, (h711 (bt_old hb (by decide : (11 : Nat) ≠ 9))).2⟩, fun hb => ⟨bt_keep (h712 (bt_old hb (by decide : (12 : Nat) ≠ 9))).1, (h712 (bt_old hb (by decide : (12 : Nat) ≠ 9))).2⟩, fun hb => h817 (bt_old hb (by decide : (17 : Nat) ≠ 9)), ?_⟩
        rw [bt_ne (d := ds) (j := 9) (i := 8) (by decide), bt_ne (d := ds) (j := 9) (i := 13) (by decide), bt_ne (d := ds) (j := 9) (i := 14) (by decide), bt_ne (d := ds) (j := 9) (i := 15) (by decide), bt_ne (d := ds) (j := 9) (i := 16) (by decide)]
        exact hT
      · obtain rfl := Option.some.inj hoj
        obtain ⟨hcall, rfl⟩ := h6 (hall ⟨9, .data⟩ (by simp) rfl)
        clear hall
        refine wpOp_step rfl fun K' hK' => ?_
        have hK := Lib.hid hK'
        clear hK'
        rw [if_pos (by rfl)]
        try simp only [Act.put]
        go_simp
        refine hK.out _ _ ⟨v46, v48, v50, v52, v53, (.tuple #[.agg #[.int .i64 q0, .slice C0 y0.length n0], .agg #[.int .i64 q1, .slice C1 y1.length n1], .int .i64 q2] : Value), (.agg #[.int .i64 q0, .slice C0 y0.length n0]), v55, v56, v10, v11, v12, C0, n0, C1, n1, lo, hi, D, E, by go_simp, ⟨bt_keep hd0, bt_keep hd2, bt_keep hd4, bt_keep hd6⟩, hE, fun hb hn => hc1 (bt_old hb (by decide : (1 : Nat) ≠ 10)) (bt_no hn), fun hb hn => hc3 (bt_old hb (by decide : (3 : Nat) ≠ 10)) (bt_no hn), fun hb hn => hc5 (bt_old hb (by decide : (5 : Nat) ≠ 10)) (bt_no hn), fun hb hn => hc7 (bt_old hb (by decide : (7 : Nat) ≠ 10)) (bt_no hn), fun hb => h5 (bt_old hb (by decide : (8 : Nat) ≠ 10)), fun _ => ⟨bt_keep hcall, rfl⟩, fun _ => ⟨bt_keep hcall, rfl⟩, fun hb => ⟨bt_keep (h711 (bt_old hb (by decide : (11 : Nat) ≠ 10))).1, (h711 (bt_old hb (by decide : (11 : Nat) ≠ 10))).2⟩, fun hb => ⟨bt_keep (h712 (bt_old hb (by decide : (12 : Nat) ≠ 10))).1, (h712 (bt_old hb (by decide : (12 : Nat) ≠ 10))).2⟩, fun hb => h817 (bt_old hb (by decide : (17 : Nat) ≠ 10)), ?_⟩
        rw [bt_ne (d := ds) (j := 10) (i := 8) (by decide), bt_ne (d := ds) (j := 10) (i := 13) (by decide), bt_ne (d := ds) (j := 10) (i := 14) (by decide), bt_ne (d := ds) (j := 10) (i := 15) (by decide), bt_ne (d := ds) (j := 10) (i := 16) (by decide)]
        exact hT
      · obtain rfl := Option.some.inj hoj
        obtain ⟨hcall, rfl⟩ := h6 (hall ⟨9, .data⟩ (by simp) rfl)
        clear hall
        refine wpOp_step rfl fun K' hK' => ?_
        have hK := Lib.hid hK'
        clear hK'
        rw [if_pos (by rfl)]
        try simp only [Act.put]
        go_simp
        refine hK.out _ _ ⟨v46, v48, v50, v52, v53, (.tuple #[.agg #[.int .i64 q0, .slice C0 y0.length n0], .agg #[.int .i64 q1, .slice C1 y1.length n1], .int .i64 q2] : Value), v54, (.agg #[.int .i64 q1, .slice C1 y1.length n1]), v56, v10, v11, v12, C0, n0, C1, n1, lo, hi, D, E, by go_simp, ⟨bt_keep hd0, bt_keep hd2, bt_keep hd4, bt_keep hd6⟩, hE, fun hb hn => hc1 (bt_old hb (by decide : (1 : Nat) ≠ 11)) (bt_no hn), fun hb hn => hc3 (bt_old hb (by decide : (3 : Nat) ≠ 11)) (bt_no hn), fun hb hn => hc5 (bt_old hb (by decide : (5 : Nat) ≠ 11)) (bt_no hn), fun hb hn => hc7 (bt_old hb (by decide : (7 : Nat) ≠ 11)) (bt_no hn), fun hb => h5 (bt_old hb (by decide : (8 : Nat) ≠ 11)), fun _ => ⟨bt_keep hcall, rfl⟩, fun hb => ⟨bt_keep (h710 (bt_old hb (by decide : (10 : Nat) ≠ 11))).1, (h710 (bt_old hb (by decide : (10 : Nat) ≠ 11))).2⟩, fun _ => ⟨bt_keep hcall, rfl⟩, fun hb => ⟨bt_keep (h712 (bt_old hb (by decide : (12 : Nat) ≠ 11))).1, (h712 (bt_old hb (by decide : (12 : Nat) ≠ 11))).2⟩, fun hb => h817 (bt_old hb (by decide : (17 : Nat) ≠ 11)), ?_⟩
        rw [bt_ne (d := ds) (j := 11) (i := 8) (by decide), bt_ne (d := ds) (j := 11) (i := 13) (by decide), bt_ne (d := ds) (j := 11) (i := 14) (by decide), bt_ne (d := ds) (j := 11) (i := 15) (by decide), bt_ne (d := ds) (j := 11) (i := 16) (by decide)]
        exact hT
      · obtain rfl := Option.some.inj hoj
        obtain ⟨hcall, rfl⟩ := h6 (hall ⟨9, .data⟩ (by simp) rfl)
        clear hall
        refine wpOp_step rfl fun K' hK' => ?_
        have hK := Lib.hid hK'
        clear hK'
        rw [if_pos (by rfl)]
        try simp only [Act.put]
        go_simp
        refine hK.out _ _ ⟨v46, v48, v50, v52, v53, (.tuple #[.agg #[.int .i64 q0, .slice C0 y0.length n0], .agg #[.int .i64 q1, .slice C1 y1.length n1], .int .i64 q2] : Value), v54, v55, (.int .i64 q2), v10, v11, v12, C0, n0, C1, n1, lo, hi, D, E, by go_simp, ⟨bt_keep hd0, bt_keep hd2, bt_keep hd4, bt_keep hd6⟩, hE, fun hb hn => hc1 (bt_old hb (by decide : (1 : Nat) ≠ 12)) (bt_no hn), fun hb hn => hc3 (bt_old hb (by decide : (3 : Nat) ≠ 12)) (bt_no hn), fun hb hn => hc5 (bt_old hb (by decide : (5 : Nat) ≠ 12)) (bt_no hn), fun hb hn => hc7 (bt_old hb (by decide : (7 : Nat) ≠ 12)) (bt_no hn), fun hb => h5 (bt_old hb (by decide : (8 : Nat) ≠ 12)), fun _ => ⟨bt_keep hcall, rfl⟩, fun hb => ⟨bt_keep (h710 (bt_old hb (by decide : (10 : Nat) ≠ 12))).1, (h710 (bt_old hb (by decide : (10 : Nat) ≠ 12))).2⟩, fun hb => ⟨bt_keep (h711 (bt_old hb (by decide : (11 : Nat) ≠ 12))).1, (h711 (bt_old hb (by decide : (11 : Nat) ≠ 12))).2⟩, fun _ => ⟨bt_keep hcall, rfl⟩, fun hb => h817 (bt_old hb (by decide : (17 : Nat) ≠ 12)), ?_⟩
        rw [bt_ne (d := ds) (j := 12) (i := 8) (by decide), bt_ne (d := ds) (j := 12) (i := 13) (by decide), bt_ne (d := ds) (j := 12) (i := 14) (by decide), bt_ne (d := ds) (j := 12) (i := 15) (by decide), bt_ne (d := ds) (j := 12) (i := 16) (by decide)]
        exact hT
      · obtain rfl := Option.some.inj hoj
        clear hall
        refine wpOp_step rfl fun K' hK' => ?_
        have hK := Lib.hid hK'
        clear hK'
        rw [if_pos (by rfl)]
        try simp only [Act.put]
        go_simp
        refine hK.out _ _ ⟨v46, v48, v50, v52, v53, v44, v54, v55, v56, (.pointer (some ⟨w'.heap.size, 0, none⟩)), v11, v12, C0, n0, C1, n1, lo, hi, w'.heap.size, E, by go_simp, ⟨bt_keep hd0, bt_keep hd2, bt_keep hd4, bt_keep hd6⟩, hE.alloc _, fun hb hn => let ⟨D', k', e, h⟩ := hc1 (bt_old hb (by decide : (1 : Nat) ≠ 13)) (bt_no hn); ⟨D', k', e, h.ex (Ex.new _ _)⟩, fun hb hn => let ⟨D', k', e, h⟩ := hc3 (bt_old hb (by decide : (3 : Nat) ≠ 13)) (bt_no hn); ⟨D', k', e, h.ex (Ex.new _ _)⟩, fun hb hn => let ⟨D', k', e, h⟩ := hc5 (bt_old hb (by decide : (5 : Nat) ≠ 13)) (bt_no hn); ⟨D', k', e, h.ex (Ex.new _ _)⟩, fun hb hn => let ⟨D', k', e, h⟩ := hc7 (bt_old hb (by decide : (7 : Nat) ≠ 13)) (bt_no hn); ⟨D', k', e, h.ex (Ex.new _ _)⟩, fun hb => h5 (bt_old hb (by decide : (8 : Nat) ≠ 13)), fun hb => ⟨bt_keep (h6 (bt_old hb (by decide : (9 : Nat) ≠ 13))).1, (h6 (bt_old hb (by decide : (9 : Nat) ≠ 13))).2⟩, fun hb => ⟨bt_keep (h710 (bt_old hb (by decide : (10 : Nat) ≠ 13))).1, (h710 (bt_old hb (by decide : (10 : Nat) ≠ 13))).2⟩, fun hb => ⟨bt_keep (h711 (bt_old hb (by decide : (11 : Nat) ≠ 13))).1, (h711 (bt_old hb (by decide : (11 : Nat) ≠ 13))).2⟩, fun hb => ⟨bt_keep (h712 (bt_old hb (by decide : (12 : Nat) ≠ 13))).1, (h712 (bt_old hb (by decide : (12 : Nat) ≠ 13))).2⟩, fun hb => h817 (bt_old hb (by decide : (17 : Nat) ≠ 13)), ?_⟩
        rw [bt_ne (d := ds) (j := 13) (i := 8) (by decide), bt_self (d := ds) (j := 13), bt_ne (d := ds) (j := 13) (i := 14) (by decide), bt_ne (d := ds) (j := 13) (i := 15) (by decide), bt_ne (d := ds) (j := 13) (i := 16) (by decide)]
        rw [hu] at hT; exact hT.alloc0 ((Kept.ownL _ _).and (Kept.ownL _ _)) hE.size
      · obtain rfl := Option.some.inj hoj
        clear hall
        refine wpOp_step rfl fun K' hK' => ?_
        have hK := Lib.hid hK'
        clear hK'
        rw [if_pos (by rfl)]
        try simp only [Act.put]
        go_simp
        refine hK.out _ _ ⟨v46, v48, v50, v52, v53, v44, v54, v55, v56, v10, (.pointer (some ⟨w'.heap.size, 0, none⟩)), v12, C0, n0, C1, n1, lo, hi, D, w'.heap.size, by go_simp, ⟨bt_keep hd0, bt_keep hd2, bt_keep hd4, bt_keep hd6⟩, hE.alloc _, fun hb hn => let ⟨D', k', e, h⟩ := hc1 (bt_old hb (by decide : (1 : Nat) ≠ 14)) (bt_no hn); ⟨D', k', e, h.ex (Ex.new _ _)⟩, fun hb hn => let ⟨D', k', e, h⟩ := hc3 (bt_old hb (by decide : (3 : Nat) ≠ 14)) (bt_no hn); ⟨D', k', e, h.ex (Ex.new _ _)⟩, fun hb hn => let ⟨D', k', e, h⟩ := hc5 (bt_old hb (by decide : (5 : Nat) ≠ 14)) (bt_no hn); ⟨D', k', e, h.ex (Ex.new _ _)⟩, fun hb hn => let ⟨D', k', e, h⟩ := hc7 (bt_old hb (by decide : (7 : Nat) ≠ 14)) (bt_no hn); ⟨D', k', e, h.ex (Ex.new _ _)⟩, fun hb => h5 (bt_old hb (by decide : (8 : Nat) ≠ 14)), fun hb => ⟨bt_keep (h6 (bt_old hb (by decide : (9 : Nat) ≠ 14))).1, (h6 (bt_old hb (by decide : (9 : Nat) ≠ 14))).2⟩, fun hb => ⟨bt_keep (h710 (bt_old hb (by decide : (10 : Nat) ≠ 14))).1, (h710 (bt_old hb (by decide : (10 : Nat) ≠ 14))).2⟩, fun hb => ⟨bt_keep (h711 (bt_old hb (by decide : (11 : Nat) ≠ 14))).1, (h711 (bt_old hb (by decide : (11 : Nat) ≠ 14))).2⟩, fun hb => ⟨bt_keep (h712 (bt_old hb (by decide : (12 : Nat) ≠ 14))).1, (h712 (bt_old hb (by decide : (12 : Nat) ≠ 14))).2⟩, fun hb => h817 (bt_old hb (by decide : (17 : Nat) ≠ 14)), ?_⟩
        rw [bt_ne (d := ds) (j := 14) (i := 8) (by decide), bt_ne (d := ds) (j := 14) (i := 13) (by decide), bt_self (d := ds) (j := 14), bt_ne (d := ds) (j := 14) (i := 15) (by decide), bt_ne (d := ds) (j := 14) (i := 16) (by decide)]
        rw [hu] at hT; exact hT.alloc1 ((Kept.ownL _ _).and (Kept.ownL _ _)) hE.size
      · obtain rfl := Option.some.inj hoj
        obtain ⟨hcall, rfl⟩ := h710 (hall ⟨10, .data⟩ (by simp) rfl)
        have hal := (hall ⟨13, .data⟩ (by simp) rfl)
        obtain ⟨rfl, hDl, hDH, -⟩ := hT.box0 hal
        rw [hu] at hDH
        have hDD : Has w' D 38 #[.int .i64 0, .slice none 0 0] := hDH
        clear hDH
        have k0 := hDD.cell 0
        have f0 := hDD.free 0
        have k1 := hDD.cell 1
        have f1 := hDD.free 1
        clear hall
        refine wpOp_step rfl fun K' hK' => ?_
        have hK := Lib.hid hK'
        clear hK'
        rw [if_pos (by rfl)]
        try simp only [Act.put]
        go_simp
        refine hK.out _ _ ⟨v46, v48, v50, v52, v53, v44, (.agg #[.int .i64 q0, .slice C0 y0.length n0]), v55, v56, (.pointer (some ⟨D, 0, none⟩)), v11, v12, C0, n0, C1, n1, lo, hi, D, E, by go_simp, ⟨bt_keep hd0, bt_keep hd2, bt_keep hd4, bt_keep hd6⟩, ((hE.setCell (p := ⟨D, 0, none⟩) hDl _).setCell (p := ⟨D, 1, none⟩) hDl _), fun _ hn => absurd hn (by rw [bt_keep hcall]; decide), fun _ hn => absurd hn (by rw [bt_keep hcall]; decide), fun _ hn => absurd hn (by rw [bt_keep hcall]; decide), fun _ hn => absurd hn (by rw [bt_keep hcall]; decide), fun hb => h5 (bt_old hb (by decide : (8 : Nat) ≠ 15)), fun hb => ⟨bt_keep (h6 (bt_old hb (by decide : (9 : Nat) ≠ 15))).1, (h6 (bt_old hb (by decide : (9 : Nat) ≠ 15))).2⟩, fun _ => ⟨bt_keep hcall, rfl⟩, fun hb => ⟨bt_keep (h711 (bt_old hb (by decide : (11 : Nat) ≠ 15))).1, (h711 (bt_old hb (by decide : (11 : Nat) ≠ 15))).2⟩, fun hb => ⟨bt_keep (h712 (bt_old hb (by decide : (12 : Nat) ≠ 15))).1, (h712 (bt_old hb (by decide : (12 : Nat) ≠ 15))).2⟩, fun hb => h817 (bt_old hb (by decide : (17 : Nat) ≠ 15)), ?_⟩
        rw [bt_ne (d := ds) (j := 15) (i := 8) (by decide), bt_ne (d := ds) (j := 15) (i := 13) (by decide), bt_ne (d := ds) (j := 15) (i := 14) (by decide), bt_self (d := ds) (j := 15), bt_ne (d := ds) (j := 15) (i := 16) (by decide)]
        rw [hcall, hal] at hT ⊢; exact hT.store0 ((Kept.ownL _ _).and (Kept.ownL _ _)) ((Only.set _ D 0 _).trans (Only.set _ D 1 _) (Nat.le_refl _) (Nat.le_refl _)) hDD.put2
      · obtain rfl := Option.some.inj hoj
        obtain ⟨hcall, rfl⟩ := h711 (hall ⟨11, .data⟩ (by simp) rfl)
        have hal := (hall ⟨14, .data⟩ (by simp) rfl)
        obtain ⟨rfl, hDl, hDH, -⟩ := hT.box1 hal
        rw [hu] at hDH
        have hDD : Has w' E 33 #[.int .i64 0, .slice none 0 0] := hDH
        clear hDH
        have k0 := hDD.cell 0
        have f0 := hDD.free 0
        have k1 := hDD.cell 1
        have f1 := hDD.free 1
        clear hall
        refine wpOp_step rfl fun K' hK' => ?_
        have hK := Lib.hid hK'
        clear hK'
        rw [if_pos (by rfl)]
        try simp only [Act.put]
        go_simp
        refine hK.out _ _ ⟨v46, v48, v50, v52, v53, v44, v54, (.agg #[.int .i64 q1, .slice C1 y1.length n1]), v56, v10, (.pointer (some ⟨E, 0, none⟩)), v12, C0, n0, C1, n1, lo, hi, D, E, by go_simp, ⟨bt_keep hd0, bt_keep hd2, bt_keep hd4, bt_keep hd6⟩, ((hE.setCell (p := ⟨E, 0, none⟩) hDl _).setCell (p := ⟨E, 1, none⟩) hDl _), fun _ hn => absurd hn (by rw [bt_keep hcall]; decide), fun _ hn => absurd hn (by rw [bt_keep hcall]; decide), fun _ hn => absurd hn (by rw [bt_keep hcall]; decide), fun _ hn => absurd hn (by rw [bt_keep hcall]; decide), fun hb => h5 (bt_old hb (by decide : (8 : Nat) ≠ 16)), fun hb => ⟨bt_keep (h6 (bt_old hb (by decide : (9 : Nat) ≠ 16))).1, (h6 (bt_old hb (by decide : (9 : Nat) ≠ 16))).2⟩, fun hb => ⟨bt_keep (h710 (bt_old hb (by decide : (10 : Nat) ≠ 16))).1, (h710 (bt_old hb (by decide : (10 : Nat) ≠ 16))).2⟩, fun _ => ⟨bt_keep hcall, rfl⟩, fun hb => ⟨bt_keep (h712 (bt_old hb (by decide : (12 : Nat) ≠ 16))).1, (h712 (bt_old hb (by decide : (12 : Nat) ≠ 16))).2⟩, fun hb => h817 (bt_old hb (by decide : (17 : Nat) ≠ 16)), ?_⟩
        rw [bt_ne (d := ds) (j := 16) (i := 8) (by decide), bt_ne (d := ds) (j := 16) (i := 13) (by decide), bt_ne (d := ds) (j := 16) (i := 14) (by decide), bt_ne (d := ds) (j := 16) (i := 15) (by decide), bt_self (d := ds) (j := 16)]
        rw [hcall, hal] at hT ⊢; exact hT.store1 ((Kept.ownL _ _).and (Kept.ownL _ _)) ((Only.set _ E 0 _).trans (Only.set _ E 1 _) (Nat.le_refl _) (Nat.le_refl _)) hDD.put2
      · obtain rfl := Option.some.inj hoj
        obtain ⟨hcall, rfl⟩ := h712 (hall ⟨12, .data⟩ (by simp) rfl)
        clear hall
        refine wpOp_step rfl fun K' hK' => ?_
        have hK := Lib.hid hK'
        clear hK'
        rw [if_pos (by rfl)]
        try simp only [Act.put]
        go_simp
        refine hK.out _ _ ⟨v46, v48, v50, v52, v53, v44, v54, v55, (.int .i64 q2), v10, v11, (.int .i64 q2), C0, n0, C1, n1, lo, hi, D, E, by go_simp, ⟨bt_keep hd0, bt_keep hd2, bt_keep hd4, bt_keep hd6⟩, hE, fun hb hn => hc1 (bt_old hb (by decide : (1 : Nat) ≠ 17)) (bt_no hn), fun hb hn => hc3 (bt_old hb (by decide : (3 : Nat) ≠ 17)) (bt_no hn), fun hb hn => hc5 (bt_old hb (by decide : (5 : Nat) ≠ 17)) (bt_no hn), fun hb hn => hc7 (bt_old hb (by decide : (7 : Nat) ≠ 17)) (bt_no hn), fun hb => h5 (bt_old hb (by decide : (8 : Nat) ≠ 17)), fun hb => ⟨bt_keep (h6 (bt_old hb (by decide : (9 : Nat) ≠ 17))).1, (h6 (bt_old hb (by decide : (9 : Nat) ≠ 17))).2⟩, fun hb => ⟨bt_keep (h710 (bt_old hb (by decide : (10 : Nat) ≠ 17))).1, (h710 (bt_old hb (by decide : (10 : Nat) ≠ 17))).2⟩, fun hb => ⟨bt_keep (h711 (bt_old hb (by decide : (11 : Nat) ≠ 17))).1, (h711 (bt_old hb (by decide : (11 : Nat) ≠ 17))).2⟩, fun _ => ⟨bt_keep hcall, rfl⟩, fun _ => rfl, ?_⟩
        rw [bt_ne (d := ds) (j := 17) (i := 8) (by decide), bt_ne (d := ds) (j := 17) (i := 13) (by decide), bt_ne (d := ds) (j := 17) (i := 14) (by decide), bt_ne (d := ds) (j := 17) (i := 15) (by decide), bt_ne (d := ds) (j := 17) (i := 16) (by decide)]
        exact hT
  obtain ⟨Us, rfl⟩ : ∃ x : World, x = wc := ⟨_, rfl⟩
  obtain ⟨bbs0, Cs0, ns0, bbs1, Cs1, ns1, rfl, rfl, rfl, hfs, hbxs0, hbxs1, hos0, hos1⟩ := hcut
  have HOs0 := Lib.hid hos0
  clear hos0
  have HOs1 := Lib.hid hos1
  clear hos1
  clear HKs ED
  have HXs0 := Lib.hid hbxs0
  have HXs1 := Lib.hid hbxs1
  clear hbxs0 hbxs1
  have EW := Lib.hid (EW.out.trans hfs)
  have EA := Lib.hid (EA.out.trans hfs)
  clear hfs
  have ES := Lib.hid (Ex.refl Us)
  have cb0 := (HB0.out.ex EA.out).cell 0
  go_wp2_with fail
  have hzw := EW.out.size
  have hzl0 := EA.out.size
  have hzs0 := ES.out.size
  refine (toGroup_ex A0 t0 c0 Us (HR0.out.ex EA.out) HX0.out).mono ?_
  rintro e W4 ⟨D0, k0, rfl, hv, hd⟩
  have hz0 := hv.size
  clear cb0
  have hbx : Has (W4.alloc (.cells #[.slice D0 t0.length k0] 36)) W4.heap.size 36 #[.slice D0 t0.length k0] := Has.new W4 36 #[.slice D0 t0.length k0]
  have hv1 : Ex W4 (W4.alloc (.cells #[.slice D0 t0.length k0] 36)) := Ex.new _ _
  have hv2 : Ex Us (W4.alloc (.cells #[.slice D0 t0.length k0] 36)) := hv.trans hv1
  have HD0 := Lib.hid (hd.ex hv1)
  have HBX0 := Lib.hid hbx
  have hzb0 := hbx.lt
  clear hd hbx hv1 hv
  go_wp2_with fail
  generalize (W4.alloc (.cells #[.slice D0 t0.length k0] 36)) = W5 at *
  have EW := Lib.hid (EW.out.trans hv2)
  have EA := Lib.hid (EA.out.trans hv2)
  have ES := Lib.hid (ES.out.trans hv2)
  clear hv2
  have EX0 := Lib.hid (Ex.refl W5)
  have hzl1 := EA.out.size
  have hzs1 := ES.out.size
  refine (toInt64S_ex A1 t1 c1 W5 (HR1.out.ex EA.out) HX1.out).mono ?_
  rintro e W6 ⟨D1, k1, rfl, hv, hd⟩
  have hz1 := hv.size
  have HD1 := Lib.hid hd
  clear hd
  have EW := Lib.hid (EW.out.trans hv)
  have EA := Lib.hid (EA.out.trans hv)
  have ES := Lib.hid (ES.out.trans hv)
  have EX0 := Lib.hid (EX0.out.trans hv)
  clear hv
  have EX1 := Lib.hid (Ex.refl W6)
  have cb2 := (HB2.out.ex EA.out).cell 0
  have cb2' := (HB2.out.ex EA.out).cell 1
  go_wp2_with fail
  have hzl2 := EA.out.size
  have hzs2 := ES.out.size
  refine (toModule_ex A2 m2 t2 c2 W6 (HR2.out.ex EA.out) HX2.out).mono ?_
  rintro e W7 ⟨D2, k2, rfl, hv, hd⟩
  have hz2 := hv.size
  clear cb2 cb2'
  have hbx : Has (W7.alloc (.cells #[.int .i64 m2, .slice D2 t2.length k2] 38)) W7.heap.size 38 #[.int .i64 m2, .slice D2 t2.length k2] := Has.new W7 38 #[.int .i64 m2, .slice D2 t2.length k2]
  have hv1 : Ex W7 (W7.alloc (.cells #[.int .i64 m2, .slice D2 t2.length k2] 38)) := Ex.new _ _
  have hv2 : Ex W6 (W7.alloc (.cells #[.int .i64 m2, .slice D2 t2.length k2] 38)) := hv.trans hv1
  have cb3 := (HB3.out.ex (EA.out.trans hv2)).cell 0
  have cb3' := (HB3.out.ex (EA.out.trans hv2)).cell 1
  have HD2 := Lib.hid (hd.ex hv1)
  have HBX2 := Lib.hid hbx
  have hzb2 := hbx.lt
  clear hd hbx hv1 hv
  go_wp2_with fail
  generalize (W7.alloc (.cells #[.int .i64 m2, .slice D2 t2.length k2] 38)) = W8 at *
  have EW := Lib.hid (EW.out.trans hv2)
  have EA := Lib.hid (EA.out.trans hv2)
  have ES := Lib.hid (ES.out.trans hv2)
  have EX0 := Lib.hid (EX0.out.trans hv2)
  have EX1 := Lib.hid (EX1.out.trans hv2)
  clear hv2
  have EX2 := Lib.hid (Ex.refl W8)
  have hzl3 := EA.out.size
  have hzs3 := ES.out.size
  refine (toCochain_ex A3 m3 t3 c3 W8 (HR3.out.ex EA.out) HX3.out).mono ?_
  rintro e W9 ⟨D3, k3, rfl, hv, hd⟩
  have hz3 := hv.size
  clear cb3 cb3'
  have hbx : Has (W9.alloc (.cells #[.int .i64 m3, .slice D3 t3.length k3] 33)) W9.heap.size 33 #[.int .i64 m3, .slice D3 t3.length k3] := Has.new W9 33 #[.int .i64 m3, .slice D3 t3.length k3]
  have hv1 : Ex W9 (W9.alloc (.cells #[.int .i64 m3, .slice D3 t3.length k3] 33)) := Ex.new _ _
  have hv2 : Ex W8 (W9.alloc (.cells #[.int .i64 m3, .slice D3 t3.length k3] 33)) := hv.trans hv1
  have cx0 := (HBX0.out.ex (EX0.out.trans hv2)).cell 0
  have cx2 := (HBX2.out.ex (EX2.out.trans hv2)).cell 0
  have cx2' := (HBX2.out.ex (EX2.out.trans hv2)).cell 1
  have cx3 := hbx.cell 0
  have cx3' := hbx.cell 1
  have HD3 := Lib.hid (hd.ex hv1)
  have HBX3 := Lib.hid hbx
  have hzb3 := hbx.lt
  clear hd hbx hv1 hv
  go_wp2_with fail
  generalize (W9.alloc (.cells #[.int .i64 m3, .slice D3 t3.length k3] 33)) = W10 at *
  have EW := Lib.hid (EW.out.trans hv2)
  have EA := Lib.hid (EA.out.trans hv2)
  have ES := Lib.hid (ES.out.trans hv2)
  have EX0 := Lib.hid (EX0.out.trans hv2)
  have EX1 := Lib.hid (EX1.out.trans hv2)
  have EX2 := Lib.hid (EX2.out.trans hv2)
  clear hv2
  have EX3 := Lib.hid (Ex.refl W10)
  refine (HI.out D0 k0 D1 k1 D2 k2 D3 k3 W10 (HD0.out.rws.ex EX0.out) (HD1.out.ints.ex EX1.out) (HD2.out.ints.ex EX2.out) (HD3.out.ints.ex EX3.out) HX0.out HX1.out HX2.out HX3.out (HTL.out.ex (EW.out))).mono ?_
  rintro e Ug ⟨Cg0, ng0, Cg1, ng1, midg, rfl, heg, hm1g, hm2g, hog0, hog1⟩
  have HOg0 := Lib.hid hog0
  clear hog0
  have HOg1 := Lib.hid hog1
  clear hog1
  have hfg : Ex W10 Ug := heg
  have hzg := heg.size
  clear heg cx0 cx2 cx2' cx3 cx3'
  have hq2 : (q2 != q2) = false := by simp
  have hbxg0 : Has ((Ug.alloc (.cells #[.int .i64 q0, .slice Cg0 y0.length ng0] 38)).alloc (.cells #[.int .i64 q1, .slice Cg1 y1.length ng1] 33)) (Ug.heap.size) 38 #[.int .i64 q0, .slice Cg0 y0.length ng0] := ((Has.newAt (w := Ug) (e := 38) (cs := #[.int .i64 q0, .slice Cg0 y0.length ng0]) (k := Ug.heap.size) (by simp)).alloc _)
  have hbxg1 : Has ((Ug.alloc (.cells #[.int .i64 q0, .slice Cg0 y0.length ng0] 38)).alloc (.cells #[.int .i64 q1, .slice Cg1 y1.length ng1] 33)) (Ug.heap.size + 1) 33 #[.int .i64 q1, .slice Cg1 y1.length ng1] := (Has.newAt (w := (Ug.alloc (.cells #[.int .i64 q0, .slice Cg0 y0.length ng0] 38))) (e := 33) (cs := #[.int .i64 q1, .slice Cg1 y1.length ng1]) (k := Ug.heap.size + 1) (by simp))
  have hfbg : Ex W10 ((Ug.alloc (.cells #[.int .i64 q0, .slice Cg0 y0.length ng0] 38)).alloc (.cells #[.int .i64 q1, .slice Cg1 y1.length ng1] 33)) := ((hfg).alloc _).alloc _
  have hfug : Ex Ug ((Ug.alloc (.cells #[.int .i64 q0, .slice Cg0 y0.length ng0] 38)).alloc (.cells #[.int .i64 q1, .slice Cg1 y1.length ng1] 33)) := ((Ex.refl _).alloc _).alloc _
  have crg0 := hbxg0.cell 0
  have crg0' := hbxg0.cell 1
  have crs0 := (HXs0.out.ex (ES.out.trans hfbg)).cell 0
  have crs0' := (HXs0.out.ex (ES.out.trans hfbg)).cell 1
  have crg1 := hbxg1.cell 0
  have crg1' := hbxg1.cell 1
  have crs1 := (HXs1.out.ex (ES.out.trans hfbg)).cell 0
  have crs1' := (HXs1.out.ex (ES.out.trans hfbg)).cell 1
  go_wp2_with fail
  generalize ((Ug.alloc (.cells #[.int .i64 q0, .slice Cg0 y0.length ng0] 38)).alloc (.cells #[.int .i64 q1, .slice Cg1 y1.length ng1] 33)) = W11 at *
  have HXg0 := Lib.hid hbxg0
  have HXg1 := Lib.hid hbxg1
  clear hbxg0 hbxg1
  have HOg0 := Lib.hid (HOg0.out.ex hfug)
  have HOg1 := Lib.hid (HOg1.out.ex hfug)
  have hzug := hfug.size
  have EW := Lib.hid (EW.out.trans hfbg)
  have EA := Lib.hid (EA.out.trans hfbg)
  have ES := Lib.hid (ES.out.trans hfbg)
  have EX0 := Lib.hid (EX0.out.trans hfbg)
  have EX1 := Lib.hid (EX1.out.trans hfbg)
  have EX2 := Lib.hid (EX2.out.trans hfbg)
  have EX3 := Lib.hid (EX3.out.trans hfbg)
  clear hfbg hfug hfg
  have EG := Lib.hid (Ex.refl W11)
  clear crg0 crg0' crg1 crg1'
  clear crs0 crs0' crs1 crs1'
  refine (eqModule_ex Cg0 Cs0 q0 y0 ng0 ns0 W11 (HOg0.out.ints.ex EG.out) (HOs0.out.ex ES.out) HY0.out).mono ?_
  rintro e W12 ⟨rfl, he⟩
  have EW := Lib.hid (EW.out.trans he)
  have EA := Lib.hid (EA.out.trans he)
  have ES := Lib.hid (ES.out.trans he)
  have EX0 := Lib.hid (EX0.out.trans he)
  have EX1 := Lib.hid (EX1.out.trans he)
  have EX2 := Lib.hid (EX2.out.trans he)
  have EX3 := Lib.hid (EX3.out.trans he)
  have EG := Lib.hid (EG.out.trans he)
  clear he
  have crg1 := (HXg1.out.ex EG.out).cell 0
  have crg1' := (HXg1.out.ex EG.out).cell 1
  have crs1 := (HXs1.out.ex ES.out).cell 0
  have crs1' := (HXs1.out.ex ES.out).cell 1
  go_wp2_with fail
  clear crg1 crg1' crs1 crs1'
  refine (eqCochain_ex Cg1 Cs1 q1 y1 ng1 ns1 W12 (HOg1.out.ints.ex EG.out) (HOs1.out.ex ES.out) HY1.out).mono ?_
  rintro e W13 ⟨rfl, he⟩
  have EW := Lib.hid (EW.out.trans he)
  have EA := Lib.hid (EA.out.trans he)
  have ES := Lib.hid (ES.out.trans he)
  have EX0 := Lib.hid (EX0.out.trans he)
  have EX1 := Lib.hid (EX1.out.trans he)
  have EX2 := Lib.hid (EX2.out.trans he)
  have EX3 := Lib.hid (EX3.out.trans he)
  have EG := Lib.hid (EG.out.trans he)
  clear he
  have HK := Lib.hid (fun (W' : World) (hb : Ex W13.drew W') => (⟨(HB0.out.ex (EA.out.drew.trans hb)).cell 0, (HBX0.out.ex (EX0.out.drew.trans hb)).cell 0⟩ : (fun w' : World => w'.cell? ⟨w.heap.size, 0, none⟩ = some (.slice A0 t0.length c0) ∧ w'.cell? ⟨W4.heap.size, 0, none⟩ = some (.slice D0 t0.length k0)) W'))
  have ED := Lib.hid EA.out.drew
  have EDX := Lib.hid EX0.out.drew
  go_wp2_with fail
  go_region_held3 (fun w' : World => w'.cell? ⟨w.heap.size, 0, none⟩ = some (.slice A0 t0.length c0) ∧ w'.cell? ⟨W4.heap.size, 0, none⟩ = some (.slice D0 t0.length k0))
    (first
      | exact HK.out _ (Ex.refl _)
      | exact HK.out _ hv
      | exact HK.out _ ht)
    (first
      | (go_at_call 11; refine (toGroup_ex A0 t0 c0 W13.drew (HR0.out.ex ED.out) HX0.out).mono ?_; rintro e Va ⟨Da, ka, rfl, hv, hd⟩; have HDa := Lib.hid hd; clear hd)
      | (go_at_call 17; refine (eqGroup_ex D0 Da t0 k0 ka Va (HD0.out.rws.ex (EDX.out.trans hv)) HDa.out.rws HX0.out).mono ?_; rintro e Vb ⟨rfl, he⟩; have ht : Ex W13.drew Vb := hv.trans he))
  have hu : Ex W13 Vb := (Ex.refl W13).drew.trans ht
  clear HK ED EDX hv ht he HDa
  generalize Vb = W14 at *
  have EW := Lib.hid (EW.out.trans hu)
  have EA := Lib.hid (EA.out.trans hu)
  have ES := Lib.hid (ES.out.trans hu)
  have EX0 := Lib.hid (EX0.out.trans hu)
  have EX1 := Lib.hid (EX1.out.trans hu)
  have EX2 := Lib.hid (EX2.out.trans hu)
  have EX3 := Lib.hid (EX3.out.trans hu)
  have EG := Lib.hid (EG.out.trans hu)
  clear hu
  go_wp2_with fail
  refine (toInt64S_ex A1 t1 c1 W14 (HR1.out.ex EA.out) HX1.out).mono ?_
  rintro e W15 ⟨Da, ka, rfl, hv, hd⟩
  have HDa := Lib.hid hd
  clear hd
  have EW := Lib.hid (EW.out.trans hv)
  have EA := Lib.hid (EA.out.trans hv)
  have ES := Lib.hid (ES.out.trans hv)
  have EX0 := Lib.hid (EX0.out.trans hv)
  have EX1 := Lib.hid (EX1.out.trans hv)
  have EX2 := Lib.hid (EX2.out.trans hv)
  have EX3 := Lib.hid (EX3.out.trans hv)
  have EG := Lib.hid (EG.out.trans hv)
  clear hv
  go_wp2_with fail
  refine (eqInt64S_ex D1 Da t1 k1 ka W15 (HD1.out.ints.ex EX1.out) HDa.out.ints HX1.out).mono ?_
  rintro e W16 ⟨rfl, he⟩
  clear HDa
  have EW := Lib.hid (EW.out.trans he)
  have EA := Lib.hid (EA.out.trans he)
  have ES := Lib.hid (ES.out.trans he)
  have EX0 := Lib.hid (EX0.out.trans he)
  have EX1 := Lib.hid (EX1.out.trans he)
  have EX2 := Lib.hid (EX2.out.trans he)
  have EX3 := Lib.hid (EX3.out.trans he)
  have EG := Lib.hid (EG.out.trans he)
  clear he
  have HK := Lib.hid (fun (W' : World) (hb : Ex W16.drew W') => (⟨(HB2.out.ex (EA.out.drew.trans hb)).cell 0, (HB2.out.ex (EA.out.drew.trans hb)).cell 1, (HBX2.out.ex (EX2.out.drew.trans hb)).cell 0, (HBX2.out.ex (EX2.out.drew.trans hb)).cell 1⟩ : (fun w' : World => w'.cell? ⟨w.heap.size + 1, 0, none⟩ = some (.int .i64 m2) ∧ w'.cell? ⟨w.heap.size + 1, 1, none⟩ = some (.slice A2 t2.length c2) ∧ w'.cell? ⟨W7.heap.size, 0, none⟩ = some (.int .i64 m2) ∧ w'.cell? ⟨W7.heap.size, 1, none⟩ = some (.slice D2 t2.length k2)) W'))
  have ED := Lib.hid EA.out.drew
  have EDX := Lib.hid EX2.out.drew
  go_wp2_with fail
  go_region_held3 (fun w' : World => w'.cell? ⟨w.heap.size + 1, 0, none⟩ = some (.int .i64 m2) ∧ w'.cell? ⟨w.heap.size + 1, 1, none⟩ = some (.slice A2 t2.length c2) ∧ w'.cell? ⟨W7.heap.size, 0, none⟩ = some (.int .i64 m2) ∧ w'.cell? ⟨W7.heap.size, 1, none⟩ = some (.slice D2 t2.length k2))
    (first
      | exact HK.out _ (Ex.refl _)
      | exact HK.out _ hv
      | exact HK.out _ ht)
    (first
      | (go_at_call 12; refine (toModule_ex A2 m2 t2 c2 W16.drew (HR2.out.ex ED.out) HX2.out).mono ?_; rintro e Va ⟨Da, ka, rfl, hv, hd⟩; have HDa := Lib.hid hd; clear hd)
      | (go_at_call 18; refine (eqModule_ex D2 Da m2 t2 k2 ka Va (HD2.out.ints.ex (EDX.out.trans hv)) HDa.out.ints HX2.out).mono ?_; rintro e Vb ⟨rfl, he⟩; have ht : Ex W16.drew Vb := hv.trans he))
  have hu : Ex W16 Vb := (Ex.refl W16).drew.trans ht
  clear HK ED EDX hv ht he HDa
  generalize Vb = W17 at *
  have EW := Lib.hid (EW.out.trans hu)
  have EA := Lib.hid (EA.out.trans hu)
  have ES := Lib.hid (ES.out.trans hu)
  have EX0 := Lib.hid (EX0.out.trans hu)
  have EX1 := Lib.hid (EX1.out.trans hu)
  have EX2 := Lib.hid (EX2.out.trans hu)
  have EX3 := Lib.hid (EX3.out.trans hu)
  have EG := Lib.hid (EG.out.trans hu)
  clear hu
  have HK := Lib.hid (fun (W' : World) (hb : Ex W17.drew W') => (⟨(HB3.out.ex (EA.out.drew.trans hb)).cell 0, (HB3.out.ex (EA.out.drew.trans hb)).cell 1, (HBX3.out.ex (EX3.out.drew.trans hb)).cell 0, (HBX3.out.ex (EX3.out.drew.trans hb)).cell 1⟩ : (fun w' : World => w'.cell? ⟨w.heap.size + 1 + 1, 0, none⟩ = some (.int .i64 m3) ∧ w'.cell? ⟨w.heap.size + 1 + 1, 1, none⟩ = some (.slice A3 t3.length c3) ∧ w'.cell? ⟨W9.heap.size, 0, none⟩ = some (.int .i64 m3) ∧ w'.cell? ⟨W9.heap.size, 1, none⟩ = some (.slice D3 t3.length k3)) W'))
  have ED := Lib.hid EA.out.drew
  have EDX := Lib.hid EX3.out.drew
  go_wp2_with fail
  go_region_held3 (fun w' : World => w'.cell? ⟨w.heap.size + 1 + 1, 0, none⟩ = some (.int .i64 m3) ∧ w'.cell? ⟨w.heap.size + 1 + 1, 1, none⟩ = some (.slice A3 t3.length c3) ∧ w'.cell? ⟨W9.heap.size, 0, none⟩ = some (.int .i64 m3) ∧ w'.cell? ⟨W9.heap.size, 1, none⟩ = some (.slice D3 t3.length k3))
    (first
      | exact HK.out _ (Ex.refl _)
      | exact HK.out _ hv
      | exact HK.out _ ht)
    (first
      | (go_at_call 14; refine (toCochain_ex A3 m3 t3 c3 W17.drew (HR3.out.ex ED.out) HX3.out).mono ?_; rintro e Va ⟨Da, ka, rfl, hv, hd⟩; have HDa := Lib.hid hd; clear hd)
      | (go_at_call 16; refine (eqCochain_ex D3 Da m3 t3 k3 ka Va (HD3.out.ints.ex (EDX.out.trans hv)) HDa.out.ints HX3.out).mono ?_; rintro e Vb ⟨rfl, he⟩; have ht : Ex W17.drew Vb := hv.trans he))
  have hu : Ex W17 Vb := (Ex.refl W17).drew.trans ht
  clear HK ED EDX hv ht he HDa
  generalize Vb = W18 at *
  have EW := Lib.hid (EW.out.trans hu)
  have EA := Lib.hid (EA.out.trans hu)
  have ES := Lib.hid (ES.out.trans hu)
  have EX0 := Lib.hid (EX0.out.trans hu)
  have EX1 := Lib.hid (EX1.out.trans hu)
  have EX2 := Lib.hid (EX2.out.trans hu)
  have EX3 := Lib.hid (EX3.out.trans hu)
  have EG := Lib.hid (EG.out.trans hu)
  clear hu
  -- marks in the copies
  have hzsz := ES.out.size
  have cx0 := (HBX0.out.ex EX0.out).cell 0
  have HBX0 := Lib.hid (HBX0.out.ex EX0.out)
  have HD0 := Lib.hid (HD0.out.ex EX0.out)
  have HD1 := Lib.hid (HD1.out.ex EX1.out)
  have HBX2 := Lib.hid (HBX2.out.ex EX2.out)
  have HD2 := Lib.hid (HD2.out.ex EX2.out)
  have HBX3 := Lib.hid (HBX3.out.ex EX3.out)
  have HD3 := Lib.hid (HD3.out.ex EX3.out)
  have HOg0 := Lib.hid (HOg0.out.ex EG.out)
  have HOg1 := Lib.hid (HOg1.out.ex EG.out)
  have HXg0 := Lib.hid (HXg0.out.ex EG.out)
  have HXg1 := Lib.hid (HXg1.out.ex EG.out)
  have hzgc := EG.out.size
  clear EG EX0 EX1 EX2 EX3
  go_wp2_with fail
  have hcn0 : cntT t0 ≤ 1099511627776 := HX0.out.cnt
  refine (markGroup_ex D0 t0 k0 1 Us.heap.size W4.heap.size W18 HD0.out HX0.out (by omega) (by omega)).mono ?_
  rintro e W19 ⟨rfl, ho, _⟩
  have HD1 := Lib.hid (HD1.out.above ho (by omega))
  have HBX2 := Lib.hid (HBX2.out.above ho (by omega))
  have HD2 := Lib.hid (HD2.out.above ho (by omega))
  have HBX3 := Lib.hid (HBX3.out.above ho (by omega))
  have HD3 := Lib.hid (HD3.out.above ho (by omega))
  have HOg0 := Lib.hid (HOg0.out.above ho (by omega))
  have HOg1 := Lib.hid (HOg1.out.above ho (by omega))
  have HXg0 := Lib.hid (HXg0.out.above ho (by omega))
  have HXg1 := Lib.hid (HXg1.out.above ho (by omega))
  have hzm0 := ho.size
  have EW := Lib.hid (EW.out.only ho (by omega))
  have EA := Lib.hid (EA.out.only ho (by omega))
  have ES := Lib.hid (ES.out.only ho (by omega))
  obtain ⟨kn0, hkn0⟩ : ∃ kn : Nat, 1 + cntT t0 = kn := ⟨_, rfl⟩
  rw [hkn0]
  have hkl0 : kn0 ≤ 1099511627777 := by omega
  clear hkn0 ho cx0
  go_wp2_with fail
  have hcn1 : t1.length ≤ 1099511627776 := (by have := HX1.out; omega)
  refine (markInt64S_ex D1 t1 k1 kn0 W5.heap.size W6.heap.size W19 HD1.out HX1.out (by omega)).mono ?_
  rintro e W20 ⟨rfl, ho, _⟩
  have HBX2 := Lib.hid (HBX2.out.above ho (by omega))
  have HD2 := Lib.hid (HD2.out.above ho (by omega))
  have HBX3 := Lib.hid (HBX3.out.above ho (by omega))
  have HD3 := Lib.hid (HD3.out.above ho (by omega))
  have HOg0 := Lib.hid (HOg0.out.above ho (by omega))
  have HOg1 := Lib.hid (HOg1.out.above ho (by omega))
  have HXg0 := Lib.hid (HXg0.out.above ho (by omega))
  have HXg1 := Lib.hid (HXg1.out.above ho (by omega))
  have hzm1 := ho.size
  have EW := Lib.hid (EW.out.only ho (by omega))
  have EA := Lib.hid (EA.out.only ho (by omega))
  have ES := Lib.hid (ES.out.only ho (by omega))
  obtain ⟨kn1, hkn1⟩ : ∃ kn : Nat, kn0 + t1.length = kn := ⟨_, rfl⟩
  rw [hkn1]
  have hkl1 : kn1 ≤ 2199023255553 := by omega
  clear hkn1 ho
  have cx2 := HBX2.out.cell 0
  have cx2' := HBX2.out.cell 1
  go_wp2_with fail
  have hcn2 : t2.length ≤ 1099511627776 := (by have := HX2.out; omega)
  refine (markModule_ex D2 m2 t2 k2 kn1 W6.heap.size W7.heap.size W20 HD2.out HX2.out (by omega) (by omega)).mono ?_
  rintro e W21 ⟨rfl, ho, _⟩
  have HBX3 := Lib.hid (HBX3.out.above ho (by omega))
  have HD3 := Lib.hid (HD3.out.above ho (by omega))
  have HOg0 := Lib.hid (HOg0.out.above ho (by omega))
  have HOg1 := Lib.hid (HOg1.out.above ho (by omega))
  have HXg0 := Lib.hid (HXg0.out.above ho (by omega))
  have HXg1 := Lib.hid (HXg1.out.above ho (by omega))
  have hzm2 := ho.size
  have EW := Lib.hid (EW.out.only ho (by omega))
  have EA := Lib.hid (EA.out.only ho (by omega))
  have ES := Lib.hid (ES.out.only ho (by omega))
  obtain ⟨kn2, hkn2⟩ : ∃ kn : Nat, kn1 + t2.length = kn := ⟨_, rfl⟩
  rw [hkn2]
  have hkl2 : kn2 ≤ 3298534883329 := by omega
  clear hkn2 ho cx2 cx2'
  have cx3 := HBX3.out.cell 0
  have cx3' := HBX3.out.cell 1
  go_wp2_with fail
  have hcn3 : t3.length ≤ 1099511627776 := (by have := HX3.out; omega)
  refine (markCochain_ex D3 m3 t3 k3 kn2 W8.heap.size W9.heap.size W21 HD3.out HX3.out (by omega) (by omega)).mono ?_
  rintro e W22 ⟨rfl, ho, _⟩
  have HOg0 := Lib.hid (HOg0.out.above ho (by omega))
  have HOg1 := Lib.hid (HOg1.out.above ho (by omega))
  have HXg0 := Lib.hid (HXg0.out.above ho (by omega))
  have HXg1 := Lib.hid (HXg1.out.above ho (by omega))
  have hzm3 := ho.size
  have EW := Lib.hid (EW.out.only ho (by omega))
  have EA := Lib.hid (EA.out.only ho (by omega))
  have ES := Lib.hid (ES.out.only ho (by omega))
  obtain ⟨kn3, hkn3⟩ : ∃ kn : Nat, kn2 + t3.length = kn := ⟨_, rfl⟩
  rw [hkn3]
  have hkl3 : kn3 ≤ 4398046511105 := by omega
  clear hkn3 ho cx3 cx3'
  obtain ⟨kz, hkz⟩ : ∃ kz : Int, (kn3 : Int) = kz := ⟨_, rfl⟩
  have hkd : decide (kz < 0) = false := by simp only [decide_eq_false_iff_not]; omega
  rw [hkz]
  clear hkz
  have EG := Lib.hid (Ex.refl W22)
  -- the results again
  have crg0 := (HXg0.out.ex EG.out).cell 0
  have crg0' := (HXg0.out.ex EG.out).cell 1
  have crs0 := (HXs0.out.ex ES.out).cell 0
  have crs0' := (HXs0.out.ex ES.out).cell 1
  go_wp2_with fail
  clear crg0 crg0' crs0 crs0'
  refine (eqModule_ex Cg0 Cs0 q0 y0 ng0 ns0 W22 (HOg0.out.ints.ex EG.out) (HOs0.out.ex ES.out) HY0.out).mono ?_
  rintro e W23 ⟨rfl, he⟩
  have EW := Lib.hid (EW.out.trans he)
  have EA := Lib.hid (EA.out.trans he)
  have ES := Lib.hid (ES.out.trans he)
  have EG := Lib.hid (EG.out.trans he)
  clear he
  have crg1 := (HXg1.out.ex EG.out).cell 0
  have crg1' := (HXg1.out.ex EG.out).cell 1
  have crs1 := (HXs1.out.ex ES.out).cell 0
  have crs1' := (HXs1.out.ex ES.out).cell 1
  go_wp2_with fail
  clear crg1 crg1' crs1 crs1'
  refine (eqCochain_ex Cg1 Cs1 q1 y1 ng1 ns1 W23 (HOg1.out.ints.ex EG.out) (HOs1.out.ex ES.out) HY1.out).mono ?_
  rintro e W24 ⟨rfl, he⟩
  have EW := Lib.hid (EW.out.trans he)
  have EA := Lib.hid (EA.out.trans he)
  have ES := Lib.hid (ES.out.trans he)
  have EG := Lib.hid (EG.out.trans he)
  clear he
  clear hkd
  -- marks in the result
  have HOg0 := Lib.hid (HOg0.out.ex EG.out)
  have HOg1 := Lib.hid (HOg1.out.ex EG.out)
  have HXg0 := Lib.hid (HXg0.out.ex EG.out)
  have HXg1 := Lib.hid (HXg1.out.ex EG.out)
  clear EG
  have crg0 := HXg0.out.cell 0
  have crg0' := HXg0.out.cell 1
  have crg1 := HXg1.out.cell 0
  have crg1' := HXg1.out.cell 1
  go_wp2_with fail
  clear crg0 crg0' crg1 crg1'
  have hcr0 : y0.length ≤ 1099511627776 := (by have := HY0.out; omega)
  have hgl := HOg0.out.le
  refine (markModule_ex Cg0 q0 y0 ng0 1 W10.heap.size midg W24 HOg0.out HY0.out (by omega) (by omega)).mono ?_
  rintro e W25 ⟨rfl, ho, hmk⟩
  have HM0 := Lib.hid hmk
  clear hmk hgl
  have HOg1 := Lib.hid (HOg1.out.above ho (by omega))
  have HXg0 := Lib.hid (HXg0.out.above ho (by omega))
  have HXg1 := Lib.hid (HXg1.out.above ho (by omega))
  have hzr0 := ho.size
  have EW := Lib.hid (EW.out.only ho (by omega))
  have EA := Lib.hid (EA.out.only ho (by omega))
  have ES := Lib.hid (ES.out.only ho (by omega))
  obtain ⟨mn0, hmn0⟩ : ∃ mn : Nat, 1 + y0.length = mn := ⟨_, rfl⟩
  rw [hmn0]
  have hml0 : mn0 ≤ 1099511627777 := by omega
  have HMN0 := Lib.hid hmn0
  clear hmn0 ho
  have crg1 := HXg1.out.cell 0
  have crg1' := HXg1.out.cell 1
  go_wp2_with fail
  clear crg1 crg1'
  have hcr1 : y1.length ≤ 1099511627776 := (by have := HY1.out; omega)
  have hgl := HOg1.out.le
  refine (markCochain_ex Cg1 q1 y1 ng1 mn0 midg Ug.heap.size W25 HOg1.out HY1.out (by omega) (by omega)).mono ?_
  rintro e W26 ⟨rfl, ho, hmk⟩
  have HM1 := Lib.hid hmk
  clear hmk hgl
  have HM0 := Lib.hid (HM0.out.under ho (by omega))
  have HXg0 := Lib.hid (HXg0.out.above ho (by omega))
  have HXg1 := Lib.hid (HXg1.out.above ho (by omega))
  have hzr1 := ho.size
  have EW := Lib.hid (EW.out.only ho (by omega))
  have EA := Lib.hid (EA.out.only ho (by omega))
  have ES := Lib.hid (ES.out.only ho (by omega))
  obtain ⟨mn1, hmn1⟩ : ∃ mn : Nat, mn0 + y1.length = mn := ⟨_, rfl⟩
  rw [hmn1]
  have hml1 : mn1 ≤ 2199023255553 := by omega
  have HMN1 := Lib.hid hmn1
  clear hmn1 ho
  have EM := Lib.hid (Ex.refl W26)
  obtain ⟨mm, hmm⟩ : ∃ mm : Int, (mn1 : Int) = mm := ⟨_, rfl⟩
  have h122 : (mm != mm) = false := by simp
  have HMM := Lib.hid hmm
  rw [hmm]
  clear hmm
  have hmneg0 : decide ((mn0 : Int) < 0) = false := by have := HMM.out; simp only [decide_eq_false_iff_not]; omega
  have hmneg1 : decide (mm < 0) = false := by have := HMM.out; simp only [decide_eq_false_iff_not]; omega
  have crg0 := (HXg0.out.ex EM.out).cell 0
  have crg0' := (HXg0.out.ex EM.out).cell 1
  go_wp2_with fail
  clear crg0 crg0'
  refine (heldModule_ex Cg0 q0 y0.length ng0 1 W10.heap.size midg W26 (HM0.out.ex EM.out) HY0.out (by omega)).mono ?_
  rintro e W27 ⟨rfl, he⟩
  have EW := Lib.hid (EW.out.trans he)
  have EA := Lib.hid (EA.out.trans he)
  have ES := Lib.hid (ES.out.trans he)
  have EM := Lib.hid (EM.out.trans he)
  clear he
  rw [HMN0.out]
  have crg1 := (HXg1.out.ex EM.out).cell 0
  have crg1' := (HXg1.out.ex EM.out).cell 1
  go_wp2_with fail
  clear crg1 crg1'
  refine (heldCochain_ex Cg1 q1 y1.length ng1 mn0 midg Ug.heap.size W27 (HM1.out.ex EM.out) HY1.out (by omega)).mono ?_
  rintro e W28 ⟨rfl, he⟩
  have EW := Lib.hid (EW.out.trans he)
  have EA := Lib.hid (EA.out.trans he)
  have ES := Lib.hid (ES.out.trans he)
  have EM := Lib.hid (EM.out.trans he)
  clear he
  rw [HMN1.out, HMM.out]
  -- the second call
  have HKh := Lib.hid (fun (W' : World) (hb : Ex W28 W') => (⟨(HB0.out.ex (EA.out.trans hb)).cell 0, (HB2.out.ex (EA.out.trans hb)).cell 0, (HB2.out.ex (EA.out.trans hb)).cell 1, (HB3.out.ex (EA.out.trans hb)).cell 0, (HB3.out.ex (EA.out.trans hb)).cell 1⟩ : (fun w' : World => w'.cell? ⟨w.heap.size, 0, none⟩ = some (.slice A0 t0.length c0) ∧ w'.cell? ⟨w.heap.size + 1, 0, none⟩ = some (.int .i64 m2) ∧ w'.cell? ⟨w.heap.size + 1, 1, none⟩ = some (.slice A2 t2.length c2) ∧ w'.cell? ⟨w.heap.size + 1 + 1, 0, none⟩ = some (.int .i64 m3) ∧ w'.cell? ⟨w.heap.size + 1 + 1, 1, none⟩ = some (.slice A3 t3.length c3)) W'))
  have ED := Lib.hid (EA.out.drew)
  have EDW := Lib.hid (EW.out.drew)
  go_upto_region 48 with (fail)
  go_cut [23, 24, 25] (fun s23 s24 s25 wx => ∃ (b0 : Nat) (C0 : Option Addr) (n0 : Nat) (b1 : Nat) (C1 : Option Addr) (n1 : Nat), s23 = .pointer (some ⟨b0, 0, none⟩) ∧ s24 = .pointer (some ⟨b1, 0, none⟩) ∧ s25 = .int .i64 q2 ∧ Ex W28 wx ∧ Has wx b0 38 #[.int .i64 q0, .slice C0 y0.length n0] ∧ Has wx b1 33 #[.int .i64 q1, .slice C1 y1.length n1] ∧ IntsW wx C0 y0 ∧ IntsW wx C1 y1)
  case first =>
    have HMF := HKh.out W28 (Ex.refl W28)
    refine Late.region (C := (fun w' : World => w'.cell? ⟨w.heap.size, 0, none⟩ = some (.slice A0 t0.length c0) ∧ w'.cell? ⟨w.heap.size + 1, 0, none⟩ = some (.int .i64 m2) ∧ w'.cell? ⟨w.heap.size + 1, 1, none⟩ = some (.slice A2 t2.length c2) ∧ w'.cell? ⟨w.heap.size + 1 + 1, 0, none⟩ = some (.int .i64 m3) ∧ w'.cell? ⟨w.heap.size + 1 + 1, 1, none⟩ = some (.slice A3 t3.length c3))) (fun _ => true) (by kernel_rfl) HMF (fun hC => ?_)
    refine Late.take (i := 0) (oi := _) (v := ?_) rfl (by kernel_rfl) (by kernel_rfl) (by kernel_rfl) (by kernel_rfl) (fun _ _ _ h => h) (Or.inl ⟨by rfl, ?_⟩) hC ?_
    rotate_left
    · (intro w hSw; (try dsimp only at hSw); go_simp; first | done | with_reducible rfl)
    simp only [Act.put]
    refine Late.take (i := 2) (oi := _) (v := ?_) rfl (by kernel_rfl) (by kernel_rfl) (by kernel_rfl) (by kernel_rfl) (fun _ _ _ h => h) (Or.inl ⟨by rfl, ?_⟩) hC ?_
    rotate_left
    · (intro w hSw; (try dsimp only at hSw); go_simp; first | done | with_reducible rfl)
    simp only [Act.put]
    refine Late.take (i := 4) (oi := _) (v := ?_) rfl (by kernel_rfl) (by kernel_rfl) (by kernel_rfl) (by kernel_rfl) (fun _ _ _ h => h) (Or.inl ⟨by rfl, ?_⟩) hC ?_
    rotate_left
    · (intro w hSw; (try dsimp only at hSw); go_simp; first | done | with_reducible rfl)
    simp only [Act.put]
    refine Late.take (i := 6) (oi := _) (v := ?_) rfl (by kernel_rfl) (by kernel_rfl) (by kernel_rfl) (by kernel_rfl) (fun _ _ _ h => h) (Or.inl ⟨by rfl, ?_⟩) hC ?_
    rotate_left
    · (intro w hSw; (try dsimp only at hSw); go_simp; first | done | with_reducible rfl)
    simp only [Act.put]
    clear hC HMF
    refine late_start (SS := fun (a0 : Act) (ds : Array Bool) (a : Act) (w' : World) => ∃ (v161 v163 v165 v167 v168 v159 v169 v170 v171 v23 v24 v25 : Value) (C0 : Option Addr) (n0 : Nat) (C1 : Option Addr) (n1 : Nat) (lo hi D E : Nat), a = ((((((((((((a0.put (some 161) v161).put (some 163) v163).put (some 165) v165).put (some 167) v167).put (some 168) v168).put (some 159) v159).put (some 169) v169).put (some 170) v170).put (some 171) v171).put (some 23) v23).put (some 24) v24).put (some 25) v25) ∧ (ds.getD 0 true = true ∧ ds.getD 2 true = true ∧ ds.getD 4 true = true ∧ ds.getD 6 true = true) ∧ Ex W28 w' ∧ (ds.getD 1 true = true → ds.getD 8 true = false → ∃ (D : Option Addr) (k : Nat), v161 = .agg #[.slice D t0.length k] ∧ RwsW w' D t0) ∧ (ds.getD 3 true = true → ds.getD 8 true = false → ∃ (D : Option Addr) (k : Nat), v163 = .slice D t1.length k ∧ IntsW w' D t1) ∧ (ds.getD 5 true = true → ds.getD 8 true = false → ∃ (D : Option Addr) (k : Nat), v165 = .agg #[.int .i64 m2, .slice D t2.length k] ∧ IntsW w' D t2) ∧ (ds.getD 7 true = true → ds.getD 8 true = false → ∃ (D : Option Addr) (k : Nat), v167 = .agg #[.int .i64 m3, .slice D t3.length k] ∧ IntsW w' D t3) ∧ (ds.getD 8 true = true → v168 = (.tuple #[.agg #[.int .i64 q0, .slice C0 y0.length n0], .agg #[.int .i64 q1, .slice C1 y1.length n1], .int .i64 q2] : Value)) ∧ (ds.getD 9 true = true → ds.getD 8 true = true ∧ v159 = (.tuple #[.agg #[.int .i64 q0, .slice C0 y0.length n0], .agg #[.int .i64 q1, .slice C1 y1.length n1], .int .i64 q2] : Value)) ∧ (ds.getD 10 true = true → ds.getD 8 true = true ∧ v169 = .agg #[.int .i64 q0, .slice C0 y0.length n0]) ∧ (ds.getD 11 true = true → ds.getD 8 true = true ∧ v170 = .agg #[.int .i64 q1, .slice C1 y1.length n1]) ∧ (ds.getD 12 true = true → ds.getD 8 true = true ∧ v171 = .int .i64 q2) ∧ (ds.getD 17 true = true → v25 = .int .i64 q2) ∧ TwoR W28.heap.size 38 33 #[.int .i64 0, .slice none 0 0] #[.int .i64 0, .slice none 0 0] #[.int .i64 q0, .slice C0 y0.length n0] #[.int .i64 q1, .slice C1 y1.length n1] (fun W lo hi => OwnL W lo hi C0 y0 ∧ OwnL W lo hi C1 y1) (ds.getD 8 true) (ds.getD 13 true) (ds.getD 14 true) (ds.getD 15 true) (ds.getD 16 true) v23 v24 lo hi D E w') (by kernel_rfl) ?h0 (by rfl) (by decide) ?hC ?hend ?hstep
    case h0 => exact ⟨u161, u163, u165, u167, u168, u159, u169, u170, u171, undef, undef, undef, none, 0, none, 0, 0, 0, 0, 0, by go_simp, ⟨by decide, by decide, by decide, by decide⟩, (Ex.refl W28).drew, fun hb => absurd hb (by decide), fun hb => absurd hb (by decide), fun hb => absurd hb (by decide), fun hb => absurd hb (by decide), fun hb => absurd hb (by decide), fun hb => absurd hb (by decide), fun hb => absurd hb (by decide), fun hb => absurd hb (by decide), fun hb => absurd hb (by decide), fun hb => absurd hb (by decide), TwoR.start⟩
    case hC =>
      rintro ds a w' ⟨v161, v163, v165, v167, v168, v159, v169, v170, v171, v23, v24, v25, C0, n0, C1, n1, lo, hi, D, E, rfl, ⟨hd0, hd2, hd4, hd6⟩, hE, hc1, hc3, hc5, hc7, h5, h6, h710, h711, h712, h817, hT⟩
      exact HKh.out w' hE
    case hend =>
      rintro ds a w' ⟨v161, v163, v165, v167, v168, v159, v169, v170, v171, v23, v24, v25, C0, n0, C1, n1, lo, hi, D, E, rfl, ⟨hd0, hd2, hd4, hd6⟩, hE, hc1, hc3, hc5, hc7, h5, h6, h710, h711, h712, h817, hT⟩ hall
      have hcall := hall 8 (by decide)
      obtain ⟨rfl, hD1, hD, -⟩ := hT.box0 (hall 13 (by decide))
      obtain ⟨rfl, hE1, hH, -⟩ := hT.box1 (hall 14 (by decide))
      have hR := (hT.res hcall).1
      rw [hall 15 (by decide)] at hD
      rw [hall 16 (by decide)] at hH
      obtain rfl := h817 (hall 17 (by decide))
      have HEE := Lib.hid hE
      have H0 := Lib.hid hD
      have H1 := Lib.hid hH
      have HR := Lib.hid hR
      clear hall hT hR hD hH hE hc1 hc3 hc5 hc7 h5 h6 h710 h711 h712 h817
      go_simp
      go_wp2_with fail
      go_meet
      exact ⟨D, C0, n0, E, C1, n1, rfl, rfl, rfl, HEE.out, H0.out, H1.out, HR.out.1.ints, HR.out.2.ints⟩
    case hstep =>
      rintro ds a w' ⟨v161, v163, v165, v167, v168, v159, v169, v170, v171, v23, v24, v25, C0, n0, C1, n1, lo, hi, D, E, rfl, ⟨hd0, hd2, hd4, hd6⟩, hE, hc1, hc3, hc5, hc7, h5, h6, h710, h711, h712, h817, hT⟩ j oj hoj hu hall
      have hjn : j < 18 := (Array.getElem?_eq_some_iff.1 hoj).1
      rcases (by omega : j = 0 ∨ j = 2 ∨ j = 4 ∨ j = 6 ∨ j = 1 ∨ j = 3 ∨ j = 5 ∨ j = 7 ∨ j = 8 ∨ j = 9 ∨ j = 10 ∨ j = 11 ∨ j = 12 ∨ j = 13 ∨ j = 14 ∨ j = 15 ∨ j = 16 ∨ j = 17) with rfl | rfl | rfl | rfl | rfl | rfl | rfl | rfl | rfl | rfl | rfl | rfl | rfl | rfl | rfl | rfl | rfl | rfl
      · rw [hd0] at hu; cases hu
      · rw [hd2] at hu; cases hu
      · rw [hd4] at hu; cases hu
      · rw [hd6] at hu; cases hu
      · obtain rfl := Option.some.inj hoj
        clear hall
        refine wpOp_step rfl fun K' hK' => ?_
        have hK := Lib.hid hK'
        clear hK'
        rw [if_pos (by rfl)]
        try simp only [Act.put]
        go_simp
        refine (toGroup_ex A0 t0 c0 _ (HR0.out.ex (EA.out.trans hE)) HX0.out).mono ?_
        rintro e w2 ⟨D', k', rfl, hv, hd⟩
        refine hK.out _ _ ⟨_, v163, v165, v167, v168, v159, v169, v170, v171, v23, v24, v25, C0, n0, C1, n1, lo, hi, D, E, by go_simp, ⟨bt_keep hd0, bt_keep hd2, bt_keep hd4, bt_keep hd6⟩, hE.trans hv, fun _ _ => ⟨D', k', rfl, hd.rws⟩, fun hb hn => let ⟨D', k', e, h⟩ := hc3 (bt_old hb (by decide : (3 : Nat) ≠ 1)) (bt_no hn); ⟨D', k', e, h.ex hv⟩, fun hb hn => let ⟨D', k', e, h⟩ := hc5 (bt_old hb (by decide : (5 : Nat) ≠ 1)) (bt_no hn); ⟨D', k', e, h.ex hv⟩, fun hb hn => let ⟨D', k', e, h⟩ := hc7 (bt_old hb (by decide : (7 : Nat) ≠ 1)) (bt_no hn); ⟨D', k', e, h.ex hv⟩, fun hb => h5 (bt_old hb (by decide : (8 : Nat) ≠ 1)), fun hb => ⟨bt_keep (h6 (bt_old hb (by decide : (9 : Nat) ≠ 1))).1, (h6 (bt_old hb (by decide : (9 : Nat) ≠ 1))).2⟩, fun hb => ⟨bt_keep (h710 (bt_old hb (by decide : (10 : Nat) ≠ 1))).1, (h710 (bt_old hb (by decide : (10 : Nat) ≠ 1))).2⟩, fun hb => ⟨bt_keep (h711 (bt_old hb (by decide : (11 : Nat) ≠ 1))).1, (h711 (bt_old hb (by decide : (11 : Nat) ≠ 1))).2⟩, fun hb => ⟨bt_keep (h712 (bt_old hb (by decide : (12 : Nat) ≠ 1))).1, (h712 (bt_old hb (by decide : (12 : Nat) ≠ 1))).2⟩, fun hb => h817 (bt_old hb (by decide : (17 : Nat) ≠ 1)), ?_⟩
        rw [bt_ne (d := ds) (j := 1) (i := 8) (by decide), bt_ne (d := ds) (j := 1) (i := 13) (by decide), bt_ne (d := ds) (j := 1) (i := 14) (by decide), bt_ne (d := ds) (j := 1) (i := 15) (by decide), bt_ne (d := ds) (j := 1) (i := 16) (by decide)]
        exact hT.ex ((Kept.ownL _ _).and (Kept.ownL _ _)) hv
      · obtain rfl := Option.some.inj hoj
        clear hall
        refine wpOp_step rfl fun K' hK' => ?_
        have hK := Lib.hid hK'
        clear hK'
        rw [if_pos (by rfl)]
        try simp only [Act.put]
        go_simp
        refine (toInt64S_ex A1 t1 c1 _ (HR1.out.ex (EA.out.trans hE)) HX1.out).mono ?_
        rintro e w2 ⟨D', k', rfl, hv, hd⟩
        refine hK.out _ _ ⟨v161, _, v165, v167, v168, v159, v169, v170, v171, v23, v24, v25, C0, n0, C1, n1, lo, hi, D, E, by go_simp, ⟨bt_keep hd0, bt_keep hd2, bt_keep hd4, bt_keep hd6⟩, hE.trans hv, fun hb hn => let ⟨D', k', e, h⟩ := hc1 (bt_old hb (by decide : (1 : Nat) ≠ 3)) (bt_no hn); ⟨D', k', e, h.ex hv⟩, fun _ _ => ⟨D', k', rfl, hd.ints⟩, fun hb hn => let ⟨D', k', e, h⟩ := hc5 (bt_old hb (by decide : (5 : Nat) ≠ 3)) (bt_no hn); ⟨D', k', e, h.ex hv⟩, fun hb hn => let ⟨D', k', e, h⟩ := hc7 (bt_old hb (by decide : (7 : Nat) ≠ 3)) (bt_no hn); ⟨D', k', e, h.ex hv⟩, fun hb => h5 (bt_old hb (by decide : (8 : Nat) ≠ 3)), fun hb => ⟨bt_keep (h6 (bt_old hb (by decide : (9 : Nat) ≠ 3))).1, (h6 (bt_old hb (by decide : (9 : Nat) ≠ 3))).2⟩, fun hb => ⟨bt_keep (h710 (bt_old hb (by decide : (10 : Nat) ≠ 3))).1, (h710 (bt_old hb (by decide : (10 : Nat) ≠ 3))).2⟩, fun hb => ⟨bt_keep (h711 (bt_old hb (by decide : (11 : Nat) ≠ 3))).1, (h711 (bt_old hb (by decide : (11 : Nat) ≠ 3))).2⟩, fun hb => ⟨bt_keep (h712 (bt_old hb (by decide : (12 : Nat) ≠ 3))).1, (h712 (bt_old hb (by decide : (12 : Nat) ≠ 3))).2⟩, fun hb => h817 (bt_old hb (by decide : (17 : Nat) ≠ 3)), ?_⟩
        rw [bt_ne (d := ds) (j := 3) (i := 8) (by decide), bt_ne (d := ds) (j := 3) (i := 13) (by decide), bt_ne (d := ds) (j := 3) (i := 14) (by decide), bt_ne (d := ds) (j := 3) (i := 15) (by decide), bt_ne (d := ds) (j := 3) (i := 16) (by decide)]
        exact hT.ex ((Kept.ownL _ _).and (Kept.ownL _ _)) hv
      · obtain rfl := Option.some.inj hoj
        clear hall
        refine wpOp_step rfl fun K' hK' => ?_
        have hK := Lib.hid hK'
        clear hK'
        rw [if_pos (by rfl)]
        try simp only [Act.put]
        go_simp
        refine (toModule_ex A2 m2 t2 c2 _ (HR2.out.ex (EA.out.trans hE)) HX2.out).mono ?_
        rintro e w2 ⟨D', k', rfl, hv, hd⟩
        refine hK.out _ _ ⟨v161, v163, _, v167, v168, v159, v169, v170, v171, v23, v24, v25, C0, n0, C1, n1, lo, hi, D, E, by go_simp, ⟨bt_keep hd0, bt_keep hd2, bt_keep hd4, bt_keep hd6⟩, hE.trans hv, fun hb hn => let ⟨D', k', e, h⟩ := hc1 (bt_old hb (by decide : (1 : Nat) ≠ 5)) (bt_no hn); ⟨D', k', e, h.ex hv⟩, fun hb hn => let ⟨D', k', e, h⟩ := hc3 (bt_old hb (by decide : (3 : Nat) ≠ 5)) (bt_no hn); ⟨D', k', e, h.ex hv⟩, fun _ _ => ⟨D', k', rfl, hd.ints⟩, fun hb hn => let ⟨D', k', e, h⟩ := hc7 (bt_old hb (by decide : (7 : Nat) ≠ 5)) (bt_no hn); ⟨D', k', e, h.ex hv⟩, fun hb => h5 (bt_old hb (by decide : (8 : Nat) ≠ 5)), fun hb => ⟨bt_keep (h6 (bt_old hb (by decide : (9 : Nat) ≠ 5))).1, (h6 (bt_old hb (by decide : (9 : Nat) ≠ 5))).2⟩, fun hb => ⟨bt_keep (h710 (bt_old hb (by decide : (10 : Nat) ≠ 5))).1, (h710 (bt_old hb (by decide : (10 : Nat) ≠ 5))).2⟩, fun hb => ⟨bt_keep (h711 (bt_old hb (by decide : (11 : Nat) ≠ 5))).1, (h711 (bt_old hb (by decide : (11 : Nat) ≠ 5))).2⟩, fun hb => ⟨bt_keep (h712 (bt_old hb (by decide : (12 : Nat) ≠ 5))).1, (h712 (bt_old hb (by decide : (12 : Nat) ≠ 5))).2⟩, fun hb => h817 (bt_old hb (by decide : (17 : Nat) ≠ 5)), ?_⟩
        rw [bt_ne (d := ds) (j := 5) (i := 8) (by decide), bt_ne (d := ds) (j := 5) (i := 13) (by decide), bt_ne (d := ds) (j := 5) (i := 14) (by decide), bt_ne (d := ds) (j := 5) (i := 15) (by decide), bt_ne (d := ds) (j := 5) (i := 16) (by decide)]
        exact hT.ex ((Kept.ownL _ _).and (Kept.ownL _ _)) hv
      · obtain rfl := Option.some.inj hoj
        clear hall
        refine wpOp_step rfl fun K' hK' => ?_
        have hK := Lib.hid hK'
        clear hK'
        rw [if_pos (by rfl)]
        try simp only [Act.put]
        go_simp
        refine (toCochain_ex A3 m3 t3 c3 _ (HR3.out.ex (EA.out.trans hE)) HX3.out).mono ?_
        rintro e w2 ⟨D', k', rfl, hv, hd⟩
        refine hK.out _ _ ⟨v161, v163, v165, _, v168, v159, v169, v170, v171, v23, v24, v25, C0, n0, C1, n1, lo, hi, D, E, by go_simp, ⟨bt_keep hd0, bt_keep hd2, bt_keep hd4, bt_keep hd6⟩, hE.trans hv, fun hb hn => let ⟨D', k', e, h⟩ := hc1 (bt_old hb (by decide : (1 : Nat) ≠ 7)) (bt_no hn); ⟨D', k', e, h.ex hv⟩, fun hb hn => let ⟨D', k', e, h⟩ := hc3 (bt_old hb (by decide : (3 : Nat) ≠ 7)) (bt_no hn); ⟨D', k', e, h.ex hv⟩, fun hb hn => let ⟨D', k', e, h⟩ := hc5 (bt_old hb (by decide : (5 : Nat) ≠ 7)) (bt_no hn); ⟨D', k', e, h.ex hv⟩, fun _ _ => ⟨D', k', rfl, hd.ints⟩, fun hb => h5 (bt_old hb (by decide : (8 : Nat) ≠ 7)), fun hb => ⟨bt_keep (h6 (bt_old hb (by decide : (9 : Nat) ≠ 7))).1, (h6 (bt_old hb (by decide : (9 : Nat) ≠ 7))).2⟩, fun hb => ⟨bt_keep (h710 (bt_old hb (by decide : (10 : Nat) ≠ 7))).1, (h710 (bt_old hb (by decide : (10 : Nat) ≠ 7))).2⟩, fun hb => ⟨bt_keep (h711 (bt_old hb (by decide : (11 : Nat) ≠ 7))).1, (h711 (bt_old hb (by decide : (11 : Nat) ≠ 7))).2⟩, fun hb => ⟨bt_keep (h712 (bt_old hb (by decide : (12 : Nat) ≠ 7))).1, (h712 (bt_old hb (by decide : (12 : Nat) ≠ 7))).2⟩, fun hb => h817 (bt_old hb (by decide : (17 : Nat) ≠ 7)), ?_⟩
        rw [bt_ne (d := ds) (j := 7) (i := 8) (by decide), bt_ne (d := ds) (j := 7) (i := 13) (by decide), bt_ne (d := ds) (j := 7) (i := 14) (by decide), bt_ne (d := ds) (j := 7) (i := 15) (by decide), bt_ne (d := ds) (j := 7) (i := 16) (by decide)]
        exact hT.ex ((Kept.ownL _ _).and (Kept.ownL _ _)) hv
      · obtain rfl := Option.some.inj hoj
        obtain ⟨D1, k1, rfl, hr1⟩ := hc1 (hall ⟨1, .data⟩ (by simp) rfl) hu
        obtain ⟨D3, k3, rfl, hr3⟩ := hc3 (hall ⟨3, .data⟩ (by simp) rfl) hu
        obtain ⟨D5, k5, rfl, hr5⟩ := hc5 (hall ⟨5, .data⟩ (by simp) rfl) hu
        obtain ⟨D7, k7, rfl, hr7⟩ := hc7 (hall ⟨7, .data⟩ (by simp) rfl) hu
        clear hall
        refine wpOp_step rfl fun K' hK' => ?_
        have hK := Lib.hid hK'
        clear hK'
        rw [if_pos (by rfl)]
        try simp only [Act.put]
        go_simp
        refine (HI.out D1 k1 D3 k3 D5 k5 D7 k7 _ (hr1) (hr3) (hr5) (hr7) HX0.out HX1.out HX2.out HX3.out (HTL.out.ex (EW.out.trans hE))).mono ?_
        rintro e w2 ⟨C'0, n'0, C'1, n'1, mid, rfl, hv, hm1, hm2, ho0, ho1⟩
        refine hK.out _ _ ⟨.agg #[.slice D1 t0.length k1], .slice D3 t1.length k3, .agg #[.int .i64 m2, .slice D5 t2.length k5], .agg #[.int .i64 m3, .slice D7 t3.length k7], _, v159, v169, v170, v171, v23, v24, v25, C'0, n'0, C'1, n'1, w'.heap.size, w2.heap.size, D, E, by go_simp, ⟨bt_keep hd0, bt_keep hd2, bt_keep hd4, bt_keep hd6⟩, hE.trans hv, fun _ hn => absurd hn (by rw [bt_self]; decide), fun _ hn => absurd hn (by rw [bt_self]; decide), fun _ hn => absurd hn (by rw [bt_self]; decide), fun _ hn => absurd hn (by rw [bt_self]; decide), fun _ => rfl, fun hb => absurd (h6 (bt_old hb (by decide : (9 : Nat) ≠ 8))).1 (by rw [hu]; decide), fun hb => absurd (h710 (bt_old hb (by decide : (10 : Nat) ≠ 8))).1 (by rw [hu]; decide), fun hb => absurd (h711 (bt_old hb (by decide : (11 : Nat) ≠ 8))).1 (by rw [hu]; decide), fun hb => absurd (h712 (bt_old hb (by decide : (12 : Nat) ≠ 8))).1 (by rw [hu]; decide), fun hb => h817 (bt_old hb (by decide : (17 : Nat) ≠ 8)), ?_⟩
        rw [bt_self (d := ds) (j := 8), bt_ne (d := ds) (j := 8) (i := 13) (by decide), bt_ne (d := ds) (j := 8) (i := 14) (by decide), bt_ne (d := ds) (j := 8) (i := 15) (by decide), bt_ne (d := ds) (j := 8) (i := 16) (by decide)]
        rw [hu] at hT; exact hT.call hv ⟨ho0.mono (Nat.le_refl _) hm2 (Nat.le_refl _), ho1.mono hm1 (Nat.le_refl _) (Nat.le_refl _)⟩
      · obtain rfl := Option.some.inj hoj
        have hcall := (hall ⟨8, .data⟩ (by simp) rfl)
        obtain rfl := h5 hcall
        clear hall
        refine wpOp_step rfl fun K' hK' => ?_
        have hK := Lib.hid hK'
        clear hK'
        rw [if_pos (by rfl)]
        try simp only [Act.put]
        go_simp
        refine hK.out _ _ ⟨v161, v163, v165, v167, (.tuple #[.agg #[.int .i64 q0, .slice C0 y0.length n0], .agg #[.int .i64 q1, .slice C1 y1.length n1], .int .i64 q2] : Value), (.tuple #[.agg #[.int .i64 q0, .slice C0 y0.length n0], .agg #[.int .i64 q1, .slice C1 y1.length n1], .int .i64 q2] : Value), v169, v170, v171, v23, v24, v25, C0, n0, C1, n1, lo, hi, D, E, by go_simp, ⟨bt_keep hd0, bt_keep hd2, bt_keep hd4, bt_keep hd6⟩, hE, fun hb hn => hc1 (bt_old hb (by decide : (1 : Nat) ≠ 9)) (bt_no hn), fun hb hn => hc3 (bt_old hb (by decide : (3 : Nat) ≠ 9)) (bt_no hn), fun hb hn => hc5 (bt_old hb (by decide : (5 : Nat) ≠ 9)) (bt_no hn), fun hb hn => hc7 (bt_old hb (by decide : (7 : Nat) ≠ 9)) (bt_no hn), fun _ => rfl, fun _ => ⟨bt_keep hcall, rfl⟩, fun hb => ⟨bt_keep (h710 (bt_old hb (by decide : (10 : Nat) ≠ 9))).1, (h710 (bt_old hb (by decide : (10 : Nat) ≠ 9))).2⟩, fun hb => ⟨bt_keep (h711 (bt_old hb (by decide : (11 : Nat) ≠ 9))).1, (h711 (bt_old hb (by decide : (11 : Nat) ≠ 9))).2⟩, fun hb => ⟨bt_keep (h712 (bt_old hb (by decide : (12 : Nat) ≠ 9))).1, (h712 (bt_old hb (by decide : (12 : Nat) ≠ 9))).2⟩, fun hb => h817 (bt_old hb (by decide : (17 : Nat) ≠ 9)), ?_⟩
        rw [bt_ne (d := ds) (j := 9) (i := 8) (by decide), bt_ne (d := ds) (j := 9) (i := 13) (by decide), bt_ne (d := ds) (j := 9) (i := 14) (by decide), bt_ne (d := ds) (j := 9) (i := 15) (by decide), bt_ne (d := ds) (j := 9) (i := 16) (by decide)]
        exact hT
      · obtain rfl := Option.some.inj hoj
        obtain ⟨hcall, rfl⟩ := h6 (hall ⟨9, .data⟩ (by simp) rfl)
        clear hall
        refine wpOp_step rfl fun K' hK' => ?_
        have hK := Lib.hid hK'
        clear hK'
        rw [if_pos (by rfl)]
        try simp only [Act.put]
        go_simp
        refine hK.out _ _ ⟨v161, v163, v165, v167, v168, (.tuple #[.agg #[.int .i64 q0, .slice C0 y0.length n0], .agg #[.int .i64 q1, .slice C1 y1.length n1], .int .i64 q2] : Value), (.agg #[.int .i64 q0, .slice C0 y0.length n0]), v170, v171, v23, v24, v25, C0, n0, C1, n1, lo, hi, D, E, by go_simp, ⟨bt_keep hd0, bt_keep hd2, bt_keep hd4, bt_keep hd6⟩, hE, fun hb hn => hc1 (bt_old hb (by decide : (1 : Nat) ≠ 10)) (bt_no hn), fun hb hn => hc3 (bt_old hb (by decide : (3 : Nat) ≠ 10)) (bt_no hn), fun hb hn => hc5 (bt_old hb (by decide : (5 : Nat) ≠ 10)) (bt_no hn), fun hb hn => hc7 (bt_old hb (by decide : (7 : Nat) ≠ 10)) (bt_no hn), fun hb => h5 (bt_old hb (by decide : (8 : Nat) ≠ 10)), fun _ => ⟨bt_keep hcall, rfl⟩, fun _ => ⟨bt_keep hcall, rfl⟩, fun hb => ⟨bt_keep (h711 (bt_old hb (by decide : (11 : Nat) ≠ 10))).1, (h711 (bt_old hb (by decide : (11 : Nat) ≠ 10))).2⟩, fun hb => ⟨bt_keep (h712 (bt_old hb (by decide : (12 : Nat) ≠ 10))).1, (h712 (bt_old hb (by decide : (12 : Nat) ≠ 10))).2⟩, fun hb => h817 (bt_old hb (by decide : (17 : Nat) ≠ 10)), ?_⟩
        rw [bt_ne (d := ds) (j := 10) (i := 8) (by decide), bt_ne (d := ds) (j := 10) (i := 13) (by decide), bt_ne (d := ds) (j := 10) (i := 14) (by decide), bt_ne (d := ds) (j := 10) (i := 15) (by decide), bt_ne (d := ds) (j := 10) (i := 16) (by decide)]
        exact hT
      · obtain rfl := Option.some.inj hoj
        obtain ⟨hcall, rfl⟩ := h6 (hall ⟨9, .data⟩ (by simp) rfl)
        clear hall
        refine wpOp_step rfl fun K' hK' => ?_
        have hK := Lib.hid hK'
        clear hK'
        rw [if_pos (by rfl)]
        try simp only [Act.put]
        go_simp
        refine hK.out _ _ ⟨v161, v163, v165, v167, v168, (.tuple #[.agg #[.int .i64 q0, .slice C0 y0.length n0], .agg #[.int .i64 q1, .slice C1 y1.length n1], .int .i64 q2] : Value), v169, (.agg #[.int .i64 q1, .slice C1 y1.length n1]), v171, v23, v24, v25, C0, n0, C1, n1, lo, hi, D, E, by go_simp, ⟨bt_keep hd0, bt_keep hd2, bt_keep hd4, bt_keep hd6⟩, hE, fun hb hn => hc1 (bt_old hb (by decide : (1 : Nat) ≠ 11)) (bt_no hn), fun hb hn => hc3 (bt_old hb (by decide : (3 : Nat) ≠ 11)) (bt_no hn), fun hb hn => hc5 (bt_old hb (by decide : (5 : Nat) ≠ 11)) (bt_no hn), fun hb hn => hc7 (bt_old hb (by decide : (7 : Nat) ≠ 11)) (bt_no hn), fun hb => h5 (bt_old hb (by decide : (8 : Nat) ≠ 11)), fun _ => ⟨bt_keep hcall, rfl⟩, fun hb => ⟨bt_keep (h710 (bt_old hb (by decide : (10 : Nat) ≠ 11))).1, (h710 (bt_old hb (by decide : (10 : Nat) ≠ 11))).2⟩, fun _ => ⟨bt_keep hcall, rfl⟩, fun hb => ⟨bt_keep (h712 (bt_old hb (by decide : (12 : Nat) ≠ 11))).1, (h712 (bt_old hb (by decide : (12 : Nat) ≠ 11))).2⟩, fun hb => h817 (bt_old hb (by decide : (17 : Nat) ≠ 11)), ?_⟩
        rw [bt_ne (d := ds) (j := 11) (i := 8) (by decide), bt_ne (d := ds) (j := 11) (i := 13) (by decide), bt_ne (d := ds) (j := 11) (i := 14) (by decide), bt_ne (d := ds) (j := 11) (i := 15) (by decide), bt_ne (d := ds) (j := 11) (i := 16) (by decide)]
        exact hT
      · obtain rfl := Option.some.inj hoj
        obtain ⟨hcall, rfl⟩ := h6 (hall ⟨9, .data⟩ (by simp) rfl)
        clear hall
        refine wpOp_step rfl fun K' hK' => ?_
        have hK := Lib.hid hK'
        clear hK'
        rw [if_pos (by rfl)]
        try simp only [Act.put]
        go_simp
        refine hK.out _ _ ⟨v161, v163, v165, v167, v168, (.tuple #[.agg #[.int .i64 q0, .slice C0 y0.length n0], .agg #[.int .i64 q1, .slice C1 y1.length n1], .int .i64 q2] : Value), v169, v170, (.int .i64 q2), v23, v24, v25, C0, n0, C1, n1, lo, hi, D, E, by go_simp, ⟨bt_keep hd0, bt_keep hd2, bt_keep hd4, bt_keep hd6⟩, hE, fun hb hn => hc1 (bt_old hb (by decide : (1 : Nat) ≠ 12)) (bt_no hn), fun hb hn => hc3 (bt_old hb (by decide : (3 : Nat) ≠ 12)) (bt_no hn), fun hb hn => hc5 (bt_old hb (by decide : (5 : Nat) ≠ 12)) (bt_no hn), fun hb hn => hc7 (bt_old hb (by decide : (7 : Nat) ≠ 12)) (bt_no hn), fun hb => h5 (bt_old hb (by decide : (8 : Nat) ≠ 12)), fun _ => ⟨bt_keep hcall, rfl⟩, fun hb => ⟨bt_keep (h710 (bt_old hb (by decide : (10 : Nat) ≠ 12))).1, (h710 (bt_old hb (by decide : (10 : Nat) ≠ 12))).2⟩, fun hb => ⟨bt_keep (h711 (bt_old hb (by decide : (11 : Nat) ≠ 12))).1, (h711 (bt_old hb (by decide : (11 : Nat) ≠ 12))).2⟩, fun _ => ⟨bt_keep hcall, rfl⟩, fun hb => h817 (bt_old hb (by decide : (17 : Nat) ≠ 12)), ?_⟩
        rw [bt_ne (d := ds) (j := 12) (i := 8) (by decide), bt_ne (d := ds) (j := 12) (i := 13) (by decide), bt_ne (d := ds) (j := 12) (i := 14) (by decide), bt_ne (d := ds) (j := 12) (i := 15) (by decide), bt_ne (d := ds) (j := 12) (i := 16) (by decide)]
        exact hT
      · obtain rfl := Option.some.inj hoj
        clear hall
        refine wpOp_step rfl fun K' hK' => ?_
        have hK := Lib.hid hK'
        clear hK'
        rw [if_pos (by rfl)]
        try simp only [Act.put]
        go_simp
        refine hK.out _ _ ⟨v161, v163, v165, v167, v168, v159, v169, v170, v171, (.pointer (some ⟨w'.heap.size, 0, none⟩)), v24, v25, C0, n0, C1, n1, lo, hi, w'.heap.size, E, by go_simp, ⟨bt_keep hd0, bt_keep hd2, bt_keep hd4, bt_keep hd6⟩, hE.alloc _, fun hb hn => let ⟨D', k', e, h⟩ := hc1 (bt_old hb (by decide : (1 : Nat) ≠ 13)) (bt_no hn); ⟨D', k', e, h.ex (Ex.new _ _)⟩, fun hb hn => let ⟨D', k', e, h⟩ := hc3 (bt_old hb (by decide : (3 : Nat) ≠ 13)) (bt_no hn); ⟨D', k', e, h.ex (Ex.new _ _)⟩, fun hb hn => let ⟨D', k', e, h⟩ := hc5 (bt_old hb (by decide : (5 : Nat) ≠ 13)) (bt_no hn); ⟨D', k', e, h.ex (Ex.new _ _)⟩, fun hb hn => let ⟨D', k', e, h⟩ := hc7 (bt_old hb (by decide : (7 : Nat) ≠ 13)) (bt_no hn); ⟨D', k', e, h.ex (Ex.new _ _)⟩, fun hb => h5 (bt_old hb (by decide : (8 : Nat) ≠ 13)), fun hb => ⟨bt_keep (h6 (bt_old hb (by decide : (9 : Nat) ≠ 13))).1, (h6 (bt_old hb (by decide : (9 : Nat) ≠ 13))).2⟩, fun hb => ⟨bt_keep (h710 (bt_old hb (by decide : (10 : Nat) ≠ 13))).1, (h710 (bt_old hb (by decide : (10 : Nat) ≠ 13))).2⟩, fun hb => ⟨bt_keep (h711 (bt_old hb (by decide : (11 : Nat) ≠ 13))).1, (h711 (bt_old hb (by decide : (11 : Nat) ≠ 13))).2⟩, fun hb => ⟨bt_keep (h712 (bt_old hb (by decide : (12 : Nat) ≠ 13))).1, (h712 (bt_old hb (by decide : (12 : Nat) ≠ 13))).2⟩, fun hb => h817 (bt_old hb (by decide : (17 : Nat) ≠ 13)), ?_⟩
        rw [bt_ne (d := ds) (j := 13) (i := 8) (by decide), bt_self (d := ds) (j := 13), bt_ne (d := ds) (j := 13) (i := 14) (by decide), bt_ne (d := ds) (j := 13) (i := 15) (by decide), bt_ne (d := ds) (j := 13) (i := 16) (by decide)]
        rw [hu] at hT; exact hT.alloc0 ((Kept.ownL _ _).and (Kept.ownL _ _)) hE.size
      · obtain rfl := Option.some.inj hoj
        clear hall
        refine wpOp_step rfl fun K' hK' => ?_
        have hK := Lib.hid hK'
        clear hK'
        rw [if_pos (by rfl)]
        try simp only [Act.put]
        go_simp
        refine hK.out _ _ ⟨v161, v163, v165, v167, v168, v159, v169, v170, v171, v23, (.pointer (some ⟨w'.heap.size, 0, none⟩)), v25, C0, n0, C1, n1, lo, hi, D, w'.heap.size, by go_simp, ⟨bt_keep hd0, bt_keep hd2, bt_keep hd4, bt_keep hd6⟩, hE.alloc _, fun hb hn => let ⟨D', k', e, h⟩ := hc1 (bt_old hb (by decide : (1 : Nat) ≠ 14)) (bt_no hn); ⟨D', k', e, h.ex (Ex.new _ _)⟩, fun hb hn => let ⟨D', k', e, h⟩ := hc3 (bt_old hb (by decide : (3 : Nat) ≠ 14)) (bt_no hn); ⟨D', k', e, h.ex (Ex.new _ _)⟩, fun hb hn => let ⟨D', k', e, h⟩ := hc5 (bt_old hb (by decide : (5 : Nat) ≠ 14)) (bt_no hn); ⟨D', k', e, h.ex (Ex.new _ _)⟩, fun hb hn => let ⟨D', k', e, h⟩ := hc7 (bt_old hb (by decide : (7 : Nat) ≠ 14)) (bt_no hn); ⟨D', k', e, h.ex (Ex.new _ _)⟩, fun hb => h5 (bt_old hb (by decide : (8 : Nat) ≠ 14)), fun hb => ⟨bt_keep (h6 (bt_old hb (by decide : (9 : Nat) ≠ 14))).1, (h6 (bt_old hb (by decide : (9 : Nat) ≠ 14))).2⟩, fun hb => ⟨bt_keep (h710 (bt_old hb (by decide : (10 : Nat) ≠ 14))).1, (h710 (bt_old hb (by decide : (10 : Nat) ≠ 14))).2⟩, fun hb => ⟨bt_keep (h711 (bt_old hb (by decide : (11 : Nat) ≠ 14))).1, (h711 (bt_old hb (by decide : (11 : Nat) ≠ 14))).2⟩, fun hb => ⟨bt_keep (h712 (bt_old hb (by decide : (12 : Nat) ≠ 14))).1, (h712 (bt_old hb (by decide : (12 : Nat) ≠ 14))).2⟩, fun hb => h817 (bt_old hb (by decide : (17 : Nat) ≠ 14)), ?_⟩
        rw [bt_ne (d := ds) (j := 14) (i := 8) (by decide), bt_ne (d := ds) (j := 14) (i := 13) (by decide), bt_self (d := ds) (j := 14), bt_ne (d := ds) (j := 14) (i := 15) (by decide), bt_ne (d := ds) (j := 14) (i := 16) (by decide)]
        rw [hu] at hT; exact hT.alloc1 ((Kept.ownL _ _).and (Kept.ownL _ _)) hE.size
      · obtain rfl := Option.some.inj hoj
        obtain ⟨hcall, rfl⟩ := h710 (hall ⟨10, .data⟩ (by simp) rfl)
        have hal := (hall ⟨13, .data⟩ (by simp) rfl)
        obtain ⟨rfl, hDl, hDH, -⟩ := hT.box0 hal
        rw [hu] at hDH
        have hDD : Has w' D 38 #[.int .i64 0, .slice none 0 0] := hDH
        clear hDH
        have k0 := hDD.cell 0
        have f0 := hDD.free 0
        have k1 := hDD.cell 1
        have f1 := hDD.free 1
        clear hall
        refine wpOp_step rfl fun K' hK' => ?_
        have hK := Lib.hid hK'
        clear hK'
        rw [if_pos (by rfl)]
        try simp only [Act.put]
        go_simp
        refine hK.out _ _ ⟨v161, v163, v165, v167, v168, v159, (.agg #[.int .i64 q0, .slice C0 y0.length n0]), v170, v171, (.pointer (some ⟨D, 0, none⟩)), v24, v25, C0, n0, C1, n1, lo, hi, D, E, by go_simp, ⟨bt_keep hd0, bt_keep hd2, bt_keep hd4, bt_keep hd6⟩, ((hE.setCell (p := ⟨D, 0, none⟩) hDl _).setCell (p := ⟨D, 1, none⟩) hDl _), fun _ hn => absurd hn (by rw [bt_keep hcall]; decide), fun _ hn => absurd hn (by rw [bt_keep hcall]; decide), fun _ hn => absurd hn (by rw [bt_keep hcall]; decide), fun _ hn => absurd hn (by rw [bt_keep hcall]; decide), fun hb => h5 (bt_old hb (by decide : (8 : Nat) ≠ 15)), fun hb => ⟨bt_keep (h6 (bt_old hb (by decide : (9 : Nat) ≠ 15))).1, (h6 (bt_old hb (by decide : (9 : Nat) ≠ 15))).2⟩, fun _ => ⟨bt_keep hcall, rfl⟩, fun hb => ⟨bt_keep (h711 (bt_old hb (by decide : (11 : Nat) ≠ 15))).1, (h711 (bt_old hb (by decide : (11 : Nat) ≠ 15))).2⟩, fun hb => ⟨bt_keep (h712 (bt_old hb (by decide : (12 : Nat) ≠ 15))).1, (h712 (bt_old hb (by decide : (12 : Nat) ≠ 15))).2⟩, fun hb => h817 (bt_old hb (by decide : (17 : Nat) ≠ 15)), ?_⟩
        rw [bt_ne (d := ds) (j := 15) (i := 8) (by decide), bt_ne (d := ds) (j := 15) (i := 13) (by decide), bt_ne (d := ds) (j := 15) (i := 14) (by decide), bt_self (d := ds) (j := 15), bt_ne (d := ds) (j := 15) (i := 16) (by decide)]
        rw [hcall, hal] at hT ⊢; exact hT.store0 ((Kept.ownL _ _).and (Kept.ownL _ _)) ((Only.set _ D 0 _).trans (Only.set _ D 1 _) (Nat.le_refl _) (Nat.le_refl _)) hDD.put2
      · obtain rfl := Option.some.inj hoj
        obtain ⟨hcall, rfl⟩ := h711 (hall ⟨11, .data⟩ (by simp) rfl)
        have hal := (hall ⟨14, .data⟩ (by simp) rfl)
        obtain ⟨rfl, hDl, hDH, -⟩ := hT.box1 hal
        rw [hu] at hDH
        have hDD : Has w' E 33 #[.int .i64 0, .slice none 0 0] := hDH
        clear hDH
        have k0 := hDD.cell 0
        have f0 := hDD.free 0
        have k1 := hDD.cell 1
        have f1 := hDD.free 1
        clear hall
        refine wpOp_step rfl fun K' hK' => ?_
        have hK := Lib.hid hK'
        clear hK'
        rw [if_pos (by rfl)]
        try simp only [Act.put]
        go_simp
        refine hK.out _ _ ⟨v161, v163, v165, v167, v168, v159, v169, (.agg #[.int .i64 q1, .slice C1 y1.length n1]), v171, v23, (.pointer (some ⟨E, 0, none⟩)), v25, C0, n0, C1, n1, lo, hi, D, E, by go_simp, ⟨bt_keep hd0, bt_keep hd2, bt_keep hd4, bt_keep hd6⟩, ((hE.setCell (p := ⟨E, 0, none⟩) hDl _).setCell (p := ⟨E, 1, none⟩) hDl _), fun _ hn => absurd hn (by rw [bt_keep hcall]; decide), fun _ hn => absurd hn (by rw [bt_keep hcall]; decide), fun _ hn => absurd hn (by rw [bt_keep hcall]; decide), fun _ hn => absurd hn (by rw [bt_keep hcall]; decide), fun hb => h5 (bt_old hb (by decide : (8 : Nat) ≠ 16)), fun hb => ⟨bt_keep (h6 (bt_old hb (by decide : (9 : Nat) ≠ 16))).1, (h6 (bt_old hb (by decide : (9 : Nat) ≠ 16))).2⟩, fun hb => ⟨bt_keep (h710 (bt_old hb (by decide : (10 : Nat) ≠ 16))).1, (h710 (bt_old hb (by decide : (10 : Nat) ≠ 16))).2⟩, fun _ => ⟨bt_keep hcall, rfl⟩, fun hb => ⟨bt_keep (h712 (bt_old hb (by decide : (12 : Nat) ≠ 16))).1, (h712 (bt_old hb (by decide : (12 : Nat) ≠ 16))).2⟩, fun hb => h817 (bt_old hb (by decide : (17 : Nat) ≠ 16)), ?_⟩
        rw [bt_ne (d := ds) (j := 16) (i := 8) (by decide), bt_ne (d := ds) (j := 16) (i := 13) (by decide), bt_ne (d := ds) (j := 16) (i := 14) (by decide), bt_ne (d := ds) (j := 16) (i := 15) (by decide), bt_self (d := ds) (j := 16)]
        rw [hcall, hal] at hT ⊢; exact hT.store1 ((Kept.ownL _ _).and (Kept.ownL _ _)) ((Only.set _ E 0 _).trans (Only.set _ E 1 _) (Nat.le_refl _) (Nat.le_refl _)) hDD.put2
      · obtain rfl := Option.some.inj hoj
        obtain ⟨hcall, rfl⟩ := h712 (hall ⟨12, .data⟩ (by simp) rfl)
        clear hall
        refine wpOp_step rfl fun K' hK' => ?_
        have hK := Lib.hid hK'
        clear hK'
        rw [if_pos (by rfl)]
        try simp only [Act.put]
        go_simp
        refine hK.out _ _ ⟨v161, v163, v165, v167, v168, v159, v169, v170, (.int .i64 q2), v23, v24, (.int .i64 q2), C0, n0, C1, n1, lo, hi, D, E, by go_simp, ⟨bt_keep hd0, bt_keep hd2, bt_keep hd4, bt_keep hd6⟩, hE, fun hb hn => hc1 (bt_old hb (by decide : (1 : Nat) ≠ 17)) (bt_no hn), fun hb hn => hc3 (bt_old hb (by decide : (3 : Nat) ≠ 17)) (bt_no hn), fun hb hn => hc5 (bt_old hb (by decide : (5 : Nat) ≠ 17)) (bt_no hn), fun hb hn => hc7 (bt_old hb (by decide : (7 : Nat) ≠ 17)) (bt_no hn), fun hb => h5 (bt_old hb (by decide : (8 : Nat) ≠ 17)), fun hb => ⟨bt_keep (h6 (bt_old hb (by decide : (9 : Nat) ≠ 17))).1, (h6 (bt_old hb (by decide : (9 : Nat) ≠ 17))).2⟩, fun hb => ⟨bt_keep (h710 (bt_old hb (by decide : (10 : Nat) ≠ 17))).1, (h710 (bt_old hb (by decide : (10 : Nat) ≠ 17))).2⟩, fun hb => ⟨bt_keep (h711 (bt_old hb (by decide : (11 : Nat) ≠ 17))).1, (h711 (bt_old hb (by decide : (11 : Nat) ≠ 17))).2⟩, fun _ => ⟨bt_keep hcall, rfl⟩, fun _ => rfl, ?_⟩
        rw [bt_ne (d := ds) (j := 17) (i := 8) (by decide), bt_ne (d := ds) (j := 17) (i := 13) (by decide), bt_ne (d := ds) (j := 17) (i := 14) (by decide), bt_ne (d := ds) (j := 17) (i := 15) (by decide), bt_ne (d := ds) (j := 17) (i := 16) (by decide)]
        exact hT
  obtain ⟨Uh, rfl⟩ : ∃ x : World, x = wc := ⟨_, rfl⟩
  obtain ⟨bbh0, Ch0, nh0, bbh1, Ch1, nh1, rfl, rfl, rfl, hfh, hbxh0, hbxh1, hoh0, hoh1⟩ := hcut
  have HOh0 := Lib.hid hoh0
  clear hoh0
  have HOh1 := Lib.hid hoh1
  clear hoh1
  clear HKh ED EDW
  have HXh0 := Lib.hid hbxh0
  have HXh1 := Lib.hid hbxh1
  clear hbxh0 hbxh1
  have EW := Lib.hid (EW.out.trans hfh)
  have EA := Lib.hid (EA.out.trans hfh)
  have ES := Lib.hid (ES.out.trans hfh)
  have EM := Lib.hid (EM.out.trans hfh)
  clear hfh
  have EH := Lib.hid (Ex.refl Uh)
  have crh0 := (HXh0.out.ex EH.out).cell 0
  have crh0' := (HXh0.out.ex EH.out).cell 1
  have crs0 := (HXs0.out.ex ES.out).cell 0
  have crs0' := (HXs0.out.ex ES.out).cell 1
  go_wp2_with fail
  clear crh0 crh0' crs0 crs0'
  refine (eqModule_ex Ch0 Cs0 q0 y0 nh0 ns0 Uh (HOh0.out.ex EH.out) (HOs0.out.ex ES.out) HY0.out).mono ?_
  rintro e W29 ⟨rfl, he⟩
  have EW := Lib.hid (EW.out.trans he)
  have EA := Lib.hid (EA.out.trans he)
  have ES := Lib.hid (ES.out.trans he)
  have EM := Lib.hid (EM.out.trans he)
  have EH := Lib.hid (EH.out.trans he)
  clear he
  have crh1 := (HXh1.out.ex EH.out).cell 0
  have crh1' := (HXh1.out.ex EH.out).cell 1
  have crs1 := (HXs1.out.ex ES.out).cell 0
  have crs1' := (HXs1.out.ex ES.out).cell 1
  go_wp2_with fail
  clear crh1 crh1' crs1 crs1'
  refine (eqCochain_ex Ch1 Cs1 q1 y1 nh1 ns1 W29 (HOh1.out.ex EH.out) (HOs1.out.ex ES.out) HY1.out).mono ?_
  rintro e W30 ⟨rfl, he⟩
  have EW := Lib.hid (EW.out.trans he)
  have EA := Lib.hid (EA.out.trans he)
  have ES := Lib.hid (ES.out.trans he)
  have EM := Lib.hid (EM.out.trans he)
  have EH := Lib.hid (EH.out.trans he)
  clear he
  have crg0 := (HXg0.out.ex EM.out).cell 0
  have crg0' := (HXg0.out.ex EM.out).cell 1
  go_wp2_with fail
  clear crg0 crg0'
  refine (heldModule_ex Cg0 q0 y0.length ng0 1 W10.heap.size midg W30 (HM0.out.ex EM.out) HY0.out (by omega)).mono ?_
  rintro e W31 ⟨rfl, he⟩
  have EW := Lib.hid (EW.out.trans he)
  have EA := Lib.hid (EA.out.trans he)
  have ES := Lib.hid (ES.out.trans he)
  have EM := Lib.hid (EM.out.trans he)
  have EH := Lib.hid (EH.out.trans he)
  clear he
  rw [HMN0.out]
  have crg1 := (HXg1.out.ex EM.out).cell 0
  have crg1' := (HXg1.out.ex EM.out).cell 1
  go_wp2_with fail
  clear crg1 crg1'
  refine (heldCochain_ex Cg1 q1 y1.length ng1 mn0 midg Ug.heap.size W31 (HM1.out.ex EM.out) HY1.out (by omega)).mono ?_
  rintro e W32 ⟨rfl, he⟩
  have EW := Lib.hid (EW.out.trans he)
  have EA := Lib.hid (EA.out.trans he)
  have ES := Lib.hid (ES.out.trans he)
  have EM := Lib.hid (EM.out.trans he)
  have EH := Lib.hid (EH.out.trans he)
  clear he
  rw [HMN1.out, HMM.out]
  go_wp2_with fail
  go_ret
  exact ⟨rfl, EW.out⟩

end Go.Proofs.YtfnjpbjlikajbaaGreatDoor
