/- l03Boundary and l03Cocycle: the specification's boundary and test. -/
import Derived.Deep.RegionHeld3
import Derived.Test.YtllkaoacfchibaaGreatDoorSd
import Derived.Test.YtllkaoacfchibaaGreatDoorBv
namespace Go.Proofs.YtllkaoacfchibaaGreatDoor
open Go.RowKit

set_option maxRecDepth 100000 in
set_option maxHeartbeats 4000000 in
theorem l03Boundary_any (A U F : Option Addr) (t : List (List Int)) (M n : Nat) (us fs : List Int) (c0 c1 c2 : Nat) (w : World) (hR : RwsW w A t) (hU : IntsW w U us) (hF : IntsW w F fs) (hm : ModF t M us) (hn3 : n ≤ 3) (hfl : fs.length = cellsN t.length n) (hfr : InR M fs) :
    Calls Tryz.prog 104 #[.agg #[.slice A t.length c0], .agg #[.int .i64 (M : Int), .slice U us.length c1], .agg #[.int .i64 (n : Int), .slice F fs.length c2]] w fun e w' => ∃ A' n', e = .returned (.agg #[.int .i64 ((n : Int) + 1), .slice A' (cellsN t.length (n + 1)) n']) ∧ Ex w w' ∧ OwnL w' w.heap.size w'.heap.size A' ((List.range (cellsN t.length (n + 1))).map fun k => bdV t M us fs (lsL t.length (n + 1) k)) := by
  obtain ⟨i0, hi, hi0, hi1, hi2⟩ := info_parts infoI
  have e0 : Ex w ((((w.alloc (.cells #[.slice A t.length c0] 36)).alloc (.cells #[.int .i64 (M : Int), .slice U us.length c1] 38)).alloc (.cells #[.int .i64 (n : Int), .slice F fs.length c2] 33)).alloc (.cells #[.int .i64 0, .slice none 0 0] 33)) := ((((Ex.refl w).alloc _).alloc _).alloc _).alloc _
  have b0 : Has ((((w.alloc (.cells #[.slice A t.length c0] 36)).alloc (.cells #[.int .i64 (M : Int), .slice U us.length c1] 38)).alloc (.cells #[.int .i64 (n : Int), .slice F fs.length c2] 33)).alloc (.cells #[.int .i64 0, .slice none 0 0] 33)) (w.heap.size) 36 #[.slice A t.length c0] := ((((Has.newAt (w := w) (e := 36) (cs := #[.slice A t.length c0]) (k := w.heap.size) (by simp)).alloc _).alloc _).alloc _)
  have b1 : Has ((((w.alloc (.cells #[.slice A t.length c0] 36)).alloc (.cells #[.int .i64 (M : Int), .slice U us.length c1] 38)).alloc (.cells #[.int .i64 (n : Int), .slice F fs.length c2] 33)).alloc (.cells #[.int .i64 0, .slice none 0 0] 33)) (w.heap.size + 1) 38 #[.int .i64 (M : Int), .slice U us.length c1] := (((Has.newAt (w := (w.alloc (.cells #[.slice A t.length c0] 36))) (e := 38) (cs := #[.int .i64 (M : Int), .slice U us.length c1]) (k := w.heap.size + 1) (by simp)).alloc _).alloc _)
  have b2 : Has ((((w.alloc (.cells #[.slice A t.length c0] 36)).alloc (.cells #[.int .i64 (M : Int), .slice U us.length c1] 38)).alloc (.cells #[.int .i64 (n : Int), .slice F fs.length c2] 33)).alloc (.cells #[.int .i64 0, .slice none 0 0] 33)) (w.heap.size + 1 + 1) 33 #[.int .i64 (n : Int), .slice F fs.length c2] := ((Has.newAt (w := ((w.alloc (.cells #[.slice A t.length c0] 36)).alloc (.cells #[.int .i64 (M : Int), .slice U us.length c1] 38))) (e := 33) (cs := #[.int .i64 (n : Int), .slice F fs.length c2]) (k := w.heap.size + 1 + 1) (by simp)).alloc _)
  have b3 : Has ((((w.alloc (.cells #[.slice A t.length c0] 36)).alloc (.cells #[.int .i64 (M : Int), .slice U us.length c1] 38)).alloc (.cells #[.int .i64 (n : Int), .slice F fs.length c2] 33)).alloc (.cells #[.int .i64 0, .slice none 0 0] 33)) (w.heap.size + 1 + 1 + 1) 33 #[.int .i64 0, .slice none 0 0] := (Has.newAt (w := (((w.alloc (.cells #[.slice A t.length c0] 36)).alloc (.cells #[.int .i64 (M : Int), .slice U us.length c1] 38)).alloc (.cells #[.int .i64 (n : Int), .slice F fs.length c2] 33))) (e := 33) (cs := #[.int .i64 0, .slice none 0 0]) (k := w.heap.size + 1 + 1 + 1) (by simp))
  obtain ⟨D, hDw⟩ : ∃ D, w.heap.size + 1 + 1 + 1 + 1 = D := ⟨_, rfl⟩
  have hD : ((((w.alloc (.cells #[.slice A t.length c0] 36)).alloc (.cells #[.int .i64 (M : Int), .slice U us.length c1] 38)).alloc (.cells #[.int .i64 (n : Int), .slice F fs.length c2] 33)).alloc (.cells #[.int .i64 0, .slice none 0 0] 33)).heap.size = D := by simp [hDw]
  have HZW := Lib.hid hD
  have HDw := Lib.hid hDw
  have HE0 := Lib.hid e0
  have HB0 := Lib.hid b0
  have HB1 := Lib.hid b1
  have HB2 := Lib.hid b2
  have HB3 := Lib.hid b3
  have hN8 := hm.g.n8
  have hN1 := hm.g.n1
  have hM2 := hm.m2
  have hpn : ((n + 1 : Nat) : Int) = (n : Int) + 1 := by omega
  have hCC := fun W => l03Cells_any A t.length c0 (n + 1) W hN8 hN1 (by omega)
  have hc24 := cellsN_le hN8 (show n + 1 ≤ 4 by omega)
  have hLI := fun k (h : k < cellsN t.length (n + 1)) W => l03List_c A t.length c0 (n + 1) k W hN8 (.inr (cells_p1 h)) hN1 (by omega) (by omega)
  have HSI := Lib.hid (fun k (h : k < cellsN t.length (n + 1)) g e W (he : Ex w W) (hX : IntsW W (some ⟨g, 0, none⟩) (lsL t.length (n + 1) k)) (hle : n + 1 ≤ e) => l03Side_any A U F g 0 t M n us fs (lsL t.length (n + 1) k) c0 c1 c2 e W (hR.ex he) (hU.ex he) (hF.ex he) hm hX (lsL_in (.inr (cells_p1 h))) (lsL_len ..) hn3 hle hfl hfr)
  rw [hpn] at hCC hLI
  have HLI := Lib.hid hLI
  have HCC := Lib.hid hCC
  obtain ⟨f, hf⟩ : ∃ f : Nat → Int, f = fun k => bdV t M us fs (lsL t.length (n + 1) k) := ⟨_, rfl⟩
  have hfk : ∀ k, bdV t M us fs (lsL t.length (n + 1) k) = f k := fun k => by rw [hf]
  simp only [hfk] at HSI ⊢
  obtain ⟨cn, hcn⟩ : ∃ cn, cellsN t.length (n + 1) = cn := ⟨_, rfl⟩
  rw [hcn] at HCC HLI HSI hc24 ⊢
  clear hR hU hF hm hfl hfr hD hDw hpn hCC hLI hf hfk hcn e0 b0 b1 b2 b3
  go_enter Tryz.func104, Tryz.ntmps104
  go_wp2_with fail
  generalize ((((w.alloc (.cells #[.slice A t.length c0] 36)).alloc (.cells #[.int .i64 (M : Int), .slice U us.length c1] 38)).alloc (.cells #[.int .i64 (n : Int), .slice F fs.length c2] 33)).alloc (.cells #[.int .i64 0, .slice none 0 0] 33)) = W0 at *
  have hD := HZW.out
  obtain ⟨W1, hW1⟩ : ∃ W1, (W0.alloc (.cells #[] 2)).alloc (.cells #[.int .i64 ((n : Int) + 1), .slice (some ⟨D, 0, none⟩) 0 0] 33) = W1 := ⟨_, rfl⟩
  have HBO : Hid (Has W1 (D + 1) 33 #[.int .i64 ((n : Int) + 1), .slice (some ⟨D, 0, none⟩) 0 0]) := Lib.hid (by rw [← hW1]; exact Has.newAt (by simp [hD]))
  have HG1 : Hid (GrowI W1 W0.heap.size (.slice (some ⟨D, 0, none⟩) 0 0) 0 []) := Lib.hid (by rw [← hW1, ← hD]; exact (GrowI.empty (lo := W0.heap.size) W0 (Nat.le_refl _)).ex (Ex.new _ _))
  have HE1 : Hid (Ex W0 W1) := Lib.hid (by rw [← hW1]; exact ((Ex.refl W0).alloc _).alloc _)
  have HDW := Lib.hid hD
  rw [HDw.out, hW1]
  clear hD hW1
  go_loopw [9] (fun i wr => ∃ (k : Nat) (v : Value), k ≤ cn ∧ i = .int .i64 (k : Int) ∧ Hid (Ex W0 wr) ∧ Hid (Has wr (D + 1) 33 #[.int .i64 ((n : Int) + 1), v]) ∧ Hid (GrowI wr W0.heap.size v k ((List.range k).map f))) (fun i _ => cn - (intOf i).toNat)
  case atStart => exact ⟨0, _, Nat.zero_le _, rfl, HE1, HBO, HG1⟩
  case round =>
    obtain ⟨k, v, hk, rfl, HE, HO, HG⟩ := hrel
    have cg := (HB0.out.ex HE.out).cell 0
    go_wp2_with fail
    refine (HCC.out _).mono ?_
    rintro e W2 ⟨rfl, he2⟩
    have HE2 := Lib.hid (HE.out.trans he2)
    have HO2 := Lib.hid (HO.out.ex he2)
    have HG2 := Lib.hid (HG.out.ex he2)
    clear he2 cg HE HO HG
    by_cases hlt : k < cn
    · have HA0 := Lib.hid (HB0.out.ex HE2.out)
      have HA1 := Lib.hid (HB1.out.ex HE2.out)
      have HA2 := Lib.hid (HB2.out.ex HE2.out)
      have HLK := Lib.hid (HLI.out k hlt)
      have HSK := Lib.hid (HSI.out k hlt)
      obtain ⟨z, hz⟩ : ∃ z, f k = z := ⟨_, rfl⟩
      have HFZ := Lib.hid hz
      rw [hz] at HSK
      clear hz
      have hC0 := And.intro (HO2.out.cell 1) (And.intro (HA0.out.cell 0) (And.intro (HA1.out.cell 0) (And.intro (HA1.out.cell 1) (And.intro (HA2.out.cell 0) (HA2.out.cell 1)))))
      go_wp2_with fail
      refine Late.region (C := fun w' => w'.cell? ⟨D + 1, 1, none⟩ = some v ∧ w'.cell? ⟨w.heap.size, 0, none⟩ = some (.slice A t.length c0) ∧ w'.cell? ⟨w.heap.size + 1, 0, none⟩ = some (.int .i64 (M : Int)) ∧ w'.cell? ⟨w.heap.size + 1, 1, none⟩ = some (.slice U us.length c1) ∧ w'.cell? ⟨w.heap.size + 1 + 1, 0, none⟩ = some (.int .i64 (n : Int)) ∧ w'.cell? ⟨w.heap.size + 1 + 1, 1, none⟩ = some (.slice F fs.length c2)) (fun j => decide (j < 12)) (by kernel_rfl) hC0 (fun hC => ?_)
      refine Late.take (i := 0) (oi := _) (v := ?_) rfl (by kernel_rfl) (by kernel_rfl) (by kernel_rfl) (by kernel_rfl) (fun _ _ _ h => h) (Or.inl ⟨by rfl, ?_⟩) hC ?_
      rotate_left
      · (intro w hSw; (try dsimp only at hSw); go_simp; first | done | with_reducible rfl)
      simp only [Act.put]
      refine Late.take (i := 1) (oi := _) (v := ?_) rfl (by kernel_rfl) (by kernel_rfl) (by kernel_rfl) (by kernel_rfl) (fun _ _ _ h => h) (Or.inl ⟨by rfl, ?_⟩) hC ?_
      rotate_left
      · (intro w hSw; (try dsimp only at hSw); go_simp; first | done | with_reducible rfl)
      simp only [Act.put]
      refine Late.take (i := 2) (oi := _) (v := ?_) rfl (by kernel_rfl) (by kernel_rfl) (by kernel_rfl) (by kernel_rfl) (fun _ _ _ h => h) (Or.inl ⟨by rfl, ?_⟩) hC ?_
      rotate_left
      · (intro w hSw; (try dsimp only at hSw); go_simp; first | done | with_reducible rfl)
      simp only [Act.put]
      refine Late.take (i := 3) (oi := _) (v := ?_) rfl (by kernel_rfl) (by kernel_rfl) (by kernel_rfl) (by kernel_rfl) (fun _ _ _ h => h) (Or.inl ⟨by rfl, ?_⟩) hC ?_
      rotate_left
      · (intro w hSw; (try dsimp only at hSw); go_simp; first | done | with_reducible rfl)
      simp only [Act.put]
      refine Late.take (i := 4) (oi := _) (v := ?_) rfl (by kernel_rfl) (by kernel_rfl) (by kernel_rfl) (by kernel_rfl) (fun _ _ _ h => h) (Or.inl ⟨by rfl, ?_⟩) hC ?_
      rotate_left
      · (intro w hSw; (try dsimp only at hSw); go_simp; first | done | with_reducible rfl)
      simp only [Act.put]
      refine Late.take (i := 5) (oi := _) (v := ?_) rfl (by kernel_rfl) (by kernel_rfl) (by kernel_rfl) (by kernel_rfl) (fun _ _ _ h => h) (Or.inl ⟨by rfl, ?_⟩) hC ?_
      rotate_left
      · (intro w hSw; (try dsimp only at hSw); go_simp; first | done | with_reducible rfl)
      simp only [Act.put]
      refine Late.take (i := 6) (oi := _) (v := ?_) rfl (by kernel_rfl) (by kernel_rfl) (by kernel_rfl) (by kernel_rfl) (fun _ _ _ h => h) (Or.inl ⟨by rfl, ?_⟩) hC ?_
      rotate_left
      · (intro w hSw; (try dsimp only at hSw); go_simp; first | done | with_reducible rfl)
      simp only [Act.put]
      refine Late.take (i := 7) (oi := _) (v := ?_) rfl (by kernel_rfl) (by kernel_rfl) (by kernel_rfl) (by kernel_rfl) (fun _ _ _ h => h) (Or.inl ⟨by rfl, ?_⟩) hC ?_
      rotate_left
      · (intro w hSw; (try dsimp only at hSw); go_simp; first | done | with_reducible rfl)
      simp only [Act.put]
      refine Late.one (i := 8) (o := _) (by kernel_rfl) rfl (fun K' hK' => ?_)
      go_simp
      refine (HLK.out W2.drew).mono ?_
      rintro e W5 ⟨L, n5, rfl, he5, ho5, hn5, g5, rfl⟩
      have hx5 : Ex W2 W5 := (Ex.refl W2).drew.trans he5
      have HX5 := Lib.hid ho5.ints
      have hC5 := And.intro ((HO2.out.ex hx5).cell 1) (And.intro ((HA0.out.ex hx5).cell 0) (And.intro ((HA1.out.ex hx5).cell 0) (And.intro ((HA1.out.ex hx5).cell 1) (And.intro ((HA2.out.ex hx5).cell 0) ((HA2.out.ex hx5).cell 1)))))
      have HE5 := Lib.hid (HE2.out.trans hx5)
      have HXX := Lib.hid hx5
      refine hK'.out _ _ (fun _ => hC5) (fun _ => ?_)
      clear hK' K' hC hC0 he5 ho5 hx5
      try simp only [Act.put, List.setIfInBounds_toArray, List.set_cons_zero, List.set_cons_succ]
      refine Late.one (i := 9) (o := _) (by kernel_rfl) rfl (fun K' hK' => ?_)
      go_simp
      refine (HSK.out g5 n5 W5 (HE0.out.trans HE5.out) HX5.out hn5).mono ?_
      rintro e W6 ⟨rfl, he6⟩
      have hx6 := HXX.out.trans he6
      have HE6 := Lib.hid (HE2.out.trans hx6)
      have HA06 := Lib.hid (HA0.out.ex hx6)
      have HA16 := Lib.hid (HA1.out.ex hx6)
      have HA26 := Lib.hid (HA2.out.ex hx6)
      have HO6 := Lib.hid (HO2.out.ex hx6)
      have HG6 := Lib.hid (HG2.out.ex hx6)
      have hC6 := And.intro (HO6.out.cell 1) (And.intro (HA06.out.cell 0) (And.intro (HA16.out.cell 0) (And.intro (HA16.out.cell 1) (And.intro (HA26.out.cell 0) (HA26.out.cell 1)))))
      refine hK'.out _ _ (fun _ => hC6) (fun _ => ?_)
      clear hK' K' hC5 he6 hx6 hC6
      try simp only [Act.put, List.setIfInBounds_toArray, List.set_cons_zero, List.set_cons_succ]
      have HE := HE6
      have HG := HG6
      refine Late.one (i := 10) (o := _) (by kernel_rfl) rfl (fun K' hK' => ?_)
      go_simp
      have e1 := HE.out.alloc (.cells #[.int .i64 z] 2)
      have HA061 := HA06.out.alloc (.cells #[.int .i64 z] 2)
      have HA161 := HA16.out.alloc (.cells #[.int .i64 z] 2)
      have HA261 := HA26.out.alloc (.cells #[.int .i64 z] 2)
      have HO61 := HO6.out.alloc (.cells #[.int .i64 z] 2)
      have g1 := HG.out.ex (Ex.new W6 (.cells #[.int .i64 z] 2))
      have hn1 := cell_one_new W6 (.int .i64 z) 2
      have hz1 : W6.heap.size + 1 = (W6.alloc (.cells #[.int .i64 z] 2)).heap.size := by simp
      have hx1 := Ex.new W6 (.cells #[.int .i64 z] 2)
      refine hK'.out _ _ (fun _ => ⟨HO61.cell 1, HA061.cell 0, HA161.cell 0, HA161.cell 1, HA261.cell 0, HA261.cell 1⟩) (fun _ => ?_)
      clear hK' K'
      generalize W6.alloc (.cells #[.int .i64 z] 2) = w1 at *
      try simp only [Act.put, List.setIfInBounds_toArray, List.set_cons_zero, List.set_cons_succ]
      refine Late.one (i := 11) (o := _) (by kernel_rfl) rfl (fun K' hK' => ?_)
      rw [if_pos (by rfl)]
      refine wp_append_own _ _ _ 25 rfl W0.heap.size 2 i0 (.int .i64 0) 1 8 Tryz.underlying25 hi hi0 hi1 hi2 rfl (by decide) _ _ _ rfl g1.1 ⟨W6.heap.size, 0, none⟩ 1 1 [.int .i64 z] rfl rfl hn1 (by simp [Value.oneCell']) (by unfold maxLen; omega) (by omega) (by have := e1.size; omega) ?_
      intro v' w3 hown3 hgrow3 _
      obtain ⟨g3, cap3, rfl⟩ := ownsRow_succ hown3
      have HE3 := Lib.hid (Ex.grew e1 g1 (Nat.le_refl _) hgrow3)
      have HA063 := Lib.hid (Has.grew HA061 (by decide) g1 hgrow3)
      have HA163 := Lib.hid (Has.grew HA161 (by decide) g1 hgrow3)
      have HA263 := Lib.hid (Has.grew HA261 (by decide) g1 hgrow3)
      have HO63 := Lib.hid (Has.grew HO61 (by decide) g1 hgrow3)
      have HG3 := Lib.hid (g1.snoc hown3)
      have c33 := HO63.out.cell 1
      have f33 := HO63.out.free 1
      refine hK'.out _ _ (fun _ => ⟨HO63.out.cell 1, HA063.out.cell 0, HA163.out.cell 0, HA163.out.cell 1, HA263.out.cell 0, HA263.out.cell 1⟩) (fun _ => ?_)
      clear hK' K' hown3 hgrow3 g1 e1 hn1 hx1 HA061 HA161 HA261 HO61
      try simp only [Act.put]
      refine Late.one (i := 12) (o := _) (by kernel_rfl) rfl (fun K' hK' => ?_)
      go_simp
      refine hK'.out _ _ (fun h => by cases h) (fun _ => ?_)
      clear hK' K'
      try simp only [Act.put, List.setIfInBounds_toArray, List.set_cons_zero, List.set_cons_succ]
      refine Late.one (i := 13) (o := _) (by kernel_rfl) rfl (fun K' hK' => ?_)
      go_simp
      refine hK'.out _ _ (fun h => by cases h) (fun _ => ?_)
      clear hK' K'
      try simp only [Act.put, List.setIfInBounds_toArray, List.set_cons_zero, List.set_cons_succ]
      refine Late.done (by kernel_rfl) ?_ _
      go_wp2_with fail
      refine ⟨?rel, ?measure⟩
      case rel =>
        refine ⟨k + 1, _, by omega, by go_num, Lib.hid (HE3.out.setCell (p := ⟨D + 1, 1, none⟩) (by have := HDW.out; show W0.heap.size ≤ D + 1; omega) _), Lib.hid (by simpa using HO63.out.put 1 _), Lib.hid ?_⟩
        rw [List.range_succ, List.map_append, List.map_cons, List.map_nil, HFZ.out]
        exact HG3.out.set HO63.out (by decide) _ _
      case measure => simp [intOf]; omega
    · obtain rfl : cn = k := by omega
      obtain ⟨A', n', ev, hO⟩ := HG2.out.own
      have hln : ((List.range cn).map f).length = cn := by simp
      rw [hln] at ev
      subst ev
      have cO := HO2.out.cell 0
      have cO' := HO2.out.cell 1
      have HR4 := Lib.hid (HB3.out.ex HE2.out)
      have c4 := HR4.out.cell 0
      have c4' := HR4.out.cell 1
      have f4 := HR4.out.free 0
      have f4' := HR4.out.free 1
      have HOO := Lib.hid hO
      have hz0 := HE0.out.size
      have hlt3 := HB3.out.lt
      clear hO hln
      go_wp2_with fail
      have H4 := HR4.out.put2 (u := .int .i64 ((n : Int) + 1)) (v := .slice A' cn n')
      have c4 := H4.cell 0
      have c4' := H4.cell 1
      refine bodyPost_ret (v := .agg #[.int .i64 ((n : Int) + 1), .slice A' cn n']) (by simp [results, Tryz.results104, go_sem, c4, c4']) rfl ⟨A', n', rfl, ((HE0.out.trans HE2.out).setCell (by show w.heap.size ≤ w.heap.size + 1 + 1 + 1; omega) _).setCell (by show w.heap.size ≤ w.heap.size + 1 + 1 + 1; omega) _, ?_⟩
      exact ((HOO.out.above (Only.set _ _ _ _) hlt3).above (Only.set _ _ _ _) hlt3).mono hz0 (by simp) (Nat.le_refl _)

end Go.Proofs.YtllkaoacfchibaaGreatDoor
