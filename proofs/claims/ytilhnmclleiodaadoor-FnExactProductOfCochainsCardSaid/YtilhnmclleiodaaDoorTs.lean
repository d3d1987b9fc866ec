/- ProductOfCochains: the specification's cochain. -/
import Derived.Deep.RegionHeld3
import Derived.Test.YtilhnmclleiodaaDoorTx
namespace Go.Proofs.YtilhnmclleiodaaDoor
open Go.RowKit

set_option maxRecDepth 100000 in
set_option maxHeartbeats 4000000 in
theorem l03Times_any (A U F H : Option Addr) (t : List (List Int)) (M p q : Nat) (us fs gs : List Int) (c0 c1 c2 c3 : Nat) (w : World)
    (hR : RwsW w A t) (hU : IntsW w U us) (hF : IntsW w F fs) (hH : IntsW w H gs) (hm : ModF t M us) (hpq : p + q ≤ 3) (hfl : fs.length = cellsN t.length p) (hfr : InR M fs) (hgl : gs.length = cellsN t.length q) (hgr : InR M gs) :
    Calls Tryd.prog 80 #[.agg #[.slice A t.length c0], .agg #[.int .i64 (M : Int), .slice U us.length c1], .agg #[.int .i64 (p : Int), .slice F fs.length c2], .agg #[.int .i64 (q : Int), .slice H gs.length c3]] w fun e w' => ∃ A' n', e = .returned (.agg #[.int .i64 ((p + q : Nat) : Int), .slice A' (cellsN t.length (p + q)) n']) ∧ Ex w w' ∧ OwnL w' w.heap.size w'.heap.size A' ((List.range (cellsN t.length (p + q))).map fun k => tmsV t M us fs gs p q k) := by
  obtain ⟨i0, hi, hi0, hi1, hi2⟩ := info_parts infoI
  have e0 : Ex w (((((w.alloc (.cells #[.slice A t.length c0] 31)).alloc (.cells #[.int .i64 (M : Int), .slice U us.length c1] 28)).alloc (.cells #[.int .i64 (p : Int), .slice F fs.length c2] 43)).alloc (.cells #[.int .i64 (q : Int), .slice H gs.length c3] 43)).alloc (.cells #[.int .i64 0, .slice none 0 0] 43)) := (((((Ex.refl w).alloc _).alloc _).alloc _).alloc _).alloc _
  have b0 : Has (((((w.alloc (.cells #[.slice A t.length c0] 31)).alloc (.cells #[.int .i64 (M : Int), .slice U us.length c1] 28)).alloc (.cells #[.int .i64 (p : Int), .slice F fs.length c2] 43)).alloc (.cells #[.int .i64 (q : Int), .slice H gs.length c3] 43)).alloc (.cells #[.int .i64 0, .slice none 0 0] 43)) (w.heap.size) 31 #[.slice A t.length c0] := (((((Has.newAt (w := w) (e := 31) (cs := #[.slice A t.length c0]) (k := w.heap.size) (by simp)).alloc _).alloc _).alloc _).alloc _)
  have b1 : Has (((((w.alloc (.cells #[.slice A t.length c0] 31)).alloc (.cells #[.int .i64 (M : Int), .slice U us.length c1] 28)).alloc (.cells #[.int .i64 (p : Int), .slice F fs.length c2] 43)).alloc (.cells #[.int .i64 (q : Int), .slice H gs.length c3] 43)).alloc (.cells #[.int .i64 0, .slice none 0 0] 43)) (w.heap.size + 1) 28 #[.int .i64 (M : Int), .slice U us.length c1] := ((((Has.newAt (w := (w.alloc (.cells #[.slice A t.length c0] 31))) (e := 28) (cs := #[.int .i64 (M : Int), .slice U us.length c1]) (k := w.heap.size + 1) (by simp)).alloc _).alloc _).alloc _)
  have b2 : Has (((((w.alloc (.cells #[.slice A t.length c0] 31)).alloc (.cells #[.int .i64 (M : Int), .slice U us.length c1] 28)).alloc (.cells #[.int .i64 (p : Int), .slice F fs.length c2] 43)).alloc (.cells #[.int .i64 (q : Int), .slice H gs.length c3] 43)).alloc (.cells #[.int .i64 0, .slice none 0 0] 43)) (w.heap.size + 1 + 1) 43 #[.int .i64 (p : Int), .slice F fs.length c2] := (((Has.newAt (w := ((w.alloc (.cells #[.slice A t.length c0] 31)).alloc (.cells #[.int .i64 (M : Int), .slice U us.length c1] 28))) (e := 43) (cs := #[.int .i64 (p : Int), .slice F fs.length c2]) (k := w.heap.size + 1 + 1) (by simp)).alloc _).alloc _)
  have b3 : Has (((((w.alloc (.cells #[.slice A t.length c0] 31)).alloc (.cells #[.int .i64 (M : Int), .slice U us.length c1] 28)).alloc (.cells #[.int .i64 (p : Int), .slice F fs.length c2] 43)).alloc (.cells #[.int .i64 (q : Int), .slice H gs.length c3] 43)).alloc (.cells #[.int .i64 0, .slice none 0 0] 43)) (w.heap.size + 1 + 1 + 1) 43 #[.int .i64 (q : Int), .slice H gs.length c3] := ((Has.newAt (w := (((w.alloc (.cells #[.slice A t.length c0] 31)).alloc (.cells #[.int .i64 (M : Int), .slice U us.length c1] 28)).alloc (.cells #[.int .i64 (p : Int), .slice F fs.length c2] 43))) (e := 43) (cs := #[.int .i64 (q : Int), .slice H gs.length c3]) (k := w.heap.size + 1 + 1 + 1) (by simp)).alloc _)
  have b4 : Has (((((w.alloc (.cells #[.slice A t.length c0] 31)).alloc (.cells #[.int .i64 (M : Int), .slice U us.length c1] 28)).alloc (.cells #[.int .i64 (p : Int), .slice F fs.length c2] 43)).alloc (.cells #[.int .i64 (q : Int), .slice H gs.length c3] 43)).alloc (.cells #[.int .i64 0, .slice none 0 0] 43)) (w.heap.size + 1 + 1 + 1 + 1) 43 #[.int .i64 0, .slice none 0 0] := (Has.newAt (w := ((((w.alloc (.cells #[.slice A t.length c0] 31)).alloc (.cells #[.int .i64 (M : Int), .slice U us.length c1] 28)).alloc (.cells #[.int .i64 (p : Int), .slice F fs.length c2] 43)).alloc (.cells #[.int .i64 (q : Int), .slice H gs.length c3] 43))) (e := 43) (cs := #[.int .i64 0, .slice none 0 0]) (k := w.heap.size + 1 + 1 + 1 + 1) (by simp))
  obtain ⟨D, hDw⟩ : ∃ D, w.heap.size + 1 + 1 + 1 + 1 + 1 = D := ⟨_, rfl⟩
  have hD : (((((w.alloc (.cells #[.slice A t.length c0] 31)).alloc (.cells #[.int .i64 (M : Int), .slice U us.length c1] 28)).alloc (.cells #[.int .i64 (p : Int), .slice F fs.length c2] 43)).alloc (.cells #[.int .i64 (q : Int), .slice H gs.length c3] 43)).alloc (.cells #[.int .i64 0, .slice none 0 0] 43)).heap.size = D := by simp [hDw]
  have HZW := Lib.hid hD
  have HDw := Lib.hid hDw
  have HE0 := Lib.hid e0
  have HB0 := Lib.hid b0
  have HB1 := Lib.hid b1
  have HB2 := Lib.hid b2
  have HB3 := Lib.hid b3
  have HB4 := Lib.hid b4
  have hN8 := hm.g.n8
  have hN1 := hm.g.n1
  have hM2 := hm.m2
  have hM12 := hm.m12
  have HCC := Lib.hid (fun W => l03Cells_any A t.length c0 (p + q) W hN8 hN1 (by omega))
  have hc24 := cellsN_le hN8 (show p + q ≤ 4 by omega)
  have HDN := Lib.hid (fun k (h : k < cellsN t.length (p + q)) => cells_pk h)
  have HRW := Lib.hid hR
  obtain ⟨bt, ot, bb, oo, C, rfl, hQ⟩ := hR.sq hm.g
  have HQ := Lib.hid hQ
  have HU := Lib.hid hU
  have HF := Lib.hid hF
  have HH := Lib.hid hH
  have HM := Lib.hid hm
  have HFR := Lib.hid hfr
  have HFL := Lib.hid hfl
  have HGR := Lib.hid hgr
  have HGL := Lib.hid hgl
  have hpc : (p : Int) + (q : Int) = ((p + q : Nat) : Int) := by omega
  obtain ⟨d, hd⟩ : ∃ d, p + q = d := ⟨_, rfl⟩
  rw [hd] at HCC hc24 HDN hpq hpc ⊢
  have HDD := Lib.hid hd
  obtain ⟨cn, hcn⟩ : ∃ cn, cellsN t.length d = cn := ⟨_, rfl⟩
  rw [hcn] at HCC hc24 HDN ⊢
  clear hR hU hF hH hm hfr hfl hgr hgl hQ e0 b0 b1 b2 b3 b4 hcn hd hD hDw
  go_enter Tryd.func80, Tryd.ntmps80
  go_wp2_with fail
  generalize (((((w.alloc (.cells #[.slice (some ⟨bt, ot, none⟩) t.length c0] 31)).alloc (.cells #[.int .i64 (M : Int), .slice U us.length c1] 28)).alloc (.cells #[.int .i64 (p : Int), .slice F fs.length c2] 43)).alloc (.cells #[.int .i64 (q : Int), .slice H gs.length c3] 43)).alloc (.cells #[.int .i64 0, .slice none 0 0] 43)) = W0 at *
  have hD := HZW.out
  obtain ⟨W1, hW1⟩ : ∃ W1, (W0.alloc (.cells #[] 2)).alloc (.cells #[.int .i64 (d : Int), .slice (some ⟨D, 0, none⟩) 0 0] 43) = W1 := ⟨_, rfl⟩
  have HBO : Hid (Has W1 (D + 1) 43 #[.int .i64 (d : Int), .slice (some ⟨D, 0, none⟩) 0 0]) := Lib.hid (by rw [← hW1]; exact Has.newAt (by simp [hD]))
  have HG1 : Hid (GrowI W1 W0.heap.size (.slice (some ⟨D, 0, none⟩) 0 0) 0 []) := Lib.hid (by rw [← hW1, ← hD]; exact (GrowI.empty (lo := W0.heap.size) W0 (Nat.le_refl _)).ex (Ex.new _ _))
  have HE1 : Hid (Ex W0 W1) := Lib.hid (by rw [← hW1]; exact ((Ex.refl W0).alloc _).alloc _)
  have HDW := Lib.hid hD
  rw [HDw.out, hW1]
  clear hD hW1
  go_loopw [11] (fun i wr => ∃ (k : Nat) (v : Value), k ≤ cn ∧ i = .int .i64 (k : Int) ∧ Hid (Ex W0 wr) ∧ Hid (Has wr (D + 1) 43 #[.int .i64 (d : Int), v]) ∧ Hid (GrowI wr W0.heap.size v k ((List.range k).map fun k => tmsV t M us fs gs p q k))) (fun i _ => cn - (intOf i).toNat)
  case atStart => exact ⟨0, _, Nat.zero_le _, rfl, HE1, HBO, HG1⟩
  case round =>
    obtain ⟨k, v, hk, rfl, HE, HO, HG⟩ := hrel
    have cg := (HB0.out.ex HE.out).cell 0
    go_wp2_with fail
    refine (HCC.out _).mono ?_
    rintro e W2 ⟨rfl, he2⟩
    have HE2 := Lib.hid (HE.out.trans he2)
    have HO2 := Lib.hid (HO.out.ex he2)
    have HG2 := Lib.hid (HG.out.ex he2)
    clear he2 cg HE HO HG
    by_cases hlt : k < cn
    · have cg := (HB0.out.ex HE2.out).cell 0
      go_wp2_with fail
      refine (l03List_c (some ⟨bt, ot, none⟩) t.length c0 d k W2 hN8 (HDN.out k hlt) hN1 (by omega) (by omega)).mono ?_
      rintro e W3 ⟨L, n3, rfl, he3, ho3, hn3, g3, rfl⟩
      rw [lsL_len]
      have hLr := lsL_in (k := k) (HDN.out k hlt)
      have hLl := lsL_len t.length d k
      have hX3 := ho3.ints
      have hT : tmsV t M us fs gs p q k = valR t.length fs ((lsL t.length d k).take p) * nth us (plF t (lsL t.length d k) p) * valR t.length gs ((lsL t.length d k).drop p) % (M : Int) := by rw [tmsV, HDD.out]
      obtain ⟨Ls, hLs⟩ : ∃ Ls, lsL t.length d k = Ls := ⟨_, rfl⟩
      rw [hLs] at hLr hLl hX3 hT
      have HLR := Lib.hid hLr
      have HLL := Lib.hid hLl
      have HX3 := Lib.hid hX3
      have HT := Lib.hid hT
      have HE3 := Lib.hid (HE2.out.trans he3)
      have HO3 := Lib.hid (HO2.out.ex he3)
      have HG3 := Lib.hid (HG2.out.ex he3)
      clear he3 ho3 cg hLs hLr hLl hX3 hT HE2 HO2 HG2
      go_wp2_with fail
      go_loopw [13, 14] (fun s i wr => ∃ j : Nat, j ≤ p ∧ i = .int .i64 (j : Int) ∧ s = .int .i64 (plF t Ls j : Int) ∧ Hid (Ex W3 wr)) (fun _ i _ => p - (intOf i).toNat)
      case atStart => exact ⟨0, Nat.zero_le _, rfl, rfl, Lib.hid (Ex.refl _)⟩
      case round =>
        obtain ⟨j, hj, rfl, rfl, HEj⟩ := hrel
        have HEw := Lib.hid (HE3.out.trans HEj.out)
        have cf := (HB2.out.ex HEw.out).cell 0
        by_cases hjp : j < p
        · have hjl : j < Ls.length := by have h1 := HLL.out; have h2 := HDD.out; omega
          obtain ⟨bx, ox, ebx, hbx, hcx⟩ := HX3.out.ints.at_ hjl
          simp only [Option.some.injEq, Addr.mk.injEq, and_true] at ebx
          obtain ⟨rfl, rfl⟩ := ebx
          have hrk := HLR.out j hjl
          obtain ⟨x, hx2⟩ : ∃ x : Nat, nth Ls j = (x : Int) := ⟨(nth Ls j).toNat, by omega⟩
          have hpl := plF_lt HM.out.g HLR.out j (by omega)
          have hxN : x < t.length := by omega
          have hq := HQ.out.exB (HE0.out.trans HEw.out) (Nat.le_refl _)
          have c1 := hq.row_ hpl
          have c2 := hq.ent_ hpl hxN
          rw [HM.out.g.ent hpl hxN] at c2
          have HS : Hid (plF t Ls (j + 1) = mul t (plF t Ls j) x) := Lib.hid (by rw [plF, hx2]; rfl)
          have hcx' : wr.cell? ⟨g3, 0 + j, none⟩ = some (.int .i64 (x : Int)) := by rw [← hx2]; exact (HEj.out.below.cell (p := ⟨g3, 0 + j, none⟩) hbx).trans hcx
          obtain ⟨u, hu⟩ : ∃ u, plF t Ls j = u := ⟨_, rfl⟩
          rw [hu] at hpl c1 c2 HS ⊢
          obtain ⟨z, hz⟩ : ∃ z, mul t u x = z := ⟨_, rfl⟩
          rw [hz] at c2 HS
          rw [Nat.zero_add] at hcx'
          have hjd : j < d := by have h2 := HDD.out; omega
          have HSK0 := Lib.hid (And.intro ((HB0.out.ex HEw.out).cell 0) (And.intro c1 (And.intro c2 hcx')))
          have HSK : Hid (∀ W', Ex wr.drew W' → W'.cell? ⟨w.heap.size, 0, none⟩ = some (.slice (some ⟨bt, ot, none⟩) t.length c0) ∧ W'.cell? ⟨bt, ot + u, none⟩ = some (.slice (some ⟨bb u, oo u, none⟩) t.length (C u)) ∧ W'.cell? ⟨bb u, oo u + x, none⟩ = some (.int .i64 (z : Int)) ∧ W'.cell? ⟨g3, j, none⟩ = some (.int .i64 (x : Int))) := Lib.hid (fun W' he => by
            have hh : ∀ (P : Addr) (V : Value), wr.cell? P = some V → W'.cell? P = some V := fun P V h => (he.below.cell (p := P) (World.block_lt_of_cell? _ _ h)).trans h
            exact ⟨hh _ _ HSK0.out.1, hh _ _ HSK0.out.2.1, hh _ _ HSK0.out.2.2.1, hh _ _ HSK0.out.2.2.2⟩)
          clear hx2 hrk hq hu hz c1 c2 hcx hcx' HSK0
          go_wp2_with fail
          refine wp_region_quiet (C := fun w' => Ex wr.drew w') (by kernel_rfl) (by kernel_rfl) (Ex.refl _) ?_
          refine BigFrame.wpQuiet_want (by rfl) fun K hK => ⟨?_, fun w' hC => ?_, hK _ ?_⟩
          rotate_left
          · (obtain ⟨q0, q1, q2, q3⟩ := HSK.out _ hC; go_simp; first | done | with_reducible rfl | exact ⟨rfl, hC⟩)
          clear hK K
          simp only [Act.put, List.setIfInBounds_toArray, List.set_cons_zero, List.set_cons_succ]
          refine BigFrame.wpQuiet_want (by rfl) fun K hK => ⟨?_, fun w' hC => ?_, hK _ ?_⟩
          rotate_left
          · (obtain ⟨q0, q1, q2, q3⟩ := HSK.out _ hC; go_simp; first | done | with_reducible rfl | exact ⟨rfl, hC⟩)
          clear hK K
          simp only [Act.put, List.setIfInBounds_toArray, List.set_cons_zero, List.set_cons_succ]
          refine BigFrame.wpQuiet_want (by rfl) fun K hK => ⟨?_, fun w' hC => ?_, hK _ ?_⟩
          rotate_left
          · (obtain ⟨q0, q1, q2, q3⟩ := HSK.out _ hC; go_simp; first | done | with_reducible rfl | exact ⟨rfl, hC⟩)
          clear hK K
          simp only [Act.put, List.setIfInBounds_toArray, List.set_cons_zero, List.set_cons_succ]
          refine BigFrame.wpQuiet_want (by rfl) fun K hK => ⟨?_, fun w' hC => ?_, hK _ ?_⟩
          rotate_left
          · (obtain ⟨q0, q1, q2, q3⟩ := HSK.out _ hC; go_simp; first | done | with_reducible rfl | exact ⟨rfl, hC⟩)
          clear hK K
          simp only [Act.put, List.setIfInBounds_toArray, List.set_cons_zero, List.set_cons_succ]
          refine BigFrame.wpQuiet_want (by rfl) fun K hK => ⟨?_, fun w' hC => ?_, hK _ ?_⟩
          rotate_left
          · (obtain ⟨q0, q1, q2, q3⟩ := HSK.out _ hC; go_simp; first | done | with_reducible rfl | exact ⟨rfl, hC⟩)
          clear hK K
          simp only [Act.put, List.setIfInBounds_toArray, List.set_cons_zero, List.set_cons_succ]
          refine BigFrame.wpQuiet_want (by rfl) fun K hK => ⟨?_, fun w' hC => ?_, hK _ ?_⟩
          rotate_left
          · (obtain ⟨q0, q1, q2, q3⟩ := HSK.out _ hC; go_simp; first | done | with_reducible rfl | exact ⟨rfl, hC⟩)
          clear hK K
          simp only [Act.put, List.setIfInBounds_toArray, List.set_cons_zero, List.set_cons_succ]
          refine BigFrame.wpQuiet_want (by rfl) fun K hK => ⟨?_, fun w' hC => ?_, hK _ ?_⟩
          rotate_left
          · (obtain ⟨q0, q1, q2, q3⟩ := HSK.out _ hC; go_simp; first | done | with_reducible rfl | exact ⟨rfl, hC⟩)
          clear hK K
          simp only [Act.put, List.setIfInBounds_toArray, List.set_cons_zero, List.set_cons_succ]
          refine BigFrame.wpQuiet_want (by rfl) fun K hK => ⟨?_, fun w' hC => ?_, hK _ ?_⟩
          rotate_left
          · (obtain ⟨q0, q1, q2, q3⟩ := HSK.out _ hC; go_simp; first | done | with_reducible rfl | exact ⟨rfl, hC⟩)
          clear hK K
          simp only [Act.put, List.setIfInBounds_toArray, List.set_cons_zero, List.set_cons_succ]
          refine BigFrame.wpQuiet_want (by rfl) fun K hK => ⟨?_, fun w' hC => ?_, hK _ ?_⟩
          rotate_left
          · (obtain ⟨q0, q1, q2, q3⟩ := HSK.out _ hC; go_simp; first | done | with_reducible rfl | exact ⟨rfl, hC⟩)
          clear hK K
          simp only [Act.put, List.setIfInBounds_toArray, List.set_cons_zero, List.set_cons_succ]
          refine BigFrame.wpQuiet_want (by rfl) fun K hK => ⟨?_, fun w' hC => ?_, hK _ ?_⟩
          rotate_left
          · (obtain ⟨q0, q1, q2, q3⟩ := HSK.out _ hC; go_simp; first | done | with_reducible rfl | exact ⟨rfl, hC⟩)
          clear hK K
          simp only [Act.put, List.setIfInBounds_toArray, List.set_cons_zero, List.set_cons_succ]
          refine BigFrame.wpQuiet_want (by rfl) fun K hK => ⟨?_, fun w' hC => ?_, hK _ ?_⟩
          rotate_left
          · (obtain ⟨q0, q1, q2, q3⟩ := HSK.out _ hC; go_simp; first | done | with_reducible rfl | exact ⟨rfl, hC⟩)
          clear hK K
          simp only [Act.put, List.setIfInBounds_toArray, List.set_cons_zero, List.set_cons_succ]
          refine BigFrame.wpQuiet_want (by rfl) fun K hK => ⟨?_, fun w' hC => ?_, hK _ ?_⟩
          rotate_left
          · (obtain ⟨q0, q1, q2, q3⟩ := HSK.out _ hC; go_simp; first | done | with_reducible rfl | exact ⟨rfl, hC⟩)
          clear hK K
          simp only [Act.put, List.setIfInBounds_toArray, List.set_cons_zero, List.set_cons_succ]
          refine wpQuiet_nil ?_
          intro w2 hC2
          have HC2 := Lib.hid hC2
          clear hC2
          go_wp2_with fail
          go_roundw
          case rel => exact ⟨j + 1, by omega, by go_num, by rw [HS.out], Lib.hid (HEj.out.drew.trans HC2.out)⟩
          case measure => simp [intOf]; omega
        · obtain rfl : p = j := by omega
          have hLl := HLL.out
          have hdd := HDD.out
          have htl : (Ls.take p).length = p := by rw [List.length_take]; omega
          have hdl : (Ls.drop p).length = q := by rw [List.length_drop]; omega
          have hv := valR_in (show 0 < M by omega) (HLR.out.take p) htl HFL.out HFR.out
          have hy := valR_in (show 0 < M by omega) (HLR.out.drop p) hdl HGL.out HGR.out
          have hpl := plF_lt HM.out.g HLR.out p (by omega)
          have hpu : plF t Ls p < us.length := by rw [HM.out.len]; exact hpl
          have hu := HM.out.rng _ hpu
          obtain ⟨bu, ou, rfl, hbu, hcu⟩ := HU.out.ints.at_ hpu
          have HV1 := Lib.hid (fun W (he : Ex wr.drew W) => l03At_any (some ⟨bt, ot, none⟩) F (some ⟨g3, 0, none⟩) p t.length fs (Ls.take p) c0 c2 n3 W (HF.out.ex (HE0.out.trans (HEw.out.drew.trans he))) ((HX3.out.ex (HEj.out.drew.trans he)).take p) hN8 hN1 (by omega) htl HFL.out (HLR.out.take p))
          rw [htl] at HV1
          obtain ⟨Y, hYe⟩ : ∃ Y, (if n3 = p then (some ⟨g3, 0, none⟩ : Option Addr) else some ⟨g3, p, none⟩) = Y := ⟨_, rfl⟩
          have HY := Lib.hid (fun W (he : Ex W3 W) => (show IntsW W Y (Ls.drop p) by
            rw [← hYe]
            by_cases hn : n3 = p
            · exact .inl (List.length_eq_zero_iff.1 (by rw [hdl]; omega))
            · rw [if_neg hn]
              have h := (HX3.out.ex he).drop p
              rwa [Nat.zero_add] at h))
          have HV2 := Lib.hid (fun W (he : Ex wr.drew W) => l03At_any (some ⟨bt, ot, none⟩) H Y q t.length gs (Ls.drop p) c0 c3 (n3 - p) W (HH.out.ex (HE0.out.trans (HEw.out.drew.trans he))) (HY.out W (HEj.out.drew.trans he)) hN8 hN1 (by omega) hdl HGL.out (HLR.out.drop p))
          rw [hdl] at HV2
          obtain ⟨v1, hv1⟩ : ∃ v1, valR t.length fs (Ls.take p) = v1 := ⟨_, rfl⟩
          obtain ⟨y, hy1⟩ : ∃ y, valR t.length gs (Ls.drop p) = y := ⟨_, rfl⟩
          obtain ⟨i, hi'⟩ : ∃ i, plF t Ls p = i := ⟨_, rfl⟩
          rw [hv1] at HV1 hv
          rw [hy1] at HV2 hy
          rw [hi'] at hpl hu hpu hcu ⊢
          have HT2 := HT.out
          rw [hv1, hy1, hi'] at HT2
          obtain ⟨u, hu'⟩ : ∃ u, nth us i = u := ⟨_, rfl⟩
          rw [hu'] at hu hcu HT2
          have hvu0 : 0 ≤ v1 * u := Int.mul_nonneg hv.1 hu.1
          have hvu : v1 * u ≤ 144 := by
            have h1 : v1 * u ≤ 12 * u := Int.mul_le_mul_of_nonneg_right (by omega) hu.1
            omega
          have hw1 : IntKind.i64.wrap (v1 * u) = v1 * u := IntWalk.i64_in _ (by omega)
          have hvy0 : 0 ≤ v1 * u * y := Int.mul_nonneg hvu0 hy.1
          have hvy : v1 * u * y ≤ 1728 := by
            have h1 : v1 * u * y ≤ 144 * y := Int.mul_le_mul_of_nonneg_right (by omega) hy.1
            omega
          have hw2 : IntKind.i64.wrap (v1 * u * y) = v1 * u * y := IntWalk.i64_in _ (by omega)
          have HMD := Lib.hid (fun W => l01Mod_w (v1 * u * y) M W (by omega) hM12 (by omega) (by omega))
          obtain ⟨z, hz⟩ : ∃ z, v1 * u * y % (M : Int) = z := ⟨_, rfl⟩
          rw [hz] at HMD HT2
          have HTZ := Lib.hid HT2
          have hpn : p ≤ n3 := by omega
          have hqq : d - p = q := by omega
          have hpd : (p : Int) ≤ (d : Int) := by omega
          have HA0 := Lib.hid (HB0.out.ex HEw.out)
          have HA1 := Lib.hid (HB1.out.ex HEw.out)
          have HA2 := Lib.hid (HB2.out.ex HEw.out)
          have HA3 := Lib.hid (HB3.out.ex HEw.out)
          have HOq := Lib.hid (HO3.out.ex HEj.out)
          have HGq := Lib.hid (HG3.out.ex HEj.out)
          have HCU := Lib.hid hcu
          have hun : wr.cell? ⟨bu, ou + i, none⟩ = some (.int .i64 u) := ((HE0.out.trans HEw.out).below.cell (p := ⟨bu, ou + i, none⟩) hbu).trans hcu
          have hC0 := And.intro (HOq.out.cell 1) (And.intro (HA0.out.cell 0) (And.intro (HA2.out.cell 0) (And.intro (HA2.out.cell 1) (And.intro (HA1.out.cell 0) (And.intro (HA1.out.cell 1) (And.intro hun (And.intro (HA3.out.cell 0) (HA3.out.cell 1))))))))
          clear hLl hdd htl hdl hv hy hu hcu hv1 hy1 hi' hu' hvu hvu0 hvy hvy0 hz HT2 cf hjp
          go_wp2_with fail
          refine Late.region (C := fun w' => w'.cell? ⟨D + 1, 1, none⟩ = some v ∧ w'.cell? ⟨w.heap.size, 0, none⟩ = some (.slice (some ⟨bt, ot, none⟩) t.length c0) ∧ w'.cell? ⟨w.heap.size + 1 + 1, 0, none⟩ = some (.int .i64 (p : Int)) ∧ w'.cell? ⟨w.heap.size + 1 + 1, 1, none⟩ = some (.slice F fs.length c2) ∧ w'.cell? ⟨w.heap.size + 1, 0, none⟩ = some (.int .i64 (M : Int)) ∧ w'.cell? ⟨w.heap.size + 1, 1, none⟩ = some (.slice (some ⟨bu, ou, none⟩) us.length c1) ∧ w'.cell? ⟨bu, ou + i, none⟩ = some (.int .i64 u) ∧ w'.cell? ⟨w.heap.size + 1 + 1 + 1, 0, none⟩ = some (.int .i64 (q : Int)) ∧ w'.cell? ⟨w.heap.size + 1 + 1 + 1, 1, none⟩ = some (.slice H gs.length c3)) (fun j => decide (j < 28)) (by kernel_rfl) hC0 (fun hC => ?_)
          refine Late.take (i := 0) (oi := _) (v := ?_) rfl (by kernel_rfl) (by kernel_rfl) (by kernel_rfl) (by kernel_rfl) (fun _ _ _ h => h) (Or.inl ⟨by rfl, ?_⟩) hC ?_
          rotate_left
          · (intro w hSw; (try dsimp only at hSw); go_simp; first | done | with_reducible rfl)
          simp only [Act.put]
          refine Late.take (i := 1) (oi := _) (v := ?_) rfl (by kernel_rfl) (by kernel_rfl) (by kernel_rfl) (by kernel_rfl) (fun _ _ _ h => h) (Or.inl ⟨by rfl, ?_⟩) hC ?_
          rotate_left
          · (intro w hSw; (try dsimp only at hSw); go_simp; first | done | with_reducible rfl)
          simp only [Act.put]
          refine Late.take (i := 2) (oi := _) (v := ?_) rfl (by kernel_rfl) (by kernel_rfl) (by kernel_rfl) (by kernel_rfl) (fun _ _ _ h => h) (Or.inl ⟨by rfl, ?_⟩) hC ?_
          rotate_left
          · (intro w hSw; (try dsimp only at hSw); go_simp; first | done | with_reducible rfl)
          simp only [Act.put]
          refine Late.take (i := 3) (oi := _) (v := ?_) rfl (by kernel_rfl) (by kernel_rfl) (by kernel_rfl) (by kernel_rfl) (fun _ _ _ h => h) (Or.inl ⟨by rfl, ?_⟩) hC ?_
          rotate_left
          · (intro w hSw; (try dsimp only at hSw); go_simp; first | done | with_reducible rfl)
          simp only [Act.put]
          refine Late.take (i := 4) (oi := _) (v := ?_) rfl (by kernel_rfl) (by kernel_rfl) (by kernel_rfl) (by kernel_rfl) (fun _ _ _ h => h) (Or.inl ⟨by rfl, ?_⟩) hC ?_
          rotate_left
          · (intro w hSw; (try dsimp only at hSw); go_simp; first | done | with_reducible rfl)
          simp only [Act.put]
          refine Late.take (i := 5) (oi := _) (v := ?_) rfl (by kernel_rfl) (by kernel_rfl) (by kernel_rfl) (by kernel_rfl) (fun _ _ _ h => h) (Or.inl ⟨by rfl, ?_⟩) hC ?_
          rotate_left
          · (intro w hSw; (try dsimp only at hSw); go_simp; first | done | with_reducible rfl)
          simp only [Act.put]
          refine Late.take (i := 6) (oi := _) (v := ?_) rfl (by kernel_rfl) (by kernel_rfl) (by kernel_rfl) (by kernel_rfl) (fun _ _ _ h => h) (Or.inl ⟨by rfl, ?_⟩) hC ?_
          rotate_left
          · (intro w hSw; (try dsimp only at hSw); go_simp; first | done | with_reducible rfl)
          simp only [Act.put]
          refine Late.take (i := 7) (oi := _) (v := ?_) rfl (by kernel_rfl) (by kernel_rfl) (by kernel_rfl) (by kernel_rfl) (fun _ _ _ h => h) (Or.inl ⟨by rfl, ?_⟩) hC ?_
          rotate_left
          · (intro w hSw; (try dsimp only at hSw); go_simp; first | done | with_reducible rfl)
          simp only [Act.put]
          refine Late.take (i := 9) (oi := _) (v := ?_) rfl (by kernel_rfl) (by kernel_rfl) (by kernel_rfl) (by kernel_rfl) (fun _ _ _ h => h) (Or.inl ⟨by rfl, ?_⟩) hC ?_
          rotate_left
          · (intro w hSw; (try dsimp only at hSw); go_simp; first | done | with_reducible rfl)
          simp only [Act.put]
          refine Late.take (i := 10) (oi := _) (v := ?_) rfl (by kernel_rfl) (by kernel_rfl) (by kernel_rfl) (by kernel_rfl) (fun _ _ _ h => h) (Or.inl ⟨by rfl, ?_⟩) hC ?_
          rotate_left
          · (intro w hSw; (try dsimp only at hSw); go_simp; first | done | with_reducible rfl)
          simp only [Act.put]
          refine Late.take (i := 11) (oi := _) (v := ?_) rfl (by kernel_rfl) (by kernel_rfl) (by kernel_rfl) (by kernel_rfl) (fun _ _ _ h => h) (Or.inl ⟨by rfl, ?_⟩) hC ?_
          rotate_left
          · (intro w hSw; (try dsimp only at hSw); go_simp; first | done | with_reducible rfl)
          simp only [Act.put]
          refine Late.take (i := 12) (oi := _) (v := ?_) rfl (by kernel_rfl) (by kernel_rfl) (by kernel_rfl) (by kernel_rfl) (fun _ _ _ h => h) (Or.inl ⟨by rfl, ?_⟩) hC ?_
          rotate_left
          · (intro w hSw; (try dsimp only at hSw); go_simp; first | done | with_reducible rfl)
          simp only [Act.put]
          refine Late.take (i := 13) (oi := _) (v := ?_) rfl (by kernel_rfl) (by kernel_rfl) (by kernel_rfl) (by kernel_rfl) (fun _ _ _ h => h) (Or.inl ⟨by rfl, ?_⟩) hC ?_
          rotate_left
          · (intro w hSw; (try dsimp only at hSw); go_simp; first | done | with_reducible rfl)
          simp only [Act.put]
          refine Late.take (i := 15) (oi := _) (v := ?_) rfl (by kernel_rfl) (by kernel_rfl) (by kernel_rfl) (by kernel_rfl) (fun _ _ _ h => h) (Or.inl ⟨by rfl, ?_⟩) hC ?_
          rotate_left
          · (intro w hSw; (try dsimp only at hSw); go_simp; first | done | with_reducible rfl)
          simp only [Act.put]
          refine Late.take (i := 16) (oi := _) (v := ?_) rfl (by kernel_rfl) (by kernel_rfl) (by kernel_rfl) (by kernel_rfl) (fun _ _ _ h => h) (Or.inl ⟨by rfl, ?_⟩) hC ?_
          rotate_left
          · (intro w hSw; (try dsimp only at hSw); go_simp; first | done | with_reducible rfl)
          simp only [Act.put]
          refine Late.take (i := 17) (oi := _) (v := ?_) rfl (by kernel_rfl) (by kernel_rfl) (by kernel_rfl) (by kernel_rfl) (fun _ _ _ h => h) (Or.inl ⟨by rfl, ?_⟩) hC ?_
          rotate_left
          · (intro w hSw; (try dsimp only at hSw); go_simp; first | done | with_reducible rfl)
          simp only [Act.put]
          refine Late.take (i := 18) (oi := _) (v := ?_) rfl (by kernel_rfl) (by kernel_rfl) (by kernel_rfl) (by kernel_rfl) (fun _ _ _ h => h) (Or.inl ⟨by rfl, ?_⟩) hC ?_
          rotate_left
          · (intro w hSw; (try dsimp only at hSw); go_simp; first | done | with_reducible rfl)
          simp only [Act.put]
          refine Late.take (i := 19) (oi := _) (v := ?_) rfl (by kernel_rfl) (by kernel_rfl) (by kernel_rfl) (by kernel_rfl) (fun _ _ _ h => h) (Or.inl ⟨by rfl, ?_⟩) hC ?_
          rotate_left
          · (intro w hSw; (try dsimp only at hSw); go_simp; first | done | with_reducible rfl)
          simp only [Act.put]
          refine Late.take (i := 20) (oi := _) (v := ?_) rfl (by kernel_rfl) (by kernel_rfl) (by kernel_rfl) (by kernel_rfl) (fun _ _ _ h => h) (Or.inl ⟨by rfl, ?_⟩) hC ?_
          rotate_left
          · (intro w hSw; (try dsimp only at hSw); go_simp; first | done | with_reducible rfl)
          simp only [Act.put]
          refine Late.take (i := 23) (oi := _) (v := ?_) rfl (by kernel_rfl) (by kernel_rfl) (by kernel_rfl) (by kernel_rfl) (fun _ _ _ h => h) (Or.inl ⟨by rfl, ?_⟩) hC ?_
          rotate_left
          · (intro w hSw; (try dsimp only at hSw); go_simp; first | done | with_reducible rfl)
          simp only [Act.put]
          refine Late.take (i := 24) (oi := _) (v := ?_) rfl (by kernel_rfl) (by kernel_rfl) (by kernel_rfl) (by kernel_rfl) (fun _ _ _ h => h) (Or.inl ⟨by rfl, ?_⟩) hC ?_
          rotate_left
          · (intro w hSw; (try dsimp only at hSw); go_simp; first | done | with_reducible rfl)
          simp only [Act.put]
          refine Late.one (i := 8) (o := _) (by kernel_rfl) rfl (fun K' hK' => ?_)
          go_simp
          refine (HV1.out wr.drew (Ex.refl _)).mono ?_
          rintro e W6 ⟨rfl, he6⟩
          have hx6 : Ex wr W6 := (Ex.refl wr).drew.trans he6
          have hun6 : W6.cell? ⟨bu, ou + i, none⟩ = some (.int .i64 u) := ((HE0.out.trans (HEw.out.trans hx6)).below.cell (p := ⟨bu, ou + i, none⟩) hbu).trans HCU.out
          have hC6 := And.intro ((HOq.out.ex hx6).cell 1) (And.intro ((HA0.out.ex hx6).cell 0) (And.intro ((HA2.out.ex hx6).cell 0) (And.intro ((HA2.out.ex hx6).cell 1) (And.intro ((HA1.out.ex hx6).cell 0) (And.intro ((HA1.out.ex hx6).cell 1) (And.intro hun6 (And.intro ((HA3.out.ex hx6).cell 0) ((HA3.out.ex hx6).cell 1))))))))
          refine hK'.out _ _ (fun _ => hC6) (fun _ => ?_)
          clear hK' K' hC hC0 hun
          try simp only [Act.put, List.setIfInBounds_toArray, List.set_cons_zero, List.set_cons_succ]
          refine Late.take (i := 14) (oi := _) (v := ?_) rfl (by kernel_rfl) (by kernel_rfl) (by kernel_rfl) (by kernel_rfl) (fun _ _ _ h => h) (Or.inl ⟨by rfl, ?_⟩) hC6 ?_
          rotate_left
          · (intro w hSw; (try dsimp only at hSw); go_simp; first | done | with_reducible rfl)
          simp only [Act.put]
          refine Late.one (i := 21) (o := _) (by kernel_rfl) rfl (fun K' hK' => ?_)
          go_simp
          refine (HV2.out W6 he6).mono ?_
          rintro e W7 ⟨rfl, he7⟩
          have hx7 : Ex wr W7 := hx6.trans he7
          have HE7 := Lib.hid (HEw.out.trans hx7)
          have HA07 := Lib.hid (HA0.out.ex hx7)
          have HA17 := Lib.hid (HA1.out.ex hx7)
          have HA27 := Lib.hid (HA2.out.ex hx7)
          have HA37 := Lib.hid (HA3.out.ex hx7)
          have HO7 := Lib.hid (HOq.out.ex hx7)
          have HG7 := Lib.hid (HGq.out.ex hx7)
          have hun7 : W7.cell? ⟨bu, ou + i, none⟩ = some (.int .i64 u) := ((HE0.out.trans HE7.out).below.cell (p := ⟨bu, ou + i, none⟩) hbu).trans HCU.out
          have hC7 := And.intro (HO7.out.cell 1) (And.intro (HA07.out.cell 0) (And.intro (HA27.out.cell 0) (And.intro (HA27.out.cell 1) (And.intro (HA17.out.cell 0) (And.intro (HA17.out.cell 1) (And.intro hun7 (And.intro (HA37.out.cell 0) (HA37.out.cell 1))))))))
          refine hK'.out _ _ (fun _ => hC7) (fun _ => ?_)
          clear hK' K' hC6 hun6 he6 hx6 he7 hx7 HA0 HA1 HA2 HA3 HOq HGq
          try simp only [Act.put, List.setIfInBounds_toArray, List.set_cons_zero, List.set_cons_succ]
          refine Late.take (i := 22) (oi := _) (v := ?_) rfl (by kernel_rfl) (by kernel_rfl) (by kernel_rfl) (by kernel_rfl) (fun _ _ _ h => h) (Or.inl ⟨by rfl, ?_⟩) hC7 ?_
          rotate_left
          · (intro w hSw; (try dsimp only at hSw); go_simp; first | done | with_reducible rfl)
          simp only [Act.put]
          refine Late.one (i := 25) (o := _) (by kernel_rfl) rfl (fun K' hK' => ?_)
          go_simp
          refine (HMD.out _).mono ?_
          rintro e w' ⟨rfl, rfl⟩
          refine hK'.out _ _ (fun _ => hC7) (fun _ => ?_)
          clear hK' K'
          try simp only [Act.put, List.setIfInBounds_toArray, List.set_cons_zero, List.set_cons_succ]
          have HE := HE7
          have HG := HG7
          refine Late.one (i := 26) (o := _) (by kernel_rfl) rfl (fun K' hK' => ?_)
          go_simp
          have e1 := HE.out.alloc (.cells #[.int .i64 z] 2)
          have HA071 := HA07.out.alloc (.cells #[.int .i64 z] 2)
          have HA171 := HA17.out.alloc (.cells #[.int .i64 z] 2)
          have HA271 := HA27.out.alloc (.cells #[.int .i64 z] 2)
          have HA371 := HA37.out.alloc (.cells #[.int .i64 z] 2)
          have HO71 := HO7.out.alloc (.cells #[.int .i64 z] 2)
          have g1 := HG.out.ex (Ex.new W7 (.cells #[.int .i64 z] 2))
          have hn1 := cell_one_new W7 (.int .i64 z) 2
          have hz1 : W7.heap.size + 1 = (W7.alloc (.cells #[.int .i64 z] 2)).heap.size := by simp
          have hx1 := Ex.new W7 (.cells #[.int .i64 z] 2)
          refine hK'.out _ _ (fun _ => ⟨HO71.cell 1, HA071.cell 0, HA271.cell 0, HA271.cell 1, HA171.cell 0, HA171.cell 1, (hx1.below.cell (p := ⟨bu, ou + i, none⟩) (by have := (HE0.out.trans HE7.out).size; show bu < _; omega)).trans hun7, HA371.cell 0, HA371.cell 1⟩) (fun _ => ?_)
          clear hK' K'
          generalize W7.alloc (.cells #[.int .i64 z] 2) = w1 at *
          try simp only [Act.put, List.setIfInBounds_toArray, List.set_cons_zero, List.set_cons_succ]
          refine Late.one (i := 27) (o := _) (by kernel_rfl) rfl (fun K' hK' => ?_)
          rw [if_pos (by rfl)]
          refine wp_append_own _ _ _ 26 rfl W0.heap.size 2 i0 (.int .i64 0) 1 8 Tryd.underlying26 hi hi0 hi1 hi2 rfl (by decide) _ _ _ rfl g1.1 ⟨W7.heap.size, 0, none⟩ 1 1 [.int .i64 z] rfl rfl hn1 (by simp [Value.oneCell']) (by unfold maxLen; omega) (by omega) (by have := e1.size; omega) ?_
          intro v' w3 hown3 hgrow3 _
          obtain ⟨g3, cap3, rfl⟩ := ownsRow_succ hown3
          have HE3 := Lib.hid (Ex.grew e1 g1 (Nat.le_refl _) hgrow3)
          have HA073 := Lib.hid (Has.grew HA071 (by decide) g1 hgrow3)
          have HA173 := Lib.hid (Has.grew HA171 (by decide) g1 hgrow3)
          have HA273 := Lib.hid (Has.grew HA271 (by decide) g1 hgrow3)
          have HA373 := Lib.hid (Has.grew HA371 (by decide) g1 hgrow3)
          have HO73 := Lib.hid (Has.grew HO71 (by decide) g1 hgrow3)
          have HG3 := Lib.hid (g1.snoc hown3)
          have c33 := HO73.out.cell 1
          have f33 := HO73.out.free 1
          refine hK'.out _ _ (fun _ => ⟨HO73.out.cell 1, HA073.out.cell 0, HA273.out.cell 0, HA273.out.cell 1, HA173.out.cell 0, HA173.out.cell 1, ((HE0.out.trans HE3.out).below.cell (p := ⟨bu, ou + i, none⟩) hbu).trans HCU.out, HA373.out.cell 0, HA373.out.cell 1⟩) (fun _ => ?_)
          clear hK' K' hown3 hgrow3 g1 e1 hn1 hx1 HA071 HA171 HA271 HA371 HO71
          try simp only [Act.put]
          refine Late.one (i := 28) (o := _) (by kernel_rfl) rfl (fun K' hK' => ?_)
          go_simp
          refine hK'.out _ _ (fun h => by cases h) (fun _ => ?_)
          clear hK' K'
          try simp only [Act.put, List.setIfInBounds_toArray, List.set_cons_zero, List.set_cons_succ]
          refine Late.one (i := 29) (o := _) (by kernel_rfl) rfl (fun K' hK' => ?_)
          go_simp
          refine hK'.out _ _ (fun h => by cases h) (fun _ => ?_)
          clear hK' K'
          try simp only [Act.put, List.setIfInBounds_toArray, List.set_cons_zero, List.set_cons_succ]
          refine Late.done (by kernel_rfl) ?_ _
          go_wp2_with fail
          refine ⟨?rel, ?measure⟩
          case rel =>
            refine ⟨k + 1, _, by omega, by go_num, Lib.hid (HE3.out.setCell (p := ⟨D + 1, 1, none⟩) (by have := HDW.out; show W0.heap.size ≤ D + 1; omega) _), Lib.hid (by simpa using HO73.out.put 1 _), Lib.hid ?_⟩
            rw [List.range_succ, List.map_append, List.map_cons, List.map_nil, HTZ.out]
            exact HG3.out.set HO73.out (by decide) _ _
          case measure => simp [intOf]; omega
    · obtain rfl : cn = k := by omega
      obtain ⟨A', n', ev, hO⟩ := HG2.out.own
      have hln : ((List.range cn).map fun k => tmsV t M us fs gs p q k).length = cn := by simp
      rw [hln] at ev
      subst ev
      have cO := HO2.out.cell 0
      have cO' := HO2.out.cell 1
      have HR4 := Lib.hid (HB4.out.ex HE2.out)
      have c4 := HR4.out.cell 0
      have c4' := HR4.out.cell 1
      have f4 := HR4.out.free 0
      have f4' := HR4.out.free 1
      have HOO := Lib.hid hO
      have hz0 := HE0.out.size
      have hlt3 := HB4.out.lt
      clear hO hln
      go_wp2_with fail
      have H4 := HR4.out.put2 (u := .int .i64 (d : Int)) (v := .slice A' cn n')
      have c4 := H4.cell 0
      have c4' := H4.cell 1
      refine bodyPost_ret (v := .agg #[.int .i64 (d : Int), .slice A' cn n']) (by simp [results, Tryd.results80, go_sem, c4, c4']) rfl ⟨A', n', rfl, ((HE0.out.trans HE2.out).setCell (by show w.heap.size ≤ w.heap.size + 1 + 1 + 1 + 1; omega) _).setCell (by show w.heap.size ≤ w.heap.size + 1 + 1 + 1 + 1; omega) _, ?_⟩
      exact ((HOO.out.above (Only.set _ _ _ _) hlt3).above (Only.set _ _ _ _) hlt3).mono hz0 (by simp) (Nat.le_refl _)

end Go.Proofs.YtilhnmclleiodaaDoor
