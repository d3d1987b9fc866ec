/- QuotientOf: the walks of both sides. -/
import Derived.Test.YtfnjpbjlikajbaaGreatDoorQot
namespace Go.Proofs.YtfnjpbjlikajbaaGreatDoor
open Go.RowKit Go.Shelf

attribute [local go_sem] Oper.semAt_some

set_option maxRecDepth 100000 in
set_option maxHeartbeats 8000000 in
theorem implQuotientOf_ex (t0 : List (List Int)) (t1 : List Int) : ∀ (B0 : Option Addr) (d0 : Nat) (B1 : Option Addr) (d1 : Nat) (W : World), RwsW W B0 t0 → IntsW W B1 t1 → SmallT t0 → t1.length ≤ 1048576 → TabL W →
    Calls Tryz.prog 48 #[.agg #[.slice B0 t0.length d0], .slice B1 t1.length d1] W fun e W' => ∃ (C0 : Option Addr) (e0 : Nat) (C1 : Option Addr) (e1 : Nat) (mid : Nat), e = .returned (.tuple #[.agg #[.slice C0 (yQuotientOf0 t0 t1).length e0], .slice C1 (yQuotientOf1 t0 t1).length e1, .int .i64 (qQuotientOf2 t0 t1)]) ∧ Ex W W' ∧ W.heap.size ≤ mid ∧ mid ≤ W'.heap.size ∧ OwnL W' W.heap.size mid C1 (yQuotientOf1 t0 t1) ∧ OwnT W' mid W'.heap.size C0 (yQuotientOf0 t0 t1) := by
  intro B0 d0 B1 d1 w hR hX hs hu hT
  have e0 : Ex w ((w.alloc (.cells #[.slice B0 t0.length d0] 36)).alloc (.cells #[.slice none 0 0] 36)) := ((Ex.refl w).alloc _).alloc _
  have b0 : Has ((w.alloc (.cells #[.slice B0 t0.length d0] 36)).alloc (.cells #[.slice none 0 0] 36)) (w.heap.size) 36 #[.slice B0 t0.length d0] := ((Has.newAt (w := w) (e := 36) (cs := #[.slice B0 t0.length d0]) (k := w.heap.size) (by simp)).alloc _)
  have b1 : Has ((w.alloc (.cells #[.slice B0 t0.length d0] 36)).alloc (.cells #[.slice none 0 0] 36)) (w.heap.size + 1) 36 #[.slice none 0 0] := (Has.newAt (w := (w.alloc (.cells #[.slice B0 t0.length d0] 36))) (e := 36) (cs := #[.slice none 0 0]) (k := w.heap.size + 1) (by simp))
  obtain ⟨W0, hW0⟩ : ∃ W0, ((w.alloc (.cells #[.slice B0 t0.length d0] 36)).alloc (.cells #[.slice none 0 0] 36)) = W0 := ⟨_, rfl⟩
  rw [hW0] at e0 b0 b1
  have HW0 := Lib.hid hW0
  have HC := Lib.hid (fun W (he : Ex w W) => implIsGroup_ex B0 t0 d0 W (hR.ex he) hs)
  have HE0 := Lib.hid e0
  have HB0 := Lib.hid b0
  have HB1 := Lib.hid b1
  have c0 := b0.cell 0
  have hlb := b1.lt
  cases hg : grpB t0 with
  | false =>
    have hq : quC t0 t1 = 1 := by rw [quC, setC_no hg, if_neg (by omega)]
    have HQ := Lib.hid (qu_no hq (by omega))
    rw [hg] at HC
    clear hW0 hR hX hs hu hT hg hq e0 b0 b1
    go_enter Tryz.func48, Tryz.ntmps48
    go_wp2_with fail
    rw [HW0.out]
    refine (HC.out _ HE0.out).mono ?_
    rintro e W1 ⟨rfl, he1⟩
    have HBR := Lib.hid (HB1.out.ex he1)
    have cr := HBR.out.cell 0
    have fr := HBR.out.free 0
    have HE1 := Lib.hid (HE0.out.trans he1)
    clear he1 c0
    go_wp2_with fail
    have H4 := HBR.out.put1 (v := .slice none 0 0)
    have c4 := H4.cell 0
    have hE := HE1.out.setCell (p := ⟨w.heap.size + 1, 0, none⟩) (by show w.heap.size ≤ w.heap.size + 1; omega) (.slice none 0 0)
    exact bodyPost_ret (v := .tuple #[.agg #[.slice none 0 0], .slice none 0 0, .int .i64 1]) (by simp [results, Tryz.results48, go_sem, c4]) rfl ⟨none, 0, none, 0, _, by rw [HQ.out.1, HQ.out.2.1, HQ.out.2.2]; rfl, hE, Nat.le_refl _, hE.size, by rw [HQ.out.2.1]; exact OwnL.nil _ _ _ hE.size, by rw [HQ.out.1]; exact OwnT.nil _ _ _ (Nat.le_refl _)⟩
  | true =>
    rw [hg] at HC
    have hgr := grpB_iff.1 hg
    have hn8 := hgr.n8
    have hn1 := hgr.n1
    have HIS := Lib.hid (fun W (he : Ex w W) => isElementSet_any B0 B1 t1 t0.length d0 d1 W (hX.ex he) hn8 hu)
    cases hsb : setB t0.length t1 with
    | false =>
      have hq : quC t0 t1 = 2 := by rw [quC, setC_out hg hsb, if_neg (by omega)]
      have HQ := Lib.hid (qu_no hq (by omega))
      rw [hsb] at HIS
      clear hW0 hR hX hs hu hT hg hq hsb hgr e0 b0 b1
      go_enter Tryz.func48, Tryz.ntmps48
      go_wp2_with fail
      rw [HW0.out]
      refine (HC.out _ HE0.out).mono ?_
      rintro e W1 ⟨rfl, he1⟩
      have c1 := (HB0.out.ex he1).cell 0
      clear c0
      go_wp2_with fail
      refine (HIS.out _ (HE0.out.trans he1)).mono ?_
      rintro e W2 ⟨rfl, he2⟩
      have HBR := Lib.hid (HB1.out.ex (he1.trans he2))
      have cr := HBR.out.cell 0
      have fr := HBR.out.free 0
      have HE1 := Lib.hid (HE0.out.trans (he1.trans he2))
      clear he1 he2 c1
      go_wp2_with fail
      have H4 := HBR.out.put1 (v := .slice none 0 0)
      have c4 := H4.cell 0
      have hE := HE1.out.setCell (p := ⟨w.heap.size + 1, 0, none⟩) (by show w.heap.size ≤ w.heap.size + 1; omega) (.slice none 0 0)
      exact bodyPost_ret (v := .tuple #[.agg #[.slice none 0 0], .slice none 0 0, .int .i64 2]) (by simp [results, Tryz.results48, go_sem, c4]) rfl ⟨none, 0, none, 0, _, by rw [HQ.out.1, HQ.out.2.1, HQ.out.2.2]; rfl, hE, Nat.le_refl _, hE.size, by rw [HQ.out.2.1]; exact OwnL.nil _ _ _ hE.size, by rw [HQ.out.1]; exact OwnT.nil _ _ _ (Nat.le_refl _)⟩
    | true =>
      rw [hsb] at HIS
      have hr := (setB_true.1 hsb).1
      have hbl := bitsK_lt hr t1.length (Nat.le_refl _)
      have hsc := setC_yes hg hsb
      have HSO := Lib.hid (fun W (he : Ex w W) => setOf_any B1 t1 d1 t0.length W (hX.ex he) hu hn8 hr)
      have hnor : ∀ W, Ex w W → Calls Tryz.prog 93 #[.agg #[.slice B0 t0.length d0], .int .u64 (bitsK t1 t1.length : Int)] W fun e w' => e = .returned (.bool (subB t0 (bitsK t1 t1.length) && norB t0 (bitsK t1 t1.length))) ∧ Ex W w' := fun W he => by
        cases hsu : subB t0 (bitsK t1 t1.length) with
        | false => exact isNormalSubgroup_no B0 t0 d0 _ W (hR.ex he) hgr hbl (hT.ex he) hsu
        | true => exact isNormalSubgroup_any B0 t0 d0 _ W (hR.ex he) hgr hbl (hT.ex he) hsu
      have HNO := Lib.hid hnor
      clear hnor
      cases hno : (subB t0 (bitsK t1 t1.length) && norB t0 (bitsK t1 t1.length)) with
      | false =>
        have hq : quC t0 t1 = 5 := by
          rw [quC, if_pos hsc, if_neg fun h => by rw [h.1, h.2] at hno; cases hno]
        have HQ := Lib.hid (qu_no hq (by omega))
        rw [hno] at HNO
        clear hW0 hR hX hs hu hT hg hq hsb hgr hno hsc hr e0 b0 b1
        go_enter Tryz.func48, Tryz.ntmps48
        go_wp2_with fail
        rw [HW0.out]
        refine (HC.out _ HE0.out).mono ?_
        rintro e W1 ⟨rfl, he1⟩
        have c1 := (HB0.out.ex he1).cell 0
        clear c0
        go_wp2_with fail
        refine (HIS.out _ (HE0.out.trans he1)).mono ?_
        rintro e W2 ⟨rfl, he2⟩
        have he12 := he1.trans he2
        have c2 := (HB0.out.ex he12).cell 0
        clear c1
        go_wp2_with fail
        refine (HSO.out _ (HE0.out.trans he12)).mono ?_
        rintro e W3 ⟨rfl, rfl⟩
        go_wp2_with fail
        refine (HNO.out _ (HE0.out.trans he12)).mono ?_
        rintro e W4 ⟨rfl, he4⟩
        have HBR := Lib.hid (HB1.out.ex (he12.trans he4))
        have cr := HBR.out.cell 0
        have fr := HBR.out.free 0
        have HE1 := Lib.hid (HE0.out.trans (he12.trans he4))
        clear he1 he2 he12 he4 c2
        go_wp2_with fail
        have H4 := HBR.out.put1 (v := .slice none 0 0)
        have c4 := H4.cell 0
        have hE := HE1.out.setCell (p := ⟨w.heap.size + 1, 0, none⟩) (by show w.heap.size ≤ w.heap.size + 1; omega) (.slice none 0 0)
        exact bodyPost_ret (v := .tuple #[.agg #[.slice none 0 0], .slice none 0 0, .int .i64 5]) (by simp [results, Tryz.results48, go_sem, c4]) rfl ⟨none, 0, none, 0, _, by rw [HQ.out.1, HQ.out.2.1, HQ.out.2.2]; rfl, hE, Nat.le_refl _, hE.size, by rw [HQ.out.2.1]; exact OwnL.nil _ _ _ hE.size, by rw [HQ.out.1]; exact OwnT.nil _ _ _ (Nat.le_refl _)⟩
      | true =>
        have hand := hno
        simp only [Bool.and_eq_true] at hand
        have hq : quC t0 t1 = 0 := by rw [quC, if_pos hsc, if_pos hand]
        have HQ := Lib.hid (qu_yes hq)
        rw [hno] at HNO
        have hels := els_bits hn8 hsb
        have hcb := quS_b hgr hsb
        have hpos := cosK_pos (t := t0) (els := elsL t1) t0.length hn1
        have HCO := Lib.hid (fun W (he : Ex w W) => cosetsOf_any B0 t0 d0 (bitsK t1 t1.length) W (hR.ex he) hgr hbl (hT.ex he) (quS t0 t1) (by rw [hels]; rfl))
        obtain ⟨b, o, bb, oo, C, rfl, hQ⟩ := hR.sq hgr
        have hpos : 0 < (quS t0 t1).fst.length := hpos
        obtain ⟨S, hS⟩ : ∃ S, quS t0 t1 = S := ⟨_, rfl⟩
        rw [hS] at HQ HCO hcb hpos
        have hK8 : S.fst.length ≤ 8 := by have := hcb.len; omega
        have hmf : ∀ (fn : Fn) (first cap : Array Value) (w : World), (Instr.makeFunc fn first cap).run Tryz.prog w = .ok (.func fn first cap) w := fun _ _ _ _ => rfl
        have HML0 := fun (P F D gf cf : Nat) W (he : Ex W0 W) (hP : Has W P 25 #[.slice (some ⟨D, 0, none⟩) t0.length t0.length]) (hF : Has W F 25 #[.slice (some ⟨gf, 0, none⟩) S.fst.length cf]) (hD : Has W D 2 (tab t0.length fun x => .int .i64 (S.num x : Int))) (hf : ∀ i, i < S.fst.length → W.cell? ⟨gf, i, none⟩ = some (.int .i64 (fstA S i : Int))) =>
          groupWith_has S.fst.length 95 #[.pointer (some ⟨P, 0, none⟩), .pointer (some ⟨w.heap.size, 0, none⟩), .pointer (some ⟨F, 0, none⟩)] (fun i j => (quoV t0 S i j : Int)) W (by omega)
            (enters_of Tryz.func95 (by kernel_rfl) rfl)
            (fun W' he' i j hi hj => quc_ex P w.heap.size F b o D gf d0 cf i j w.heap.size bb oo C t0 S W' (hP.ex he') (b0.ex (he.trans he')) (hF.ex he') (e0.trans (he.trans he')).size (hQ.below (e0.trans (he.trans he')).below (Nat.le_refl _)) hgr (hD.ex he')
              (fun i hi => ⟨(he'.below.cell (p := ⟨gf, i, none⟩) (World.block_lt_of_cell? _ _ (hf i hi))).trans (hf i hi), hcb.lt _ (fstA_mem hi)⟩) hi hj)
        have HML : Hid (∀ (P F D gf cf : Nat) W (he : Ex W0 W) (hP : Has W P 25 #[.slice (some ⟨D, 0, none⟩) t0.length t0.length]) (hF : Has W F 25 #[.slice (some ⟨gf, 0, none⟩) S.fst.length cf]) (hD : Has W D 2 (tab t0.length fun x => .int .i64 (S.num x : Int))) (hf : ∀ i, i < S.fst.length → W.cell? ⟨gf, i, none⟩ = some (.int .i64 (fstA S i : Int))),
          Calls Tryz.prog 89 #[.int .i64 (S.fst.length : Int), .func (.func 95) #[] #[.pointer (some ⟨P, 0, none⟩), .pointer (some ⟨w.heap.size, 0, none⟩), .pointer (some ⟨F, 0, none⟩)]] W fun e w' => ∃ G R, e = .returned (.agg #[.slice (some ⟨R, 0, none⟩) S.fst.length S.fst.length]) ∧ Ex W w' ∧ W.heap.size ≤ G ∧ W.heap.size ≤ R ∧ Has w' G 2 (tab (S.fst.length * S.fst.length) fun p => .int .i64 (quoV t0 S (p / S.fst.length) (p % S.fst.length) : Int)) ∧ Has w' R 25 (rowsV G S.fst.length)) := Lib.hid HML0
        have HFN := Lib.hid (fun i (hi : i < S.fst.length) => fstA_nth hi)
        clear hW0 hR hX hs hu hT hg hq hsb hgr hno hsc hr e0 b0 b1 hand hels hcb hQ hS HML0
        go_enter Tryz.func48, Tryz.ntmps48
        go_wp2_with fail
        rw [HW0.out]
        refine (HC.out _ HE0.out).mono ?_
        rintro e W1 ⟨rfl, he1⟩
        have c1 := (HB0.out.ex he1).cell 0
        clear c0
        go_wp2_with fail
        refine (HIS.out _ (HE0.out.trans he1)).mono ?_
        rintro e W2 ⟨rfl, he2⟩
        have he12 := he1.trans he2
        have c2 := (HB0.out.ex he12).cell 0
        clear c1
        go_wp2_with fail
        refine (HSO.out _ (HE0.out.trans he12)).mono ?_
        rintro e W3 ⟨rfl, rfl⟩
        go_wp2_with fail
        refine (HNO.out _ (HE0.out.trans he12)).mono ?_
        rintro e W4 ⟨rfl, he4⟩
        have he14 := he12.trans he4
        have c3 := (HB0.out.ex he14).cell 0
        clear c2
        go_wp2_with fail
        refine (HCO.out _ (HE0.out.trans he14)).mono ?_
        rintro e W5 ⟨D, v, rfl, he5, hlD, hD, hG⟩
        obtain ⟨gf, cf, rfl, hlf, hltf, hcf, -⟩ := hG.row hpos
        have HX5 := Lib.hid (he14.trans he5)
        have hl4 := he14.size
        have HD5 := Lib.hid hD
        have HCF := Lib.hid (fun i (hi : i < S.fst.length) W (he : Ex W5 W) => ((he.below.cell (p := ⟨gf, i, none⟩) hltf).trans (by rw [hcf i hi, HFN.out i hi]) : W.cell? ⟨gf, i, none⟩ = some (.int .i64 (fstA S i : Int))))
        clear he1 he2 he12 he4 he14 he5 hD hG hcf c3
        go_wp2_with fail
        have e6 := (Ex.new W5 (.cells #[.slice (some ⟨D, 0, none⟩) t0.length t0.length] 25)).alloc (.cells #[.slice (some ⟨gf, 0, none⟩) S.fst.length cf] 25)
        have hP6 := (Has.new W5 25 #[.slice (some ⟨D, 0, none⟩) t0.length t0.length]).alloc (.cells #[.slice (some ⟨gf, 0, none⟩) S.fst.length cf] 25)
        have hF6 : Has ((W5.alloc (.cells #[.slice (some ⟨D, 0, none⟩) t0.length t0.length] 25)).alloc (.cells #[.slice (some ⟨gf, 0, none⟩) S.fst.length cf] 25)) (W5.heap.size + 1) 25 #[.slice (some ⟨gf, 0, none⟩) S.fst.length cf] := Has.newAt (by simp)
        have hl6 : W5.heap.size ≤ ((W5.alloc (.cells #[.slice (some ⟨D, 0, none⟩) t0.length t0.length] 25)).alloc (.cells #[.slice (some ⟨gf, 0, none⟩) S.fst.length cf] 25)).heap.size := e6.size
        have HML6 := Lib.hid (HML.out W5.heap.size (W5.heap.size + 1) D gf cf _ (HX5.out.trans e6) hP6 hF6 (HD5.out.ex e6) (fun i hi => HCF.out i hi _ e6))
        have HP6 := Lib.hid hP6
        have HE6 := Lib.hid e6
        clear hP6 hF6 e6 HML
        generalize (W5.alloc (.cells #[.slice (some ⟨D, 0, none⟩) t0.length t0.length] 25)).alloc (.cells #[.slice (some ⟨gf, 0, none⟩) S.fst.length cf] 25) = W6 at *
        refine HML6.out.mono ?_
        rintro e W7 ⟨G, R, rfl, he7, hlG, hlR, hGG, hRR⟩
        have hDlt := HD5.out.lt
        have eb := (Ex.new W7 (.cells #[.slice (some ⟨R, 0, none⟩) S.fst.length S.fst.length] 36))
        have HX8 := Lib.hid (HX5.out.trans (HE6.out.trans (he7.trans eb)))
        have HP8 := Lib.hid (HP6.out.ex (he7.trans eb))
        have HD8 := Lib.hid (HD5.out.ex (HE6.out.trans (he7.trans eb)))
        have HG8 := Lib.hid (hGG.ex eb)
        have HR8 := Lib.hid (hRR.ex eb)
        have hq8 := Has.new W7 36 #[.slice (some ⟨R, 0, none⟩) S.fst.length S.fst.length]
        have HBR := Lib.hid (HB1.out.ex HX8.out)
        have hDR : D + 1 ≤ R := by omega
        have hDG : D + 1 ≤ G := by omega
        have hDw : w.heap.size + 1 < D := by omega
        have cq := hq8.cell 0
        have cP := HP8.out.cell 0
        have cr := HBR.out.cell 0
        have fr := HBR.out.free 0
        have hxw := HX8.out.size
        have hDx := HD8.out.lt
        clear he7 eb hGG hRR hq8
        go_wp2_with fail
        generalize W7.alloc (.cells #[.slice (some ⟨R, 0, none⟩) S.fst.length S.fst.length] 36) = W8 at *
        go_region
        go_wp2_with fail
        have hx := (Ex.refl (W8.setCell ⟨w.heap.size + 1, 0, none⟩ (.slice (some ⟨R, 0, none⟩) S.fst.length S.fst.length))).drew
        have H4 := (HBR.out.put1 (v := .slice (some ⟨R, 0, none⟩) S.fst.length S.fst.length)).ex hx
        have c4 := H4.cell 0
        have hD9 := (HD8.out.far (p := ⟨w.heap.size + 1, 0, none⟩) (by show _ ≠ w.heap.size + 1; omega) (.slice (some ⟨R, 0, none⟩) S.fst.length S.fst.length)).ex hx
        have hG9 := (HG8.out.far (p := ⟨w.heap.size + 1, 0, none⟩) (by show _ ≠ w.heap.size + 1; omega) (.slice (some ⟨R, 0, none⟩) S.fst.length S.fst.length)).ex hx
        have hR9 := (HR8.out.far (p := ⟨w.heap.size + 1, 0, none⟩) (by show _ ≠ w.heap.size + 1; omega) (.slice (some ⟨R, 0, none⟩) S.fst.length S.fst.length)).ex hx
        have hE := ((HE0.out.trans HX8.out).setCell (p := ⟨w.heap.size + 1, 0, none⟩) (by show w.heap.size ≤ w.heap.size + 1; omega) (.slice (some ⟨R, 0, none⟩) S.fst.length S.fst.length)).trans hx
        exact bodyPost_ret (v := .tuple #[.agg #[.slice (some ⟨R, 0, none⟩) S.fst.length S.fst.length], .slice (some ⟨D, 0, none⟩) t0.length t0.length, .int .i64 0]) (by simp [results, Tryz.results48, go_sem, c4]) rfl ⟨some ⟨R, 0, none⟩, S.fst.length, some ⟨D, 0, none⟩, t0.length, D + 1, by rw [HQ.out.1, HQ.out.2.1, HQ.out.2.2, mkT_len]; simp, hE, by omega, hD9.lt, by rw [HQ.out.2.1]; exact has_numM hD9 (by omega) (Nat.lt_succ_self _) hD9.lt, by rw [HQ.out.1]; exact OwnT.of_block hG9 hR9 hDG hDR⟩

end Go.Proofs.YtfnjpbjlikajbaaGreatDoor
