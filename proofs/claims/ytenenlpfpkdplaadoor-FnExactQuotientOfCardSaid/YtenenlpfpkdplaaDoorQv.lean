/- QuotientOf: the walk of the specification. -/
import Derived.Test.YtenenlpfpkdplaaDoorQu
namespace Go.Proofs.YtenenlpfpkdplaaDoor
open Go.RowKit Go.Shelf

attribute [local go_sem] Oper.semAt_some

set_option maxRecDepth 100000 in
set_option maxHeartbeats 8000000 in
theorem specQuotientOf_ex (t0 : List (List Int)) (t1 : List Int) : ∀ (B0 : Option Addr) (d0 : Nat) (B1 : Option Addr) (d1 : Nat) (W : World), RwsW W B0 t0 → IntsW W B1 t1 → SmallT t0 → t1.length ≤ 1048576 →
    Calls Tryd.prog 51 #[.agg #[.slice B0 t0.length d0], .slice B1 t1.length d1] W fun e W' => ∃ (C0 : Option Addr) (e0 : Nat) (C1 : Option Addr) (e1 : Nat), e = .returned (.tuple #[.agg #[.slice C0 (yQuotientOf0 t0 t1).length e0], .slice C1 (yQuotientOf1 t0 t1).length e1, .int .i64 (qQuotientOf2 t0 t1)]) ∧ Ex W W' ∧ OwnT W' W.heap.size W'.heap.size C0 (yQuotientOf0 t0 t1) ∧ OwnL W' W.heap.size W'.heap.size C1 (yQuotientOf1 t0 t1) := by
  intro B0 d0 B1 d1 w hR hX hs hu
  have e0 : Ex w ((w.alloc (.cells #[.slice B0 t0.length d0] 35)).alloc (.cells #[.slice none 0 0] 35)) := ((Ex.refl w).alloc _).alloc _
  have b0 : Has ((w.alloc (.cells #[.slice B0 t0.length d0] 35)).alloc (.cells #[.slice none 0 0] 35)) (w.heap.size) 35 #[.slice B0 t0.length d0] := ((Has.newAt (w := w) (e := 35) (cs := #[.slice B0 t0.length d0]) (k := w.heap.size) (by simp)).alloc _)
  have b1 : Has ((w.alloc (.cells #[.slice B0 t0.length d0] 35)).alloc (.cells #[.slice none 0 0] 35)) (w.heap.size + 1) 35 #[.slice none 0 0] := (Has.newAt (w := (w.alloc (.cells #[.slice B0 t0.length d0] 35))) (e := 35) (cs := #[.slice none 0 0]) (k := w.heap.size + 1) (by simp))
  have HC := Lib.hid (l01Set_any B0 B1 t0 t1 d0 d1 _ (hR.ex e0) (hX.ex e0) hs hu)
  by_cases hc : setC t0 t1 = 0
  · obtain ⟨hg, hb⟩ := setC_f hc
    rw [hc] at HC
    have hgr := grpB_iff.1 hg
    have hn1 := hgr.n1
    have hr := (setB_true.1 hb).1
    have HSU := Lib.hid (fun W (he : Ex ((w.alloc (.cells #[.slice B0 t0.length d0] 35)).alloc (.cells #[.slice none 0 0] 35)) W) => l01Subgroup_any B0 B1 t0 t1 d0 d1 W (hR.ex (e0.trans he)) (hX.ex (e0.trans he)) hgr hu hb)
    cases hsb : subB t0 (bitsK t1 t1.length) with
    | false =>
      have hq : quC t0 t1 = 5 := by rw [quC, if_pos hc, if_neg fun h => by rw [h.1] at hsb; cases hsb]
      have HQ := Lib.hid (qu_no hq (by omega))
      rw [hsb] at HSU
      clear hc hg hb hgr hR hX hs hu hsb hr hn1 hq
      go_enter Tryd.func51, Tryd.ntmps51
      go_wp2_with fail
      generalize ((w.alloc (.cells #[.slice B0 t0.length d0] 35)).alloc (.cells #[.slice none 0 0] 35)) = W0 at *
      refine HC.out.mono ?_
      rintro e W1 ⟨rfl, he1⟩
      have HE1 := Lib.hid (e0.trans he1)
      have c0 := (b0.ex he1).cell 0
      have HB1 := Lib.hid (b1.ex he1)
      have HSU1 := Lib.hid (HSU.out W1 he1)
      clear b0 b1 e0 he1 HSU
      go_wp2_with fail
      refine HSU1.out.mono ?_
      rintro e W2 ⟨rfl, he2⟩
      have HE2 := Lib.hid (HE1.out.trans he2)
      have HBR := Lib.hid (HB1.out.ex he2)
      have cr := HBR.out.cell 0
      have fr := HBR.out.free 0
      clear he2
      go_wp2_with fail
      have H4 := HBR.out.put1 (v := .slice none 0 0)
      have c4 := H4.cell 0
      have hE := HE2.out.setCell (p := ⟨w.heap.size + 1, 0, none⟩) (by show w.heap.size ≤ w.heap.size + 1; omega) (.slice none 0 0)
      exact bodyPost_ret (v := .tuple #[.agg #[.slice none 0 0], .slice none 0 0, .int .i64 5]) (by simp [results, Tryd.results51, go_sem, c4]) rfl ⟨none, 0, none, 0, by rw [HQ.out.1, HQ.out.2.1, HQ.out.2.2]; rfl, hE, by rw [HQ.out.1]; exact OwnT.nil _ _ _ (Nat.le_refl _), by rw [HQ.out.2.1]; exact OwnL.nil _ _ _ (Nat.le_refl _)⟩
    | true =>
      rw [hsb] at HSU
      have HNO := Lib.hid (fun W (he : Ex ((w.alloc (.cells #[.slice B0 t0.length d0] 35)).alloc (.cells #[.slice none 0 0] 35)) W) => l01Normal_any B0 B1 t0 t1 d0 d1 W (hR.ex (e0.trans he)) (hX.ex (e0.trans he)) hgr hu hb)
      cases hno : norB t0 (bitsK t1 t1.length) with
      | false =>
        have hq : quC t0 t1 = 5 := by rw [quC, if_pos hc, if_neg fun h => by rw [h.2] at hno; cases hno]
        have HQ := Lib.hid (qu_no hq (by omega))
        rw [hno] at HNO
        clear hc hg hb hgr hR hX hs hu hsb hno hr hn1 hq
        go_enter Tryd.func51, Tryd.ntmps51
        go_wp2_with fail
        generalize ((w.alloc (.cells #[.slice B0 t0.length d0] 35)).alloc (.cells #[.slice none 0 0] 35)) = W0 at *
        refine HC.out.mono ?_
        rintro e W1 ⟨rfl, he1⟩
        have HE01 := Lib.hid he1
        have HE1 := Lib.hid (e0.trans he1)
        have HB0 := Lib.hid (b0.ex he1)
        have c0 := HB0.out.cell 0
        have HB1 := Lib.hid (b1.ex he1)
        have HSU1 := Lib.hid (HSU.out W1 he1)
        clear b0 b1 e0 he1 HSU
        go_wp2_with fail
        refine HSU1.out.mono ?_
        rintro e W2 ⟨rfl, he2⟩
        have HE2 := Lib.hid (HE1.out.trans he2)
        have c2 := (HB0.out.ex he2).cell 0
        have HB2 := Lib.hid (HB1.out.ex he2)
        have HNO2 := Lib.hid (HNO.out W2 (HE01.out.trans he2))
        clear he2 HNO c0
        go_wp2_with fail
        refine HNO2.out.mono ?_
        rintro e W3 ⟨rfl, he3⟩
        have HE3 := Lib.hid (HE2.out.trans he3)
        have HBR := Lib.hid (HB2.out.ex he3)
        have cr := HBR.out.cell 0
        have fr := HBR.out.free 0
        clear he3 c2
        go_wp2_with fail
        have H4 := HBR.out.put1 (v := .slice none 0 0)
        have c4 := H4.cell 0
        have hE := HE3.out.setCell (p := ⟨w.heap.size + 1, 0, none⟩) (by show w.heap.size ≤ w.heap.size + 1; omega) (.slice none 0 0)
        exact bodyPost_ret (v := .tuple #[.agg #[.slice none 0 0], .slice none 0 0, .int .i64 5]) (by simp [results, Tryd.results51, go_sem, c4]) rfl ⟨none, 0, none, 0, by rw [HQ.out.1, HQ.out.2.1, HQ.out.2.2]; rfl, hE, by rw [HQ.out.1]; exact OwnT.nil _ _ _ (Nat.le_refl _), by rw [HQ.out.2.1]; exact OwnL.nil _ _ _ (Nat.le_refl _)⟩
      | true =>
        have hq : quC t0 t1 = 0 := by rw [quC, if_pos hc, if_pos ⟨hsb, hno⟩]
        have HQ := Lib.hid (qu_yes hq)
        rw [hno] at HNO
        have HCO := Lib.hid (fun W (he : Ex ((w.alloc (.cells #[.slice B0 t0.length d0] 35)).alloc (.cells #[.slice none 0 0] 35)) W) => l01Quotient_any B0 B1 t0 t1 d0 d1 W (hR.ex (e0.trans he)) (hX.ex (e0.trans he)) hgr hu hr (quS t0 t1) rfl)
        obtain ⟨S, hS⟩ : ∃ S, quS t0 t1 = S := ⟨_, rfl⟩
        rw [hS] at HQ HCO
        clear hc hg hb hgr hR hX hs hu hsb hno hr hq hS
        go_enter Tryd.func51, Tryd.ntmps51
        go_wp2_with fail
        generalize ((w.alloc (.cells #[.slice B0 t0.length d0] 35)).alloc (.cells #[.slice none 0 0] 35)) = W0 at *
        refine HC.out.mono ?_
        rintro e W1 ⟨rfl, he1⟩
        have HE01 := Lib.hid he1
        have HE1 := Lib.hid (e0.trans he1)
        have HB0 := Lib.hid (b0.ex he1)
        have c0 := HB0.out.cell 0
        have HB1 := Lib.hid (b1.ex he1)
        have HSU1 := Lib.hid (HSU.out W1 he1)
        clear b0 b1 e0 he1 HSU
        go_wp2_with fail
        refine HSU1.out.mono ?_
        rintro e W2 ⟨rfl, he2⟩
        have HE02 := Lib.hid (HE01.out.trans he2)
        have HE2 := Lib.hid (HE1.out.trans he2)
        have HB02 := Lib.hid (HB0.out.ex he2)
        have c2 := HB02.out.cell 0
        have HB2 := Lib.hid (HB1.out.ex he2)
        have HNO2 := Lib.hid (HNO.out W2 HE02.out)
        clear he2 HNO c0
        go_wp2_with fail
        refine HNO2.out.mono ?_
        rintro e W3 ⟨rfl, he3⟩
        have HE3 := Lib.hid (HE2.out.trans he3)
        have HB3 := Lib.hid (HB2.out.ex he3)
        have c3 := (HB02.out.ex he3).cell 0
        have HCO3 := Lib.hid (HCO.out W3 (HE02.out.trans he3))
        clear he3 c2 HCO
        go_wp2_with fail
        refine HCO3.out.mono ?_
        rintro e W4 ⟨CC, n, D, rfl, he4, hlD, hD, hO⟩
        have hlw := HE3.out.size
        have hlb := HB3.out.lt
        have hDw : w.heap.size + 1 < D := by omega
        have eb := (Ex.new W4 (.cells #[.slice CC S.fst.length n] 35))
        have HX5 := Lib.hid (HE3.out.trans (he4.trans eb))
        have HD5 := Lib.hid (hD.ex eb)
        have HO5 := Lib.hid (hO.ex eb)
        have HBR := Lib.hid (HB3.out.ex (he4.trans eb))
        have hq5 := Has.new W4 35 #[.slice CC S.fst.length n]
        have cq := hq5.cell 0
        have cr := HBR.out.cell 0
        have fr := HBR.out.free 0
        have h45 := eb.size
        have hDx := HD5.out.lt
        clear he4 eb hD hO hq5 c3
        go_wp2_with fail
        generalize W4.alloc (.cells #[.slice CC S.fst.length n] 35) = W5 at *
        have H4 := HBR.out.put1 (v := .slice CC S.fst.length n)
        have c4 := H4.cell 0
        have hon := Only.set W5 (w.heap.size + 1) 0 (.slice CC S.fst.length n)
        have hD9 := HD5.out.far (p := ⟨w.heap.size + 1, 0, none⟩) (by show _ ≠ w.heap.size + 1; omega) (.slice CC S.fst.length n)
        have hO9 := HO5.out.above hon (by omega)
        have hE9 := HX5.out.setCell (p := ⟨w.heap.size + 1, 0, none⟩) (by show w.heap.size ≤ w.heap.size + 1; omega) (.slice CC S.fst.length n)
        exact bodyPost_ret (v := .tuple #[.agg #[.slice CC S.fst.length n], .slice (some ⟨D, 0, none⟩) t0.length t0.length, .int .i64 0]) (by simp [results, Tryd.results51, go_sem, c4]) rfl ⟨CC, n, some ⟨D, 0, none⟩, t0.length, by rw [HQ.out.1, HQ.out.2.1, HQ.out.2.2, mkT_len]; simp, hE9, by rw [HQ.out.1]; exact hO9.mono (by omega) hO9.1 (Nat.le_refl _), by rw [HQ.out.2.1]; exact has_numM hD9 (by omega) hD9.lt (Nat.le_refl _)⟩

  · have hq : quC t0 t1 = setC t0 t1 := by rw [quC, if_neg hc]
    have HQ := Lib.hid (qu_no hq hc)
    obtain ⟨z, hz⟩ : ∃ z, setC t0 t1 = z := ⟨_, rfl⟩
    rw [hz] at HC HQ hc
    have hzb : (z != 0) = true := by simpa using hc
    clear hc hz hq hR hX hs hu
    go_enter Tryd.func51, Tryd.ntmps51
    go_wp2_with fail
    generalize ((w.alloc (.cells #[.slice B0 t0.length d0] 35)).alloc (.cells #[.slice none 0 0] 35)) = W0 at *
    refine HC.out.mono ?_
    rintro e W1 ⟨rfl, he1⟩
    have HBR := Lib.hid (b1.ex he1)
    have cr := HBR.out.cell 0
    have fr := HBR.out.free 0
    have HE1 := Lib.hid (e0.trans he1)
    clear b0 b1 e0 he1
    go_wp2_with fail
    have H4 := HBR.out.put1 (v := .slice none 0 0)
    have c4 := H4.cell 0
    have hE := HE1.out.setCell (p := ⟨w.heap.size + 1, 0, none⟩) (by show w.heap.size ≤ w.heap.size + 1; omega) (.slice none 0 0)
    exact bodyPost_ret (v := .tuple #[.agg #[.slice none 0 0], .slice none 0 0, .int .i64 z]) (by simp [results, Tryd.results51, go_sem, c4]) rfl ⟨none, 0, none, 0, by rw [HQ.out.1, HQ.out.2.1, HQ.out.2.2]; rfl, hE, by rw [HQ.out.1]; exact OwnT.nil _ _ _ (Nat.le_refl _), by rw [HQ.out.2.1]; exact OwnL.nil _ _ _ (Nat.le_refl _)⟩

end Go.Proofs.YtenenlpfpkdplaaDoor
