/- Crossed maps: the program's tests. -/
import Derived.Test.YtfafccldngekgaaCb1
namespace Go.Proofs.Ytfafccldngekgaa
open Go.RowKit Go.Shelf

attribute [local go_sem] Oper.semAt_some

set_option maxRecDepth 100000 in
set_option maxHeartbeats 4000000 in
theorem isCrossed_any (B0 B1 B2 : Option Addr) (t0 : List (List Int)) (M : Nat) (us fs : List Int) (d0 d1 d2 : Nat) (w : World) (hR : RwsW w B0 t0) (hX : IntsW w B1 us) (hF : IntsW w B2 fs) (hm : ModF t0 M us) (hl : fs.length = t0.length) (hr : InR M fs) :
    Calls Try.prog 60 #[.agg #[.slice B0 t0.length d0], .agg #[.int .i64 (M : Int), .slice B1 us.length d1], .slice B2 fs.length d2] w fun e w' => e = .returned (.bool (crsB t0 M us fs)) ∧ Ex w w' := by
  have hn8 := hm.g.n8
  have HAT := Lib.hid (fun W (he : Ex w W) i j (hi : i < t0.length) (hj : j < t0.length) => isCrossedAt_any B0 B1 B2 t0 M us fs d0 d1 d2 i j W (hR.ex he) (hX.ex he) (hF.ex he) hm (by omega) hr (by omega) (by omega))
  have HCC := Lib.hid (fun i j (hi : i < t0.length) (hj : j < t0.length) => ccB_iff (M := M) (us := us) (show mul t0 i j < fs.length by rw [hl]; exact hm.g.mul_lt hi hj))
  clear hR hX hF hm hl hr
  refine (callsIn_wide (n := 20)).1 ?_
  refine callsIn_of_wp_marks Try.func60 rfl trivial ?_ rfl
  simp only [Try.ntmps60, List.size_toArray, List.length_cons, List.length_nil, Nat.reduceAdd, Nat.reduceSub, Array.replicate_succ, Array.replicate_zero, List.push_toArray, List.append_toArray, List.nil_append, List.cons_append]
  have e0 : Ex w (((((w.alloc (.cells #[.slice B0 t0.length d0] 32)).alloc (.cells #[.int .i64 (M : Int), .slice B1 us.length d1] 34)).alloc (.cells #[.slice B2 fs.length d2] 25)).alloc (.cells #[.bool false] 4)).alloc (.cells #[.slice B0 t0.length d0] 32)) := (((((Ex.refl w).alloc _).alloc _).alloc _).alloc _).alloc _
  have b0 : Has (((((w.alloc (.cells #[.slice B0 t0.length d0] 32)).alloc (.cells #[.int .i64 (M : Int), .slice B1 us.length d1] 34)).alloc (.cells #[.slice B2 fs.length d2] 25)).alloc (.cells #[.bool false] 4)).alloc (.cells #[.slice B0 t0.length d0] 32)) (w.heap.size) 32 #[.slice B0 t0.length d0] := (((((Has.newAt (w := w) (e := 32) (cs := #[.slice B0 t0.length d0]) (k := w.heap.size) (by simp)).alloc _).alloc _).alloc _).alloc _)
  have b1 : Has (((((w.alloc (.cells #[.slice B0 t0.length d0] 32)).alloc (.cells #[.int .i64 (M : Int), .slice B1 us.length d1] 34)).alloc (.cells #[.slice B2 fs.length d2] 25)).alloc (.cells #[.bool false] 4)).alloc (.cells #[.slice B0 t0.length d0] 32)) (w.heap.size + 1) 34 #[.int .i64 (M : Int), .slice B1 us.length d1] := ((((Has.newAt (w := (w.alloc (.cells #[.slice B0 t0.length d0] 32))) (e := 34) (cs := #[.int .i64 (M : Int), .slice B1 us.length d1]) (k := w.heap.size + 1) (by simp)).alloc _).alloc _).alloc _)
  have b2 : Has (((((w.alloc (.cells #[.slice B0 t0.length d0] 32)).alloc (.cells #[.int .i64 (M : Int), .slice B1 us.length d1] 34)).alloc (.cells #[.slice B2 fs.length d2] 25)).alloc (.cells #[.bool false] 4)).alloc (.cells #[.slice B0 t0.length d0] 32)) (w.heap.size + 1 + 1) 25 #[.slice B2 fs.length d2] := (((Has.newAt (w := ((w.alloc (.cells #[.slice B0 t0.length d0] 32)).alloc (.cells #[.int .i64 (M : Int), .slice B1 us.length d1] 34))) (e := 25) (cs := #[.slice B2 fs.length d2]) (k := w.heap.size + 1 + 1) (by simp)).alloc _).alloc _)
  have b3 : Has (((((w.alloc (.cells #[.slice B0 t0.length d0] 32)).alloc (.cells #[.int .i64 (M : Int), .slice B1 us.length d1] 34)).alloc (.cells #[.slice B2 fs.length d2] 25)).alloc (.cells #[.bool false] 4)).alloc (.cells #[.slice B0 t0.length d0] 32)) (w.heap.size + 1 + 1 + 1) 4 #[.bool false] := ((Has.newAt (w := (((w.alloc (.cells #[.slice B0 t0.length d0] 32)).alloc (.cells #[.int .i64 (M : Int), .slice B1 us.length d1] 34)).alloc (.cells #[.slice B2 fs.length d2] 25))) (e := 4) (cs := #[.bool false]) (k := w.heap.size + 1 + 1 + 1) (by simp)).alloc _)
  have bE : Has (((((w.alloc (.cells #[.slice B0 t0.length d0] 32)).alloc (.cells #[.int .i64 (M : Int), .slice B1 us.length d1] 34)).alloc (.cells #[.slice B2 fs.length d2] 25)).alloc (.cells #[.bool false] 4)).alloc (.cells #[.slice B0 t0.length d0] 32)) (w.heap.size + 1 + 1 + 1 + 1) 32 #[.slice B0 t0.length d0] := (Has.newAt (w := ((((w.alloc (.cells #[.slice B0 t0.length d0] 32)).alloc (.cells #[.int .i64 (M : Int), .slice B1 us.length d1] 34)).alloc (.cells #[.slice B2 fs.length d2] 25)).alloc (.cells #[.bool false] 4))) (e := 32) (cs := #[.slice B0 t0.length d0]) (k := w.heap.size + 1 + 1 + 1 + 1) (by simp))
  gi_wp2_with (refine ⟨trivial, ?_⟩; gi_at_call 80; refine (callsIn_wide.2 (elementsOf_any _ t0.length d0 _)).mono ?_; rintro e w' ⟨rfl, rfl⟩)
  generalize (((((w.alloc (.cells #[.slice B0 t0.length d0] 32)).alloc (.cells #[.int .i64 (M : Int), .slice B1 us.length d1] 34)).alloc (.cells #[.slice B2 fs.length d2] 25)).alloc (.cells #[.bool false] 4)).alloc (.cells #[.slice B0 t0.length d0] 32)) = W0 at *
  have HE0 := Lib.hid e0
  have hzE := bE.lt
  clear e0
  refine range_topB (n := 20) (n₀ := w.heap.size) (by omega) (gf := 107) (lb := #[.pointer (some ⟨w.heap.size + 1 + 1 + 1 + 1, 0, none⟩)]) rfl (enters_of Try.func107 (by kernel_rfl) rfl)
    (elements_stops 19 (by omega) (w.heap.size + 1 + 1 + 1 + 1) w.heap.size t0.length d0 _ W0 bE.lt (bE.cell 0) (by omega)) (by omega) (fun _ => rfl) 2 (fun x => .int .i64 (x.val : Int))
    (fun pre W => ((∀ x ∈ pre, ∀ y : Fin t0.length, CrsAt t0 M us fs x.val y.val) ∧ Has W (w.heap.size + 1 + 1 + 1) 4 #[.bool false]) ∧ Has W w.heap.size 32 #[.slice B0 t0.length d0] ∧ Has W (w.heap.size + 1) 34 #[.int .i64 (M : Int), .slice B1 us.length d1] ∧ Has W (w.heap.size + 1 + 1) 25 #[.slice B2 fs.length d2])
    (fun c' _ W => (c' = .ret ∧ ∃ x y : Fin t0.length, ¬ CrsAt t0 M us fs x.val y.val) ∧ Has W (w.heap.size + 1 + 1 + 1) 4 #[.bool false])
    (OwnFrom.and (OwnFrom.and (ownFrom_pure _ _) (Own.from (has_own _ _ _) _)) (OwnFrom.and (Own.from (has_own _ _ _) _) (OwnFrom.and (Own.from (has_own _ _ _) _) (Own.from (has_own _ _ _) _))))
    (fun _ => OwnFrom.and (ownFrom_pure _ _) (Own.from (has_own _ _ _) _))
    ⟨⟨by simp, b3⟩, b0, b1, b2⟩ ?round ?done ?stop
  case round =>
    clear b0 b1 b2 b3 bE
    intro l x W K hK
    have HK := Lib.hid hK
    clear hK
    gi_wp2
    refine HK.out _ ?_
    clear HK
    rintro l BX pre W5 hB1 hle1 hr ⟨⟨hp, bR⟩, bG, bM, bL⟩ hKW bX _
    rw [hB1]
    clear hB1
    obtain ⟨a, ha⟩ := x
    dsimp only at bX
    have HKW := Lib.hid hKW
    have HR := Lib.hid hr
    have HP := Lib.hid hp
    clear hKW hr hp
    have hbox := bG.cell 0
    gi_wp2_with (refine ⟨trivial, ?_⟩; gi_at_call 80; refine (CallsIn.inRound l (callsIn_wide.2 (elementsOf_any _ t0.length d0 _))).mono ?_; rintro e w' ⟨rfl, rfl⟩)
    clear hbox
    have bRA := bR.alloc (.cells #[.slice B0 t0.length d0] 32)
    have bGA := bG.alloc (.cells #[.slice B0 t0.length d0] 32)
    have bMA := bM.alloc (.cells #[.slice B0 t0.length d0] 32)
    have bLA := bL.alloc (.cells #[.slice B0 t0.length d0] 32)
    have bXA : Has (W5.alloc (.cells #[.slice B0 t0.length d0] 32)) BX 2 #[.int .i64 (a : Int)] := Has.alloc bX _
    have bEA := Has.new W5 32 #[.slice B0 t0.length d0]
    have hK1 : Keeps w.heap.size W5 (W5.alloc (.cells #[.slice B0 t0.length d0] 32)) := (Keeps.refl _ _).alloc (by have := bG.lt; omega) _
    have hszA : (W5.alloc (.cells #[.slice B0 t0.length d0] 32)).heap.size = W5.heap.size + 1 := by simp
    have hrA : ∃ r, (W5.alloc (.cells #[.slice B0 t0.length d0] 32)).heap[l]? = some (.loop r) := by
      obtain ⟨r, hr⟩ := HR.out
      exact ⟨r, (Below.heap_alloc W5 _ l (Array.getElem?_eq_some_iff.1 hr).1).trans hr⟩
    have hltG := bG.lt
    clear bR bG bM bL bX
    obtain ⟨W6, hW6⟩ : ∃ W6, W5.alloc (.cells #[.slice B0 t0.length d0] 32) = W6 := ⟨_, rfl⟩
    rw [hW6] at bRA bGA bMA bLA bXA bEA hK1 hszA hrA ⊢
    clear hW6
    have HK1 := Lib.hid hK1
    have hE6 : Ex w W6 := HE0.out.trans' (HKW.out.1.trans hK1.1) (Nat.le_refl _)
    refine range_in (n := 20 - 1 - 1) (n₀ := w.heap.size) (by omega) hrA (gf := 107) (lb := #[.pointer (some ⟨W5.heap.size, 0, none⟩)]) rfl (enters_of Try.func107 (by kernel_rfl) rfl)
      (elements_stops (20 - 1 - 1 - 1) (by omega) W5.heap.size w.heap.size t0.length d0 _ W6 (by omega) (bEA.cell 0) (by omega)) (by omega) (fun _ => rfl)
      (fun pre W => ((∀ y ∈ pre, CrsAt t0 M us fs a y.val) ∧ Has W (w.heap.size + 1 + 1 + 1) 4 #[.bool false]) ∧ Has W w.heap.size 32 #[.slice B0 t0.length d0] ∧ Has W (w.heap.size + 1) 34 #[.int .i64 (M : Int), .slice B1 us.length d1] ∧ Has W (w.heap.size + 1 + 1) 25 #[.slice B2 fs.length d2] ∧ Has W BX 2 #[.int .i64 (a : Int)])
      (fun c' _ W => (c' = .ret ∧ ∃ x y : Fin t0.length, ¬ CrsAt t0 M us fs x.val y.val) ∧ Has W (w.heap.size + 1 + 1 + 1) 4 #[.bool false])
      (OwnFrom.and (OwnFrom.and (ownFrom_pure _ _) (Own.from (has_own _ _ _) _)) (OwnFrom.and (Own.from (has_own _ _ _) _) (OwnFrom.and (Own.from (has_own _ _ _) _) (OwnFrom.and (Own.from (has_own _ _ _) _) (Own.from (has_own _ _ _) _)))))
      (fun _ => OwnFrom.and (ownFrom_pure _ _) (Own.from (has_own _ _ _) _))
      ⟨⟨by simp, bRA⟩, bGA, bMA, bLA, bXA⟩ ?round2 ?done2 ?stop2
    case done2 =>
      rintro ys W rfl ⟨⟨hq, bR2⟩, bG2, bM2, bL2, _⟩ hKW2
      have HQ2 := Lib.hid hq
      clear hq
      gi_wp2
      exact ⟨HK1.out.trans hKW2, ⟨fun y hy => (List.mem_append.1 hy).elim (HP.out y) (fun e => by simp at e; subst e; exact fun c => HQ2.out c (List.mem_finRange c)), bR2⟩, bG2, bM2, bL2⟩
    case stop2 =>
      rintro c' pre' W hpre ⟨⟨rfl, hx⟩, bR2⟩ hKW2
      have HX := Lib.hid hx
      clear hx
      gi_wp2
      exact ⟨HK1.out.trans hKW2, ⟨rfl, HX.out⟩, bR2⟩
    case round2 =>
      clear bRA bGA bMA bLA bXA bEA hK1 hszA hrA
      have HE6 := Lib.hid hE6
      clear hE6
      intro l2 y W K hK
      have HK := Lib.hid hK
      clear hK
      gi_wp2
      refine HK.out _ ?_
      clear HK
      rintro l2 pre2 W7 hr2 ⟨⟨hp2, bR2⟩, bG2, bM2, bL2, bX2⟩ hKW2 _
      obtain ⟨j, hj⟩ := y
      have hE7 : Ex w W7 := HE6.out.trans' hKW2.1 (Nat.le_refl _)
      have hzw : w.heap.size ≤ W7.heap.size := hE7.size
      have HAJ := Lib.hid (HAT.out W7 hE7 a j ha hj)
      have HCJ := Lib.hid (HCC.out a j ha hj)
      have cG := bG2.cell 0
      have cM := bM2.cell 0
      have cM' := bM2.cell 1
      have cL := bL2.cell 0
      have cX := bX2.cell 0
      have HP2 := Lib.hid hp2
      have HBR := Lib.hid bR2
      have HBG := Lib.hid bG2
      have HBM := Lib.hid bM2
      have HBL := Lib.hid bL2
      have HBX := Lib.hid bX2
      obtain ⟨bv, hbv⟩ : ∃ bv, ccB t0 M us fs a j = bv := ⟨_, rfl⟩
      rw [hbv] at HAJ HCJ
      clear hp2 bR2 bG2 bM2 bL2 bX2 hKW2 hE7 hbv
      gi_wp2_with fail
      refine ⟨trivial, (CallsIn.inRound l2 (callsIn_wide.2 HAJ.out)).mono ?_⟩
      rintro e' W8 ⟨rfl, he8⟩
      have HE8 := Lib.hid he8
      have hres := (HBR.out.ex he8).cell 0
      have hfre := (HBR.out.ex he8).free 0
      clear he8 cG cM cM' cL cX
      cases bv with
      | true =>
        gi_wp2_with fail
        exact ⟨Keeps.of_below HE8.out hzw, ⟨fun y hy => (List.mem_append.1 hy).elim (HP2.out y) (fun e => by simp at e; subst e; exact HCJ.out.1 (by trivial)), HBR.out.ex HE8.out⟩, HBG.out.ex HE8.out, HBM.out.ex HE8.out, HBL.out.ex HE8.out, HBX.out.ex HE8.out⟩
      | false =>
        gi_wp2_with fail
        exact ⟨(Keeps.of_below HE8.out hzw).setCell (p := ⟨w.heap.size + 1 + 1 + 1, 0, none⟩) (by show w.heap.size ≤ w.heap.size + 1 + 1 + 1; omega) _, ⟨rfl, ⟨a, ha⟩, ⟨j, hj⟩, fun h => by
          have h2 := HCJ.out.2 h
          cases h2⟩, (HBR.out.ex HE8.out).put1⟩
  case done =>
    rintro D' xs W hD' rfl ⟨⟨hp, bR1⟩, _⟩ hKW hK
    have hres := bR1.cell 0
    have hfre := bR1.free 0
    have HN : Hid (crsB t0 M us fs = true) := Lib.hid (crsB_true fun i hi j hj => hp ⟨i, hi⟩ (List.mem_finRange _) ⟨j, hj⟩)
    have HKW := Lib.hid hKW
    clear hp hKW
    gi_wp2
    have hK' := (KeepsOthers.setCell W ⟨w.heap.size + 1 + 1 + 1, 0, none⟩ (.bool true)).same D' _ hK rfl
    refine ⟨by simp, .inl ⟨_, _, rfl, run_takeDeferred hK', ?_⟩⟩
    have hc5 := cell_kept (show (W.setCell ⟨w.heap.size + 1 + 1 + 1, 0, none⟩ (.bool true)).cell? ⟨w.heap.size + 1 + 1 + 1, 0, none⟩ = some (.bool true) from (bR1.put1 (v := .bool true)).cell 0) (grownBy_putObj' _ D' (.deferred none)) (fun r e => by cases e; exact ⟨_, hK', rfl⟩)
    refine ⟨.bool true, ?_, by rw [HN.out], (((Ex.below HE0.out).trans HKW.out.1).setCell (p := ⟨w.heap.size + 1 + 1 + 1, 0, none⟩) (by show w.heap.size ≤ w.heap.size + 1 + 1 + 1; omega) _).trans (belowK_b (w := w) (Nat.le_refl _) _ D' _ _ (by omega) hK' rfl rfl)⟩
    simp [results, Try.f60, go_sem, hc5]
  case stop =>
    rintro D' c' pre W hD' hpre ⟨⟨rfl, hx⟩, bR1⟩ hKW hK
    have HN : Hid (crsB t0 M us fs = false) := Lib.hid (by
      obtain ⟨x, y, hxy⟩ := hx
      exact crsB_false x.isLt y.isLt hxy)
    have HKW := Lib.hid hKW
    clear hx hKW
    gi_wp2
    refine ⟨by simp, .inl ⟨_, _, rfl, run_takeDeferred hK, ?_⟩⟩
    have hc5 := cell_kept (show W.cell? ⟨w.heap.size + 1 + 1 + 1, 0, none⟩ = some (.bool false) from bR1.cell 0) (grownBy_putObj' _ D' (.deferred none)) (fun r e => by cases e; exact ⟨_, hK, rfl⟩)
    refine ⟨.bool false, ?_, by rw [HN.out], ((Ex.below HE0.out).trans HKW.out.1).trans (belowK_b (w := w) (Nat.le_refl _) W D' _ _ (by omega) hK rfl rfl)⟩
    simp [results, Try.f60, go_sem, hc5]

set_option maxRecDepth 100000 in
set_option maxHeartbeats 2000000 in
theorem listCode_ex (B0 B1 B2 : Option Addr) (t0 : List (List Int)) (m : Int) (us fs : List Int) (d0 d1 d2 : Nat) (w : World) (hR : RwsW w B0 t0) (hX : IntsW w B1 us) (hF : IntsW w B2 fs) (hs : SmallT t0) (hu : us.length ≤ 1048576) (hf : fs.length ≤ 1048576) :
    Calls Try.prog 59 #[.agg #[.slice B0 t0.length d0], .agg #[.int .i64 m, .slice B1 us.length d1], .slice B2 fs.length d2] w fun e w' => e = .returned (.int .i64 (ncC t0 m us fs)) ∧ Ex w w' := by
  have e0 : Ex w ((w.alloc (.cells #[.slice B0 t0.length d0] 32)).alloc (.cells #[.int .i64 m, .slice B1 us.length d1] 34)) := ((Ex.refl w).alloc _).alloc _
  have b0 : Has ((w.alloc (.cells #[.slice B0 t0.length d0] 32)).alloc (.cells #[.int .i64 m, .slice B1 us.length d1] 34)) (w.heap.size) 32 #[.slice B0 t0.length d0] := ((Has.newAt (w := w) (e := 32) (cs := #[.slice B0 t0.length d0]) (k := w.heap.size) (by simp)).alloc _)
  have b1 : Has ((w.alloc (.cells #[.slice B0 t0.length d0] 32)).alloc (.cells #[.int .i64 m, .slice B1 us.length d1] 34)) (w.heap.size + 1) 34 #[.int .i64 m, .slice B1 us.length d1] := (Has.newAt (w := (w.alloc (.cells #[.slice B0 t0.length d0] 32))) (e := 34) (cs := #[.int .i64 m, .slice B1 us.length d1]) (k := w.heap.size + 1) (by simp))
  have HC := Lib.hid (isModule_ex B0 B1 t0 m us d0 d1 _ (hR.ex e0) (hX.ex e0) hs hu)
  have HE0 := Lib.hid e0
  have HF := Lib.hid (hF.ex e0)
  clear hR hX hF
  cases hg : gmB t0 m us with
  | false =>
    rw [hg] at HC
    have HQ := Lib.hid (ncC_mod (fs := fs) hg)
    clear hg
    go_enter Try.func59, Try.ntmps59
    go_wp2_with fail
    generalize ((w.alloc (.cells #[.slice B0 t0.length d0] 32)).alloc (.cells #[.int .i64 m, .slice B1 us.length d1] 34)) = W0 at *
    refine HC.out.mono ?_
    rintro e W1 ⟨rfl, he1⟩
    go_wp2_with fail
    go_ret
    exact ⟨by rw [HQ.out]; rfl, HE0.out.trans he1⟩
  | true =>
    rw [hg] at HC
    obtain ⟨M, rfl, hMF⟩ := gmB_f hg
    have HN := Lib.hid (fun (w' : World) (he : Ex _ w') => isNumberList_any B0 B1 B2 t0 M us fs d0 d1 d2 w' hMF.g.n8 hMF.m12 (HF.out.ex he) hf)
    have HQ : Hid (ncC t0 (M : Int) us fs = if numB t0.length (M : Int) fs = true then 0 else 2) := Lib.hid (by rw [ncC, hg, if_pos rfl])
    obtain ⟨bv, hbv⟩ : ∃ b, numB t0.length (M : Int) fs = b := ⟨_, rfl⟩
    rw [hbv] at HN HQ
    clear hg hMF hbv
    go_enter Try.func59, Try.ntmps59
    go_wp2_with fail
    generalize ((w.alloc (.cells #[.slice B0 t0.length d0] 32)).alloc (.cells #[.int .i64 (M : Int), .slice B1 us.length d1] 34)) = W0 at *
    refine HC.out.mono ?_
    rintro e W1 ⟨rfl, he1⟩
    have c0 := (b0.ex he1).cell 0
    have c1 := (b1.ex he1).cell 0
    have c1' := (b1.ex he1).cell 1
    go_wp2_with fail
    refine (HN.out W1 he1).mono ?_
    rintro e W2 ⟨rfl, he2⟩
    have HE2 := Lib.hid (HE0.out.trans (he1.trans he2))
    clear b0 b1 c0 c1 c1' he1 he2 e0
    cases bv with
    | false =>
      go_wp2_with fail
      go_ret
      exact ⟨by rw [HQ.out]; rfl, HE2.out⟩
    | true =>
      go_wp2_with fail
      go_ret
      exact ⟨by rw [HQ.out]; rfl, HE2.out⟩

set_option maxRecDepth 100000 in
set_option maxHeartbeats 2000000 in
theorem crossedCode_ex (B0 B1 B2 : Option Addr) (t0 : List (List Int)) (m : Int) (us fs : List Int) (d0 d1 d2 : Nat) (w : World) (hR : RwsW w B0 t0) (hX : IntsW w B1 us) (hF : IntsW w B2 fs) (hs : SmallT t0) (hu : us.length ≤ 1048576) (hf : fs.length ≤ 1048576) :
    Calls Try.prog 79 #[.agg #[.slice B0 t0.length d0], .agg #[.int .i64 m, .slice B1 us.length d1], .slice B2 fs.length d2] w fun e w' => e = .returned (.int .i64 (crC t0 m us fs)) ∧ Ex w w' := by
  have e0 : Ex w ((w.alloc (.cells #[.slice B0 t0.length d0] 32)).alloc (.cells #[.int .i64 m, .slice B1 us.length d1] 34)) := ((Ex.refl w).alloc _).alloc _
  have b0 : Has ((w.alloc (.cells #[.slice B0 t0.length d0] 32)).alloc (.cells #[.int .i64 m, .slice B1 us.length d1] 34)) (w.heap.size) 32 #[.slice B0 t0.length d0] := ((Has.newAt (w := w) (e := 32) (cs := #[.slice B0 t0.length d0]) (k := w.heap.size) (by simp)).alloc _)
  have b1 : Has ((w.alloc (.cells #[.slice B0 t0.length d0] 32)).alloc (.cells #[.int .i64 m, .slice B1 us.length d1] 34)) (w.heap.size + 1) 34 #[.int .i64 m, .slice B1 us.length d1] := (Has.newAt (w := (w.alloc (.cells #[.slice B0 t0.length d0] 32))) (e := 34) (cs := #[.int .i64 m, .slice B1 us.length d1]) (k := w.heap.size + 1) (by simp))
  have HC := Lib.hid (listCode_ex B0 B1 B2 t0 m us fs d0 d1 d2 _ (hR.ex e0) (hX.ex e0) (hF.ex e0) hs hu hf)
  have HE0 := Lib.hid e0
  by_cases hg : ncC t0 m us fs = 0
  · obtain ⟨hg1, hg2⟩ := ncC_zero hg
    rw [hg] at HC
    obtain ⟨M, rfl, hMF⟩ := gmB_f hg1
    obtain ⟨hl, hr⟩ := numB_true hg2
    have HT := Lib.hid (fun W (he : Ex w W) => isCrossed_any B0 B1 B2 t0 M us fs d0 d1 d2 W (hR.ex he) (hX.ex he) (hF.ex he) hMF hl hr)
    have HQ : Hid (crC t0 (M : Int) us fs = if crsB t0 M us fs = true then 0 else 5) := Lib.hid (by rw [crC, hg1, hg2, if_pos rfl, if_pos rfl, Int.toNat_natCast])
    obtain ⟨bv, hbv⟩ : ∃ b, crsB t0 M us fs = b := ⟨_, rfl⟩
    rw [hbv] at HT HQ
    clear hR hX hF hs hu hg hg1 hg2 hMF hr hbv hl
    go_enter Try.func79, Try.ntmps79
    go_wp2_with fail
    generalize ((w.alloc (.cells #[.slice B0 t0.length d0] 32)).alloc (.cells #[.int .i64 (M : Int), .slice B1 us.length d1] 34)) = W0 at *
    refine HC.out.mono ?_
    rintro e W1 ⟨rfl, he1⟩
    have c0 := (b0.ex he1).cell 0
    have c1 := (b1.ex he1).cell 0
    have c1' := (b1.ex he1).cell 1
    go_wp2_with fail
    refine (HT.out W1 (HE0.out.trans he1)).mono ?_
    rintro e W2 ⟨rfl, he2⟩
    have HE2 := Lib.hid (HE0.out.trans (he1.trans he2))
    clear b0 b1 c0 c1 c1' he1 he2 e0
    cases bv with
    | false =>
      go_wp2_with fail
      go_ret
      exact ⟨by rw [HQ.out]; rfl, HE2.out⟩
    | true =>
      go_wp2_with fail
      go_ret
      exact ⟨by rw [HQ.out]; rfl, HE2.out⟩
  · have HQ := Lib.hid (crC_nc hg)
    obtain ⟨z, hz⟩ : ∃ z, ncC t0 m us fs = z := ⟨_, rfl⟩
    rw [hz] at HC HQ hg
    have hzb : (z != 0) = true := by simpa using hg
    clear hR hX hF hg hz
    go_enter Try.func79, Try.ntmps79
    go_wp2_with fail
    generalize ((w.alloc (.cells #[.slice B0 t0.length d0] 32)).alloc (.cells #[.int .i64 m, .slice B1 us.length d1] 34)) = W0 at *
    refine HC.out.mono ?_
    rintro e W1 ⟨rfl, he1⟩
    go_wp2_with fail
    go_ret
    exact ⟨by rw [HQ.out]; rfl, HE0.out.trans he1⟩

end Go.Proofs.Ytfafccldngekgaa
