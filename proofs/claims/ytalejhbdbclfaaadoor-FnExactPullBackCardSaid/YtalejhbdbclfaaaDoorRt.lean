/- RestrictModule: the contract of the program. -/
import Derived.Test.YtalejhbdbclfaaaDoorRq
namespace Go.Proofs.YtalejhbdbclfaaaDoor
open Go.RowKit

theorem keepsHom_ex (A A' L A4 : Option Addr) (t u : List (List Int)) (xs : List Int) (c c' c'' c4 g : Nat) (w : World) (hR : RwsW w A t) (hR' : RwsW w A' u) (hX : IntsW w L xs) (hm : Has w g 27 #[.slice A' u.length c']) (hg : IsGrp t) (hg' : IsGrp u) (hx : InR u.length xs) (hl : xs.length = t.length) :
    Calls Tryd.prog 147 #[.agg #[.slice A t.length c], .agg #[.slice A4 u.length c4, .func (.func 194) #[] #[.pointer (some ⟨g, 0, none⟩)]], .slice L xs.length c''] w fun e w' => e = .returned (.bool (homB t u xs)) ∧ Ex w w' := by
  obtain ⟨bt, ot, bb, oo, C, rfl, hQ⟩ := hR.sq hg
  obtain ⟨bu, ou, bb', oo', C', rfl, hQ'⟩ := hR'.sq hg'
  have hlen : 0 < xs.length := by rw [hl]; exact hg.n1
  rcases hX.ints with hX3 | ⟨bx, ox, rfl, hbx, hcx⟩
  · subst hX3
    exact absurd hlen (by simp)
  have hn8 := hg'.n8
  exact keep_hom t u xs ▸ keepsProductsG_any t (mul u) u.length (.slice A4 u.length c4) (.pointer (some ⟨g, 0, none⟩)) xs c c'' w.heap.size bt ot bx ox bb oo C w hQ hcx (Nat.le_refl _) hbx hg (by omega) hx hl
    (fun W' hb x y hx hy => groupProd_any u x y g c' w.heap.size bu ou bb' oo' C' W' ((hm.below hb hm.lt).cell 0) (hQ'.below hb (Nat.le_refl _)) hg' hx hy) (fun x y hx hy => hg'.mul_lt hx hy)

set_option maxRecDepth 100000 in
set_option maxHeartbeats 1000000 in
theorem restrictUnit_ex (x q : Nat) (z : Int) (bi oi li ci bu ou lu cu Bm Bi : Nat) (w : World) (ha : w.cell? ⟨Bm, 1, none⟩ = some (.slice (some ⟨bu, ou, none⟩) lu cu)) (hi : w.cell? ⟨Bi, 0, none⟩ = some (.slice (some ⟨bi, oi, none⟩) li ci))
    (hx : x < li) (hq : q < lu) (hc : w.cell? ⟨bi, oi + x, none⟩ = some (.int .i64 (q : Int))) (hd : w.cell? ⟨bu, ou + q, none⟩ = some (.int .i64 z)) (_ : li ≤ 8) (_ : lu ≤ 8) :
    Calls Tryd.prog 149 #[.int .i64 (x : Int), .pointer (some ⟨Bm, 0, none⟩), .pointer (some ⟨Bi, 0, none⟩)] w fun e w' => e = .returned (.int .i64 z) ∧ Ex w w' := by
  go_enter Tryd.func149, Tryd.ntmps149
  go_wp2_with fail
  go_quiet (fail)
  go_wp2_with fail
  go_ret
  exact ⟨rfl, Ex.drewN (Ex.refl w) _⟩

set_option maxRecDepth 100000 in
set_option maxHeartbeats 4000000 in
theorem implRestrictModule_ex (t0 t1 : List (List Int)) (t2 : List Int) (m3 : Int) (t3 : List Int) : ∀ (B0 : Option Addr) (d0 : Nat) (B1 : Option Addr) (d1 : Nat) (B2 : Option Addr) (d2 : Nat) (B3 : Option Addr) (d3 : Nat) (W : World), RwsW W B0 t0 → RwsW W B1 t1 → IntsW W B2 t2 → IntsW W B3 t3 → SmallT t0 → SmallT t1 → t2.length ≤ 1048576 → t3.length ≤ 1048576 →
    Calls Tryd.prog 95 #[.agg #[.slice B0 t0.length d0], .agg #[.slice B1 t1.length d1], .slice B2 t2.length d2, .agg #[.int .i64 m3, .slice B3 t3.length d3]] W fun e W' => ∃ (C0 : Option Addr) (e0 : Nat), e = .returned (.tuple #[.agg #[.int .i64 (qRestrictModule0 t0 t1 t2 m3 t3), .slice C0 (yRestrictModule0 t0 t1 t2 m3 t3).length e0], .int .i64 (qRestrictModule1 t0 t1 t2 m3 t3)]) ∧ Ex W W' ∧ OwnL W' W.heap.size W'.heap.size C0 (yRestrictModule0 t0 t1 t2 m3 t3) := by
  intro B0 d0 B1 d1 B2 d2 B3 d3 w hR hR' hX hY hs hs' hx hy
  have e0 : Ex w (((((w.alloc (.cells #[.slice B0 t0.length d0] 27)).alloc (.cells #[.slice B1 t1.length d1] 27)).alloc (.cells #[.slice B2 t2.length d2] 25)).alloc (.cells #[.int .i64 m3, .slice B3 t3.length d3] 40)).alloc (.cells #[.int .i64 0, .slice none 0 0] 40)) := (((((Ex.refl w).alloc _).alloc _).alloc _).alloc _).alloc _
  have b0 : Has (((((w.alloc (.cells #[.slice B0 t0.length d0] 27)).alloc (.cells #[.slice B1 t1.length d1] 27)).alloc (.cells #[.slice B2 t2.length d2] 25)).alloc (.cells #[.int .i64 m3, .slice B3 t3.length d3] 40)).alloc (.cells #[.int .i64 0, .slice none 0 0] 40)) (w.heap.size) 27 #[.slice B0 t0.length d0] := (((((Has.newAt (w := w) (e := 27) (cs := #[.slice B0 t0.length d0]) (k := w.heap.size) (by simp)).alloc _).alloc _).alloc _).alloc _)
  have b1 : Has (((((w.alloc (.cells #[.slice B0 t0.length d0] 27)).alloc (.cells #[.slice B1 t1.length d1] 27)).alloc (.cells #[.slice B2 t2.length d2] 25)).alloc (.cells #[.int .i64 m3, .slice B3 t3.length d3] 40)).alloc (.cells #[.int .i64 0, .slice none 0 0] 40)) (w.heap.size + 1) 27 #[.slice B1 t1.length d1] := ((((Has.newAt (w := (w.alloc (.cells #[.slice B0 t0.length d0] 27))) (e := 27) (cs := #[.slice B1 t1.length d1]) (k := w.heap.size + 1) (by simp)).alloc _).alloc _).alloc _)
  have b2 : Has (((((w.alloc (.cells #[.slice B0 t0.length d0] 27)).alloc (.cells #[.slice B1 t1.length d1] 27)).alloc (.cells #[.slice B2 t2.length d2] 25)).alloc (.cells #[.int .i64 m3, .slice B3 t3.length d3] 40)).alloc (.cells #[.int .i64 0, .slice none 0 0] 40)) (w.heap.size + 1 + 1) 25 #[.slice B2 t2.length d2] := (((Has.newAt (w := ((w.alloc (.cells #[.slice B0 t0.length d0] 27)).alloc (.cells #[.slice B1 t1.length d1] 27))) (e := 25) (cs := #[.slice B2 t2.length d2]) (k := w.heap.size + 1 + 1) (by simp)).alloc _).alloc _)
  have b3 : Has (((((w.alloc (.cells #[.slice B0 t0.length d0] 27)).alloc (.cells #[.slice B1 t1.length d1] 27)).alloc (.cells #[.slice B2 t2.length d2] 25)).alloc (.cells #[.int .i64 m3, .slice B3 t3.length d3] 40)).alloc (.cells #[.int .i64 0, .slice none 0 0] 40)) (w.heap.size + 1 + 1 + 1) 40 #[.int .i64 m3, .slice B3 t3.length d3] := ((Has.newAt (w := (((w.alloc (.cells #[.slice B0 t0.length d0] 27)).alloc (.cells #[.slice B1 t1.length d1] 27)).alloc (.cells #[.slice B2 t2.length d2] 25))) (e := 40) (cs := #[.int .i64 m3, .slice B3 t3.length d3]) (k := w.heap.size + 1 + 1 + 1) (by simp)).alloc _)
  have b4 : Has (((((w.alloc (.cells #[.slice B0 t0.length d0] 27)).alloc (.cells #[.slice B1 t1.length d1] 27)).alloc (.cells #[.slice B2 t2.length d2] 25)).alloc (.cells #[.int .i64 m3, .slice B3 t3.length d3] 40)).alloc (.cells #[.int .i64 0, .slice none 0 0] 40)) (w.heap.size + 1 + 1 + 1 + 1) 40 #[.int .i64 0, .slice none 0 0] := (Has.newAt (w := ((((w.alloc (.cells #[.slice B0 t0.length d0] 27)).alloc (.cells #[.slice B1 t1.length d1] 27)).alloc (.cells #[.slice B2 t2.length d2] 25)).alloc (.cells #[.int .i64 m3, .slice B3 t3.length d3] 40))) (e := 40) (cs := #[.int .i64 0, .slice none 0 0]) (k := w.heap.size + 1 + 1 + 1 + 1) (by simp))
  have HC := Lib.hid (implIsGroup_ex B0 t0 d0 _ (hR.ex e0) hs)
  cases hgt : grpB t0 with
  | false =>
    have HQ := Lib.hid (rs_err (resR_t (u := t1) (xs := t2) (m := m3) (us := t3) hgt) (by decide))
    rw [hgt] at HC
    clear hgt
    go_enter Tryd.func95, Tryd.ntmps95
    go_wp2_with fail
    generalize (((((w.alloc (.cells #[.slice B0 t0.length d0] 27)).alloc (.cells #[.slice B1 t1.length d1] 27)).alloc (.cells #[.slice B2 t2.length d2] 25)).alloc (.cells #[.int .i64 m3, .slice B3 t3.length d3] 40)).alloc (.cells #[.int .i64 0, .slice none 0 0] 40)) = W0 at *
    refine HC.out.mono ?_
    rintro e W1 ⟨rfl, he1⟩
    have HB4 := Lib.hid (b4.ex he1)
    have c4 := HB4.out.cell 0
    have c4' := HB4.out.cell 1
    have f4 := HB4.out.free 0
    have f4' := HB4.out.free 1
    clear b0 b1 b2 b3 b4
    go_wp2_with fail
    have H4 := HB4.out.put2 (u := .int .i64 0) (v := .slice none 0 0)
    have c4 := H4.cell 0
    have c4' := H4.cell 1
    refine bodyPost_ret (v := .tuple #[.agg #[.int .i64 0, .slice none 0 0], .int .i64 1]) (by simp [results, Tryd.results95, go_sem, c4, c4']) rfl ⟨none, 0, by rw [HQ.out.1, HQ.out.2.1, HQ.out.2.2]; rfl, ((e0.trans he1).setCell (by show w.heap.size ≤ w.heap.size + 1 + 1 + 1 + 1; omega) _).setCell (by show w.heap.size ≤ w.heap.size + 1 + 1 + 1 + 1; omega) _, by rw [HQ.out.2.1]; exact OwnL.nil _ _ _ (Nat.le_refl _)⟩
  | true =>
    rw [hgt] at HC
    have HC2 := Lib.hid (fun (W1 : World) (he : Ex (((((w.alloc (.cells #[.slice B0 t0.length d0] 27)).alloc (.cells #[.slice B1 t1.length d1] 27)).alloc (.cells #[.slice B2 t2.length d2] 25)).alloc (.cells #[.int .i64 m3, .slice B3 t3.length d3] 40)).alloc (.cells #[.int .i64 0, .slice none 0 0] 40)) W1) => isModule_ex B1 B3 t1 m3 t3 d1 d3 W1 ((hR'.ex e0).ex he) ((hY.ex e0).ex he) hs' hy)
    cases hgm : gmB t1 m3 t3 with
    | false =>
      have HQ := Lib.hid (rs_err (resR_m (t := t0) (xs := t2) hgm) (by decide))
      rw [hgm] at HC2
      clear hgt hgm hR hR' hX hY
      go_enter Tryd.func95, Tryd.ntmps95
      go_wp2_with fail
      generalize (((((w.alloc (.cells #[.slice B0 t0.length d0] 27)).alloc (.cells #[.slice B1 t1.length d1] 27)).alloc (.cells #[.slice B2 t2.length d2] 25)).alloc (.cells #[.int .i64 m3, .slice B3 t3.length d3] 40)).alloc (.cells #[.int .i64 0, .slice none 0 0] 40)) = W0 at *
      refine HC.out.mono ?_
      rintro e W1 ⟨rfl, he1⟩
      have h0 := b0.ex he1
      have h1 := b1.ex he1
      have h2 := b2.ex he1
      have h3 := b3.ex he1
      have h4 := b4.ex he1
      have HE1 := Lib.hid (e0.trans he1)
      have HCC := Lib.hid (HC2.out W1 he1)
      have k1 := h1.cell 0
      have k3 := h3.cell 0
      have k3' := h3.cell 1
      clear b0 b1 b2 b3 b4 he1 e0
      go_wp2_with fail
      refine HCC.out.mono ?_
      rintro e W2 ⟨rfl, he2⟩
      clear k1 k3 k3'
      have HE2 := Lib.hid (HE1.out.trans he2)
      have HB0 := Lib.hid (h0.ex he2)
      have HB1 := Lib.hid (h1.ex he2)
      have HB2 := Lib.hid (h2.ex he2)
      have HB3 := Lib.hid (h3.ex he2)
      have HB4 := Lib.hid (h4.ex he2)
      clear h0 h1 h2 h3 h4 he2 HCC
      have c4 := HB4.out.cell 0
      have c4' := HB4.out.cell 1
      have f4 := HB4.out.free 0
      have f4' := HB4.out.free 1
      go_wp2_with fail
      have H4 := HB4.out.put2 (u := .int .i64 0) (v := .slice none 0 0)
      have c4 := H4.cell 0
      have c4' := H4.cell 1
      refine bodyPost_ret (v := .tuple #[.agg #[.int .i64 0, .slice none 0 0], .int .i64 1]) (by simp [results, Tryd.results95, go_sem, c4, c4']) rfl ⟨none, 0, by rw [HQ.out.1, HQ.out.2.1, HQ.out.2.2]; rfl, ((HE2.out).setCell (by show w.heap.size ≤ w.heap.size + 1 + 1 + 1 + 1; omega) _).setCell (by show w.heap.size ≤ w.heap.size + 1 + 1 + 1 + 1; omega) _, by rw [HQ.out.2.1]; exact OwnL.nil _ _ _ (Nat.le_refl _)⟩
    | true =>
      rw [hgm] at HC2
      obtain ⟨M, rfl, hF⟩ := gmB_f hgm
      have hgrp := grpB_iff.1 hgt
      have HGR := Lib.hid hgrp
      have HF := Lib.hid hF
      have hn8 := hgrp.n8
      have hu8 := hF.g.n8
      have HIL := Lib.hid (fun (W' : World) (he : Ex w W') => isImageList_any B0 B1 B2 t0.length t1.length d0 d1 d2 W'.heap.size t2 W' (hX.ex he).ints (Nat.le_refl _) (by omega) (by omega) hx)
      cases hd : (decide (t2.length = t0.length) && inRB t1.length t2) with
      | false =>
        have HQ : Hid (qRestrictModule0 t0 t1 t2 (M : Int) t3 = 0 ∧ yRestrictModule0 t0 t1 t2 (M : Int) t3 = [] ∧ qRestrictModule1 t0 t1 t2 (M : Int) t3 = 2) := Lib.hid (rs_err (by unfold resR; rw [hgt, hgm, hd]; simp) (by decide))
        rw [hd] at HIL
        clear hgt hgm hR hR' hX hY hd hgrp hF
        go_enter Tryd.func95, Tryd.ntmps95
        go_wp2_with fail
        generalize (((((w.alloc (.cells #[.slice B0 t0.length d0] 27)).alloc (.cells #[.slice B1 t1.length d1] 27)).alloc (.cells #[.slice B2 t2.length d2] 25)).alloc (.cells #[.int .i64 (M : Int), .slice B3 t3.length d3] 40)).alloc (.cells #[.int .i64 0, .slice none 0 0] 40)) = W0 at *
        refine HC.out.mono ?_
        rintro e W1 ⟨rfl, he1⟩
        have h0 := b0.ex he1
        have h1 := b1.ex he1
        have h2 := b2.ex he1
        have h3 := b3.ex he1
        have h4 := b4.ex he1
        have HE1 := Lib.hid (e0.trans he1)
        have HCC := Lib.hid (HC2.out W1 he1)
        have k1 := h1.cell 0
        have k3 := h3.cell 0
        have k3' := h3.cell 1
        clear b0 b1 b2 b3 b4 he1 e0
        go_wp2_with fail
        refine HCC.out.mono ?_
        rintro e W2 ⟨rfl, he2⟩
        clear k1 k3 k3'
        have HE2 := Lib.hid (HE1.out.trans he2)
        have HB0 := Lib.hid (h0.ex he2)
        have HB1 := Lib.hid (h1.ex he2)
        have HB2 := Lib.hid (h2.ex he2)
        have HB3 := Lib.hid (h3.ex he2)
        have HB4 := Lib.hid (h4.ex he2)
        clear h0 h1 h2 h3 h4 he2 HCC
        have k0 := HB0.out.cell 0
        have k1 := HB1.out.cell 0
        have k2 := HB2.out.cell 0
        have HILW := Lib.hid (HIL.out W2 HE2.out)
        go_wp2_with fail
        refine HILW.out.mono ?_
        rintro e W3 ⟨rfl, hb3⟩
        have he3 : Ex W2 W3 := hb3
        have HE3 := Lib.hid (HE2.out.trans he3)
        have HB0 := Lib.hid (HB0.out.ex he3)
        have HB1 := Lib.hid (HB1.out.ex he3)
        have HB2 := Lib.hid (HB2.out.ex he3)
        have HB3 := Lib.hid (HB3.out.ex he3)
        have HB4 := Lib.hid (HB4.out.ex he3)
        clear k0 k1 k2 HILW he3 hb3 HE2
        have c4 := HB4.out.cell 0
        have c4' := HB4.out.cell 1
        have f4 := HB4.out.free 0
        have f4' := HB4.out.free 1
        go_wp2_with fail
        have H4 := HB4.out.put2 (u := .int .i64 0) (v := .slice none 0 0)
        have c4 := H4.cell 0
        have c4' := H4.cell 1
        refine bodyPost_ret (v := .tuple #[.agg #[.int .i64 0, .slice none 0 0], .int .i64 2]) (by simp [results, Tryd.results95, go_sem, c4, c4']) rfl ⟨none, 0, by rw [HQ.out.1, HQ.out.2.1, HQ.out.2.2]; rfl, ((HE3.out).setCell (by show w.heap.size ≤ w.heap.size + 1 + 1 + 1 + 1; omega) _).setCell (by show w.heap.size ≤ w.heap.size + 1 + 1 + 1 + 1; omega) _, by rw [HQ.out.2.1]; exact OwnL.nil _ _ _ (Nat.le_refl _)⟩
      | true =>
        rw [hd] at HIL
        have hd2 := hd
        simp only [Bool.and_eq_true, decide_eq_true_eq] at hd2
        obtain ⟨hlen, hin⟩ := hd2
        have HLEN := Lib.hid hlen
        have HIR := Lib.hid (inRB_true hin)
        have HK := Lib.hid (fun (W' : World) (A4 : Option Addr) (c4 g : Nat) (he : Ex w W') (hm : Has W' g 27 #[.slice B1 t1.length d1]) => keepsHom_ex B0 B1 B2 A4 t0 t1 t2 d0 d1 d2 c4 g W' (hR.ex he) (hR'.ex he) (hX.ex he) hm hgrp hF.g (inRB_true hin) hlen)
        have HX := Lib.hid hX
        have HY := Lib.hid hY
        cases hhb : homB t0 t1 t2 with
        | false =>
          have HQ : Hid (qRestrictModule0 t0 t1 t2 (M : Int) t3 = 0 ∧ yRestrictModule0 t0 t1 t2 (M : Int) t3 = [] ∧ qRestrictModule1 t0 t1 t2 (M : Int) t3 = 5) := Lib.hid (rs_err (resR_h hgt hgm hlen hin hhb) (by decide))
          rw [hhb] at HK
          clear hgt hgm hR hR' hX hY hs hs' hF hgrp hin hlen hhb hd
          go_enter Tryd.func95, Tryd.ntmps95
          go_wp2_with fail
          generalize (((((w.alloc (.cells #[.slice B0 t0.length d0] 27)).alloc (.cells #[.slice B1 t1.length d1] 27)).alloc (.cells #[.slice B2 t2.length d2] 25)).alloc (.cells #[.int .i64 (M : Int), .slice B3 t3.length d3] 40)).alloc (.cells #[.int .i64 0, .slice none 0 0] 40)) = W0 at *
          refine HC.out.mono ?_
          rintro e W1 ⟨rfl, he1⟩
          have h0 := b0.ex he1
          have h1 := b1.ex he1
          have h2 := b2.ex he1
          have h3 := b3.ex he1
          have h4 := b4.ex he1
          have HE1 := Lib.hid (e0.trans he1)
          have HCC := Lib.hid (HC2.out W1 he1)
          have k1 := h1.cell 0
          have k3 := h3.cell 0
          have k3' := h3.cell 1
          clear b0 b1 b2 b3 b4 he1 e0
          go_wp2_with fail
          refine HCC.out.mono ?_
          rintro e W2 ⟨rfl, he2⟩
          clear k1 k3 k3'
          have HE2 := Lib.hid (HE1.out.trans he2)
          have HB0 := Lib.hid (h0.ex he2)
          have HB1 := Lib.hid (h1.ex he2)
          have HB2 := Lib.hid (h2.ex he2)
          have HB3 := Lib.hid (h3.ex he2)
          have HB4 := Lib.hid (h4.ex he2)
          clear h0 h1 h2 h3 h4 he2 HCC
          have k0 := HB0.out.cell 0
          have k1 := HB1.out.cell 0
          have k2 := HB2.out.cell 0
          have HILW := Lib.hid (HIL.out W2 HE2.out)
          go_wp2_with fail
          refine HILW.out.mono ?_
          rintro e W3 ⟨rfl, hb3⟩
          have he3 : Ex W2 W3 := hb3
          have HE3 := Lib.hid (HE2.out.trans he3)
          have HB0 := Lib.hid (HB0.out.ex he3)
          have HB1 := Lib.hid (HB1.out.ex he3)
          have HB2 := Lib.hid (HB2.out.ex he3)
          have HB3 := Lib.hid (HB3.out.ex he3)
          have HB4 := Lib.hid (HB4.out.ex he3)
          clear k0 k1 k2 HILW he3 hb3 HE2
          go_wp2_with fail
          have HS3 := Lib.hid (fun (W' : World) (he : Ex W3.drew W') => And.intro ((Has.ex (w := W3.drew) HB0.out he).cell 0) (And.intro ((Has.ex (w := W3.drew) HB1.out he).cell 0) ((Has.ex (w := W3.drew) HB2.out he).cell 0)))
          have HE3d := Lib.hid (HE3.out.drew)
          go_wp2_with fail
          go_region_held3 (fun w' => w'.cell? ⟨w.heap.size, 0, none⟩ = some (.slice B0 t0.length d0) ∧ w'.cell? ⟨w.heap.size + 1, 0, none⟩ = some (.slice B1 t1.length d1) ∧ w'.cell? ⟨w.heap.size + 1 + 1, 0, none⟩ = some (.slice B2 t2.length d2))
            (first
              | exact HS3.out _ (Ex.refl _)
              | exact HS3.out _ hb4
              | exact HS3.out _ hb5)
            (first
              | (go_at_call 148; refine (groupTarget_any B1 t1.length d1 W3.drew (by omega)).mono ?_; rintro e W4 ⟨A4, c4, rfl, hb4', hm4, _⟩; have hb4 : Ex W3.drew W4 := hb4')
              | (go_at_call 147; refine (HK.out W4 A4 c4 _ (HE3d.out.trans hb4) hm4).mono ?_; rintro e W5 ⟨rfl, hb5'⟩; have hb5 := hb4.trans hb5'))
          have he5 := (Ex.refl W3).drew.trans hb5
          have HE5 := Lib.hid (HE3.out.trans he5)
          have HB0 := Lib.hid (HB0.out.ex he5)
          have HB2 := Lib.hid (HB2.out.ex he5)
          have HB3 := Lib.hid (HB3.out.ex he5)
          have HB4 := Lib.hid (HB4.out.ex he5)
          clear he5 hb5 hb5' hb4 hb4' hm4 HS3 HE3d HB1 HE3
          have c4 := HB4.out.cell 0
          have c4' := HB4.out.cell 1
          have f4 := HB4.out.free 0
          have f4' := HB4.out.free 1
          go_wp2_with fail
          have H4 := HB4.out.put2 (u := .int .i64 0) (v := .slice none 0 0)
          have c4 := H4.cell 0
          have c4' := H4.cell 1
          refine bodyPost_ret (v := .tuple #[.agg #[.int .i64 0, .slice none 0 0], .int .i64 5]) (by simp [results, Tryd.results95, go_sem, c4, c4']) rfl ⟨none, 0, by rw [HQ.out.1, HQ.out.2.1, HQ.out.2.2]; rfl, ((HE5.out).setCell (by show w.heap.size ≤ w.heap.size + 1 + 1 + 1 + 1; omega) _).setCell (by show w.heap.size ≤ w.heap.size + 1 + 1 + 1 + 1; omega) _, by rw [HQ.out.2.1]; exact OwnL.nil _ _ _ (Nat.le_refl _)⟩
        | true =>
          have HQ := Lib.hid (rs_yes (resR_y hgt hgm hlen hin hhb))
          rw [hhb] at HK
          clear hgt hgm hR hR' hX hY hs hs' hF hgrp hin hlen hhb hd
          go_enter Tryd.func95, Tryd.ntmps95
          go_wp2_with fail
          generalize (((((w.alloc (.cells #[.slice B0 t0.length d0] 27)).alloc (.cells #[.slice B1 t1.length d1] 27)).alloc (.cells #[.slice B2 t2.length d2] 25)).alloc (.cells #[.int .i64 (M : Int), .slice B3 t3.length d3] 40)).alloc (.cells #[.int .i64 0, .slice none 0 0] 40)) = W0 at *
          refine HC.out.mono ?_
          rintro e W1 ⟨rfl, he1⟩
          have h0 := b0.ex he1
          have h1 := b1.ex he1
          have h2 := b2.ex he1
          have h3 := b3.ex he1
          have h4 := b4.ex he1
          have HE1 := Lib.hid (e0.trans he1)
          have HCC := Lib.hid (HC2.out W1 he1)
          have k1 := h1.cell 0
          have k3 := h3.cell 0
          have k3' := h3.cell 1
          clear b0 b1 b2 b3 b4 he1 e0
          go_wp2_with fail
          refine HCC.out.mono ?_
          rintro e W2 ⟨rfl, he2⟩
          clear k1 k3 k3'
          have HE2 := Lib.hid (HE1.out.trans he2)
          have HB0 := Lib.hid (h0.ex he2)
          have HB1 := Lib.hid (h1.ex he2)
          have HB2 := Lib.hid (h2.ex he2)
          have HB3 := Lib.hid (h3.ex he2)
          have HB4 := Lib.hid (h4.ex he2)
          clear h0 h1 h2 h3 h4 he2 HCC
          have k0 := HB0.out.cell 0
          have k1 := HB1.out.cell 0
          have k2 := HB2.out.cell 0
          have HILW := Lib.hid (HIL.out W2 HE2.out)
          go_wp2_with fail
          refine HILW.out.mono ?_
          rintro e W3 ⟨rfl, hb3⟩
          have he3 : Ex W2 W3 := hb3
          have HE3 := Lib.hid (HE2.out.trans he3)
          have HB0 := Lib.hid (HB0.out.ex he3)
          have HB1 := Lib.hid (HB1.out.ex he3)
          have HB2 := Lib.hid (HB2.out.ex he3)
          have HB3 := Lib.hid (HB3.out.ex he3)
          have HB4 := Lib.hid (HB4.out.ex he3)
          clear k0 k1 k2 HILW he3 hb3 HE2
          go_wp2_with fail
          have HS3 := Lib.hid (fun (W' : World) (he : Ex W3.drew W') => And.intro ((Has.ex (w := W3.drew) HB0.out he).cell 0) (And.intro ((Has.ex (w := W3.drew) HB1.out he).cell 0) ((Has.ex (w := W3.drew) HB2.out he).cell 0)))
          have HE3d := Lib.hid (HE3.out.drew)
          go_wp2_with fail
          go_region_held3 (fun w' => w'.cell? ⟨w.heap.size, 0, none⟩ = some (.slice B0 t0.length d0) ∧ w'.cell? ⟨w.heap.size + 1, 0, none⟩ = some (.slice B1 t1.length d1) ∧ w'.cell? ⟨w.heap.size + 1 + 1, 0, none⟩ = some (.slice B2 t2.length d2))
            (first
              | exact HS3.out _ (Ex.refl _)
              | exact HS3.out _ hb4
              | exact HS3.out _ hb5)
            (first
              | (go_at_call 148; refine (groupTarget_any B1 t1.length d1 W3.drew (by omega)).mono ?_; rintro e W4 ⟨A4, c4, rfl, hb4', hm4, _⟩; have hb4 : Ex W3.drew W4 := hb4')
              | (go_at_call 147; refine (HK.out W4 A4 c4 _ (HE3d.out.trans hb4) hm4).mono ?_; rintro e W5 ⟨rfl, hb5'⟩; have hb5 := hb4.trans hb5'))
          have he5 := (Ex.refl W3).drew.trans hb5
          have HE5 := Lib.hid (HE3.out.trans he5)
          have HB0 := Lib.hid (HB0.out.ex he5)
          have HB2 := Lib.hid (HB2.out.ex he5)
          have HB3 := Lib.hid (HB3.out.ex he5)
          have HB4 := Lib.hid (HB4.out.ex he5)
          clear he5 hb5 hb5' hb4 hb4' hm4 HS3 HE3d HB1 HE3
          have k0 := HB0.out.cell 0
          have k3 := HB3.out.cell 0
          go_wp2_with fail
          have hpos : 0 < t2.length := by rw [HLEN.out]; exact HGR.out.n1
          have hpos3 : 0 < t3.length := by rw [HF.out.len]; exact HF.out.g.n1
          obtain ⟨bx, ox, rfl, hbx, hcx⟩ := HX.out.ints.at_ hpos
          obtain ⟨by_, oy, rfl, hby, hcy⟩ := HY.out.ints.at_ hpos3
          have hcx' : ∀ k, k < t2.length → w.cell? ⟨bx, ox + k, none⟩ = some (.int .i64 (nth t2 k)) := fun k hk => by
            obtain ⟨b', o', e', _, hc'⟩ := HX.out.ints.at_ hk
            cases e'
            exact hc'
          have hcy' : ∀ k, k < t3.length → w.cell? ⟨by_, oy + k, none⟩ = some (.int .i64 (nth t3 k)) := fun k hk => by
            obtain ⟨b', o', e', _, hc'⟩ := HY.out.ints.at_ hk
            cases e'
            exact hc'
          refine (moduleWith_any B0 t0.length d0 (M : Int) 149 _ (fun x => nth t3 (im t2 x)) W5 (by omega) (enters_of Tryd.func149 (by kernel_rfl) rfl) (fun W' hW' x hx => ?_)).mono ?_
          · have hEW := HE5.out.trans hW'
            have hzw := hEW.size
            have hx1 : x < t2.length := by rw [HLEN.out]; exact hx
            have hr := HIR.out x hx1
            have hl3 := HF.out.len
            have hl2 := HLEN.out
            have hq3 : im t2 x < t3.length := by rw [hl3]; simp only [im]; omega
            exact restrictUnit_ex x (im t2 x) (nth t3 (im t2 x)) bx ox t2.length d2 by_ oy t3.length d3 _ _ W' ((HB3.out.ex hW').cell 1) ((HB2.out.ex hW').cell 0) hx1 hq3
              ((hEW.below.cell (p := ⟨bx, ox + x, none⟩) hbx).trans (by rw [hcx' x hx1]; simp [im, Int.toNat_of_nonneg hr.1])) ((hEW.below.cell (p := ⟨by_, oy + im t2 x, none⟩) hby).trans (hcy' _ hq3))
              (by omega) (by omega)
          rintro e W6 ⟨A2, n2, rfl, he6, ho6⟩
          have HB4' := Lib.hid (HB4.out.ex he6)
          have HO6 := Lib.hid ho6
          have c4 := HB4'.out.cell 0
          have c4' := HB4'.out.cell 1
          have f4 := HB4'.out.free 0
          have f4' := HB4'.out.free 1
          have hzl := HB4.out.lt
          clear ho6 hcx hcx' hcy hcy'
          go_wp2_with fail
          have H4 := HB4'.out.put2 (u := .int .i64 (M : Int)) (v := .slice A2 t0.length n2)
          have c4 := H4.cell 0
          have c4' := H4.cell 1
          refine bodyPost_ret (v := .tuple #[.agg #[.int .i64 (M : Int), .slice A2 t0.length n2], .int .i64 0]) (by simp [results, Tryd.results95, go_sem, c4, c4']) rfl ⟨A2, n2, by rw [HQ.out.1, HQ.out.2.1, HQ.out.2.2]; simp [HLEN.out], ((HE5.out.trans he6).setCell (by show w.heap.size ≤ w.heap.size + 1 + 1 + 1 + 1; omega) _).setCell (by show w.heap.size ≤ w.heap.size + 1 + 1 + 1 + 1; omega) _, ?_⟩
          rw [HQ.out.2.1, HLEN.out]
          exact ((HO6.out.above (Only.set _ _ _ _) hzl).above (Only.set _ _ _ _) hzl).mono HE5.out.size (by simp) (Nat.le_refl _)

end Go.Proofs.YtalejhbdbclfaaaDoor
