/- l03Pull: the specification's module and cochain that are pulled back. -/
import Derived.IntWalk
import Derived.Deep.RegionHeld3
import Derived.Deep.DeepCutAuto
import Derived.Test.YtfnjpbjlikajbaaGreatDoorUi
import Derived.Test.YtfnjpbjlikajbaaGreatDoorUf
import Derived.Test.YtfnjpbjlikajbaaGreatDoorTwo
namespace Go.Proofs.YtfnjpbjlikajbaaGreatDoor
open Go.RowKit

theorem GrowI.ofEmpty {w : World} {lo p : Nat} (h : Has w p 2 #[]) (hl : lo ≤ p) : GrowI w lo (.slice (some ⟨p, 0, none⟩) 0 0) 0 [] := ⟨⟨by simp, .inr ⟨p, 0, #[], rfl, hl, h, Nat.le_refl _, Nat.zero_le _, by simp, by simp⟩⟩, rfl⟩
theorem upL_pb (V : Nat → Int) (N d k : Nat) : upL (lsL N d k) (fun p => V (dN N d k p)) d = pbL V N d k := by
  have h := upL_all (lsL N d k) (fun p => V (dN N d k p))
  rw [lsL_len] at h
  exact h

set_option maxRecDepth 100000 in
set_option maxHeartbeats 8000000 in
theorem l03Pull_any (A U L A' F : Option Addr) (N K d : Nat) (m : Int) (us xs fs : List Int) (c0 c1 c2 c3 c4 : Nat) (w : World)
    (hU : IntsW w U us) (hX : IntsW w L xs) (hF : IntsW w F fs) (hN8 : N ≤ 8) (hN1 : 1 ≤ N) (hK8 : K ≤ 8) (hK1 : 1 ≤ K) (hul : us.length = K) (hxl : xs.length = N) (hxr : InR K xs) (hd : d ≤ 3) (hfl : fs.length = cellsN K d) :
    Calls Tryz.prog 36 #[.agg #[.slice A N c0], .agg #[.int .i64 m, .slice U us.length c1], .slice L xs.length c2, .agg #[.slice A' K c3], .agg #[.int .i64 (d : Int), .slice F fs.length c4]] w fun e w' => ∃ A0 n0 A1 n1, e = .returned (.tuple #[.agg #[.int .i64 m, .slice A0 N n0], .agg #[.int .i64 (d : Int), .slice A1 (cellsN N d) n1]]) ∧ Ex w w' ∧ OwnL w' w.heap.size w'.heap.size A0 ((List.range N).map fun i => nth us (im xs i)) ∧ OwnL w' w.heap.size w'.heap.size A1 (pbY (fun x => nth xs x) fs N K d) := by
  obtain ⟨i0, hi, hi0, hi1, hi2⟩ := info_parts infoI
  have e0 : Ex w ((((((w.alloc (.cells #[.slice A N c0] 36)).alloc (.cells #[.int .i64 m, .slice U us.length c1] 38)).alloc (.cells #[.slice A' K c3] 36)).alloc (.cells #[.int .i64 (d : Int), .slice F fs.length c4] 33)).alloc (.cells #[.int .i64 0, .slice none 0 0] 38)).alloc (.cells #[.int .i64 0, .slice none 0 0] 33)) := ((((((Ex.refl w).alloc _).alloc _).alloc _).alloc _).alloc _).alloc _
  have b0 : Has ((((((w.alloc (.cells #[.slice A N c0] 36)).alloc (.cells #[.int .i64 m, .slice U us.length c1] 38)).alloc (.cells #[.slice A' K c3] 36)).alloc (.cells #[.int .i64 (d : Int), .slice F fs.length c4] 33)).alloc (.cells #[.int .i64 0, .slice none 0 0] 38)).alloc (.cells #[.int .i64 0, .slice none 0 0] 33)) (w.heap.size) 36 #[.slice A N c0] := ((((((Has.newAt (w := w) (e := 36) (cs := #[.slice A N c0]) (k := w.heap.size) (by simp)).alloc _).alloc _).alloc _).alloc _).alloc _)
  have b1 : Has ((((((w.alloc (.cells #[.slice A N c0] 36)).alloc (.cells #[.int .i64 m, .slice U us.length c1] 38)).alloc (.cells #[.slice A' K c3] 36)).alloc (.cells #[.int .i64 (d : Int), .slice F fs.length c4] 33)).alloc (.cells #[.int .i64 0, .slice none 0 0] 38)).alloc (.cells #[.int .i64 0, .slice none 0 0] 33)) (w.heap.size + 1) 38 #[.int .i64 m, .slice U us.length c1] := (((((Has.newAt (w := (w.alloc (.cells #[.slice A N c0] 36))) (e := 38) (cs := #[.int .i64 m, .slice U us.length c1]) (k := w.heap.size + 1) (by simp)).alloc _).alloc _).alloc _).alloc _)
  have b2 : Has ((((((w.alloc (.cells #[.slice A N c0] 36)).alloc (.cells #[.int .i64 m, .slice U us.length c1] 38)).alloc (.cells #[.slice A' K c3] 36)).alloc (.cells #[.int .i64 (d : Int), .slice F fs.length c4] 33)).alloc (.cells #[.int .i64 0, .slice none 0 0] 38)).alloc (.cells #[.int .i64 0, .slice none 0 0] 33)) (w.heap.size + 1 + 1) 36 #[.slice A' K c3] := ((((Has.newAt (w := ((w.alloc (.cells #[.slice A N c0] 36)).alloc (.cells #[.int .i64 m, .slice U us.length c1] 38))) (e := 36) (cs := #[.slice A' K c3]) (k := w.heap.size + 1 + 1) (by simp)).alloc _).alloc _).alloc _)
  have b3 : Has ((((((w.alloc (.cells #[.slice A N c0] 36)).alloc (.cells #[.int .i64 m, .slice U us.length c1] 38)).alloc (.cells #[.slice A' K c3] 36)).alloc (.cells #[.int .i64 (d : Int), .slice F fs.length c4] 33)).alloc (.cells #[.int .i64 0, .slice none 0 0] 38)).alloc (.cells #[.int .i64 0, .slice none 0 0] 33)) (w.heap.size + 1 + 1 + 1) 33 #[.int .i64 (d : Int), .slice F fs.length c4] := (((Has.newAt (w := (((w.alloc (.cells #[.slice A N c0] 36)).alloc (.cells #[.int .i64 m, .slice U us.length c1] 38)).alloc (.cells #[.slice A' K c3] 36))) (e := 33) (cs := #[.int .i64 (d : Int), .slice F fs.length c4]) (k := w.heap.size + 1 + 1 + 1) (by simp)).alloc _).alloc _)
  have b4 : Has ((((((w.alloc (.cells #[.slice A N c0] 36)).alloc (.cells #[.int .i64 m, .slice U us.length c1] 38)).alloc (.cells #[.slice A' K c3] 36)).alloc (.cells #[.int .i64 (d : Int), .slice F fs.length c4] 33)).alloc (.cells #[.int .i64 0, .slice none 0 0] 38)).alloc (.cells #[.int .i64 0, .slice none 0 0] 33)) (w.heap.size + 1 + 1 + 1 + 1) 38 #[.int .i64 0, .slice none 0 0] := ((Has.newAt (w := ((((w.alloc (.cells #[.slice A N c0] 36)).alloc (.cells #[.int .i64 m, .slice U us.length c1] 38)).alloc (.cells #[.slice A' K c3] 36)).alloc (.cells #[.int .i64 (d : Int), .slice F fs.length c4] 33))) (e := 38) (cs := #[.int .i64 0, .slice none 0 0]) (k := w.heap.size + 1 + 1 + 1 + 1) (by simp)).alloc _)
  have b5 : Has ((((((w.alloc (.cells #[.slice A N c0] 36)).alloc (.cells #[.int .i64 m, .slice U us.length c1] 38)).alloc (.cells #[.slice A' K c3] 36)).alloc (.cells #[.int .i64 (d : Int), .slice F fs.length c4] 33)).alloc (.cells #[.int .i64 0, .slice none 0 0] 38)).alloc (.cells #[.int .i64 0, .slice none 0 0] 33)) (w.heap.size + 1 + 1 + 1 + 1 + 1) 33 #[.int .i64 0, .slice none 0 0] := (Has.newAt (w := (((((w.alloc (.cells #[.slice A N c0] 36)).alloc (.cells #[.int .i64 m, .slice U us.length c1] 38)).alloc (.cells #[.slice A' K c3] 36)).alloc (.cells #[.int .i64 (d : Int), .slice F fs.length c4] 33)).alloc (.cells #[.int .i64 0, .slice none 0 0] 38))) (e := 33) (cs := #[.int .i64 0, .slice none 0 0]) (k := w.heap.size + 1 + 1 + 1 + 1 + 1) (by simp))
  have HE0 := Lib.hid e0
  have HB0 := Lib.hid b0
  have HB1 := Lib.hid b1
  have HB2 := Lib.hid b2
  have HB3 := Lib.hid b3
  have HB4 := Lib.hid b4
  have HB5 := Lib.hid b5
  have HCC := Lib.hid (fun W => l03Cells_any A N c0 d W hN8 hN1 (by omega))
  have hc24 := cellsN_le hN8 (show d ≤ 4 by omega)
  have HDN := Lib.hid (fun k (h : k < cellsN N d) => cells_posU h)
  have HU := Lib.hid hU
  have HX := Lib.hid hX
  have HF := Lib.hid hF
  have HXR := Lib.hid hxr
  have HFL := Lib.hid hfl
  have HUL := Lib.hid hul
  have HXL := Lib.hid hxl
  obtain ⟨cn, hcn⟩ : ∃ cn, cellsN N d = cn := ⟨_, rfl⟩
  rw [hcn] at HCC hc24 HDN ⊢
  have HCN := Lib.hid hcn
  clear hU hX hF hul hxl hxr hfl hcn e0 b0 b1 b2 b3 b4 b5
  go_enter Tryz.func36, Tryz.ntmps36
  go_upto_region 1 with (fail)
  generalize ((((((w.alloc (.cells #[.slice A N c0] 36)).alloc (.cells #[.int .i64 m, .slice U us.length c1] 38)).alloc (.cells #[.slice A' K c3] 36)).alloc (.cells #[.int .i64 (d : Int), .slice F fs.length c4] 33)).alloc (.cells #[.int .i64 0, .slice none 0 0] 38)).alloc (.cells #[.int .i64 0, .slice none 0 0] 33)) = W0 at *
  have HK := Lib.hid (fun (W' : World) (hb : Ex W0 W') => And.intro ((HB1.out.ex hb).cell 0) ((HB3.out.ex hb).cell 0))
  go_cut [12, 13] (fun s12 s13 wx => ∃ (D E : Nat) (v v' : Value), s12 = .pointer (some ⟨D, 0, none⟩) ∧ s13 = .pointer (some ⟨E, 0, none⟩) ∧ Ex W0 wx ∧ W0.heap.size ≤ D ∧ W0.heap.size ≤ E ∧ Has wx D 38 #[.int .i64 m, v] ∧ Has wx E 33 #[.int .i64 (d : Int), v'] ∧ GrowI wx W0.heap.size v 0 [] ∧ GrowI wx W0.heap.size v' 0 [] ∧ v.ownBlock ≠ v'.ownBlock)
  case first =>
    have HMF := HK.out W0 (Ex.refl W0)
    refine Late.region (C := fun w' => w'.cell? ⟨w.heap.size + 1, 0, none⟩ = some (.int .i64 m) ∧ w'.cell? ⟨w.heap.size + 1 + 1 + 1, 0, none⟩ = some (.int .i64 (d : Int))) (fun _ => true) (by kernel_rfl) HMF (fun hC => ?_)
    refine Late.take (i := 0) (oi := _) (v := ?_) rfl (by kernel_rfl) (by kernel_rfl) (by kernel_rfl) (by kernel_rfl) (fun _ _ _ h => h) (Or.inl ⟨by rfl, ?_⟩) hC ?_
    rotate_left
    · (intro w hSw; (try dsimp only at hSw); go_simp; first | done | with_reducible rfl)
    simp only [Act.put]
    refine Late.take (i := 1) (oi := _) (v := ?_) rfl (by kernel_rfl) (by kernel_rfl) (by kernel_rfl) (by kernel_rfl) (fun _ _ _ h => h) (Or.inl ⟨by rfl, ?_⟩) hC ?_
    rotate_left
    · (intro w hSw; (try dsimp only at hSw); go_simp; first | done | with_reducible rfl)
    simp only [Act.put]
    refine Late.take (i := 4) (oi := _) (v := ?_) rfl (by kernel_rfl) (by kernel_rfl) (by kernel_rfl) (by kernel_rfl) (fun _ _ _ h => h) (Or.inl ⟨by rfl, ?_⟩) hC ?_
    rotate_left
    · (intro w hSw; (try dsimp only at hSw); go_simp; first | done | with_reducible rfl)
    simp only [Act.put]
    refine Late.take (i := 5) (oi := _) (v := ?_) rfl (by kernel_rfl) (by kernel_rfl) (by kernel_rfl) (by kernel_rfl) (fun _ _ _ h => h) (Or.inl ⟨by rfl, ?_⟩) hC ?_
    rotate_left
    · (intro w hSw; (try dsimp only at hSw); go_simp; first | done | with_reducible rfl)
    simp only [Act.put]
    clear hC HMF
    refine late_start (SS := fun (a0 : Act) (ds : Array Bool) (a : Act) (w' : World) => ∃ s12 s13 s20 s21 s24 s25 : Value, a = (((((a0.put (some 12) s12).put (some 13) s13).put (some 20) s20).put (some 21) s21).put (some 24) s24).put (some 25) s25 ∧ (ds.getD 0 true = true ∧ ds.getD 1 true = true ∧ ds.getD 4 true = true ∧ ds.getD 5 true = true) ∧ Ex W0 w' ∧ (ds.getD 2 true = true → ∃ p, s20 = .slice (some ⟨p, 0, none⟩) 0 0 ∧ W0.heap.size ≤ p ∧ Has w' p 2 #[]) ∧ (ds.getD 6 true = true → ∃ p, s24 = .slice (some ⟨p, 0, none⟩) 0 0 ∧ W0.heap.size ≤ p ∧ Has w' p 2 #[]) ∧ (ds.getD 2 true = true → ds.getD 6 true = true → s20.ownBlock ≠ s24.ownBlock) ∧ (ds.getD 3 true = true → ds.getD 2 true = true ∧ s21 = .agg #[.int .i64 m, s20]) ∧ (ds.getD 7 true = true → ds.getD 6 true = true ∧ s25 = .agg #[.int .i64 (d : Int), s24]) ∧ (ds.getD 10 true = true → ds.getD 3 true = true ∧ ds.getD 8 true = true) ∧ (ds.getD 11 true = true → ds.getD 7 true = true ∧ ds.getD 9 true = true) ∧ (ds.getD 8 true = true → ∃ D x y, s12 = .pointer (some ⟨D, 0, none⟩) ∧ W0.heap.size ≤ D ∧ Has w' D 38 #[x, y] ∧ (ds.getD 10 true = true → x = .int .i64 m ∧ y = s20)) ∧ (ds.getD 9 true = true → ∃ D x y, s13 = .pointer (some ⟨D, 0, none⟩) ∧ W0.heap.size ≤ D ∧ Has w' D 33 #[x, y] ∧ (ds.getD 11 true = true → x = .int .i64 (d : Int) ∧ y = s24))) (by kernel_rfl) ?h0 (by rfl) (by decide) ?hC ?hend ?hstep
    case h0 => exact ⟨undef, undef, undef, undef, undef, undef, by go_simp, ⟨by decide, by decide, by decide, by decide⟩, (Ex.refl W0).drew, fun hb => absurd hb (by decide), fun hb => absurd hb (by decide), fun hb => absurd hb (by decide), fun hb => absurd hb (by decide), fun hb => absurd hb (by decide), fun hb => absurd hb (by decide), fun hb => absurd hb (by decide), fun hb => absurd hb (by decide), fun hb => absurd hb (by decide)⟩
    case hC =>
      rintro ds a w' ⟨_, _, _, _, _, _, _, _, hE, _⟩
      exact HK.out w' hE
    case hend =>
      rintro ds a w' ⟨s12, s13, s20, s21, s24, s25, rfl, _, hE, h2, h6, h26, _, _, _, _, h8, h9⟩ hall
      have H26 := Lib.hid (h26 (hall 2 (by decide)) (hall 6 (by decide)))
      obtain ⟨p, rfl, hp, h2⟩ := h2 (hall 2 (by decide))
      obtain ⟨q, rfl, hq, h6⟩ := h6 (hall 6 (by decide))
      obtain ⟨D, x, y, rfl, hD, h8, hx⟩ := h8 (hall 8 (by decide))
      obtain ⟨rfl, rfl⟩ := hx (hall 10 (by decide))
      obtain ⟨E, x, y, rfl, hE9, h9, hx⟩ := h9 (hall 9 (by decide))
      obtain ⟨rfl, rfl⟩ := hx (hall 11 (by decide))
      have HEE := Lib.hid hE
      have HG2 := Lib.hid (GrowI.ofEmpty h2 hp)
      have HG6 := Lib.hid (GrowI.ofEmpty h6 hq)
      have H8 := Lib.hid h8
      have H9 := Lib.hid h9
      clear hall h2 h6 h8 h9 hE
      try simp only [Act.put]
      go_wp2_with fail
      go_meet
      exact ⟨D, E, _, _, rfl, rfl, HEE.out, hD, hE9, H8.out, H9.out, HG2.out, HG6.out, H26.out⟩
    case hstep =>
      rintro ds a w' ⟨s12, s13, s20, s21, s24, s25, rfl, hd, hE, h2, h6, h26, h3, h7, h10, h11, h8, h9⟩ j oj hoj hu hall
      have hj12 : j < 12 := (Array.getElem?_eq_some_iff.1 hoj).1
      rcases (by omega : j = 0 ∨ j = 1 ∨ j = 4 ∨ j = 5 ∨ j = 2 ∨ j = 3 ∨ j = 6 ∨ j = 7 ∨ j = 8 ∨ j = 9 ∨ j = 10 ∨ j = 11) with rfl | rfl | rfl | rfl | rfl | rfl | rfl | rfl | rfl | rfl | rfl | rfl
      · rw [hd.1] at hu; cases hu
      · rw [hd.2.1] at hu; cases hu
      · rw [hd.2.2.1] at hu; cases hu
      · rw [hd.2.2.2] at hu; cases hu
      · obtain rfl := Option.some.inj hoj
        clear hall
        refine wpOp_step rfl fun K' hK' => ?_
        have hK := Lib.hid hK'
        clear hK'
        rw [if_pos (by rfl)]
        try simp only [Act.put]
        go_simp
        refine hK.out _ _ ⟨s12, s13, _, s21, s24, s25, by go_simp, ⟨by rw [bt_set, hd.1]; rfl, by rw [bt_set, hd.2.1]; rfl, by rw [bt_set, hd.2.2.1]; rfl, by rw [bt_set, hd.2.2.2]; rfl⟩, hE.alloc _, fun _ => ⟨w'.heap.size, rfl, hE.size, Has.new _ _ _⟩, fun hb => let ⟨p, e, l, h⟩ := h6 (bt_old hb (by decide : 6 ≠ 2)); ⟨p, e, l, h.alloc _⟩, fun _ hb => by obtain ⟨p, e, _, h⟩ := h6 (bt_old hb (by decide)); rw [e]; intro e'; have := h.lt; simp [Value.ownBlock] at e'; omega, fun hb => absurd (h3 (bt_old hb (by decide : 3 ≠ 2))).1 (by rw [hu]; decide), fun hb => ⟨by rw [bt_set, (h7 (bt_old hb (by decide : 7 ≠ 2))).1]; rfl, (h7 (bt_old hb (by decide : 7 ≠ 2))).2⟩, fun hb => ⟨by rw [bt_set, (h10 (bt_old hb (by decide : 10 ≠ 2))).1]; rfl, by rw [bt_set, (h10 (bt_old hb (by decide : 10 ≠ 2))).2]; rfl⟩, fun hb => ⟨by rw [bt_set, (h11 (bt_old hb (by decide : 11 ≠ 2))).1]; rfl, by rw [bt_set, (h11 (bt_old hb (by decide : 11 ≠ 2))).2]; rfl⟩, fun hb => let ⟨D, x, y, e, l, h, _⟩ := h8 (bt_old hb (by decide : 8 ≠ 2)); ⟨D, x, y, e, l, h.alloc _, fun hb => absurd (h3 (h10 (bt_old hb (by decide : 10 ≠ 2))).1).1 (by rw [hu]; decide)⟩, fun hb => let ⟨D, x, y, e, l, h, hq⟩ := h9 (bt_old hb (by decide : 9 ≠ 2)); ⟨D, x, y, e, l, h.alloc _, fun hb => hq (bt_old hb (by decide : 11 ≠ 2))⟩⟩
      · obtain rfl := Option.some.inj hoj
        have hall2 := hall ⟨2, .data⟩ (by simp) rfl
        clear hall
        obtain ⟨pp, rfl, hpp, hPP⟩ := h2 hall2
        refine wpOp_step rfl fun K' hK' => ?_
        have hK := Lib.hid hK'
        clear hK'
        rw [if_pos (by rfl)]
        try simp only [Act.put]
        go_simp
        refine hK.out _ _ ⟨s12, s13, _, _, s24, s25, by go_simp, ⟨by rw [bt_set, hd.1]; rfl, by rw [bt_set, hd.2.1]; rfl, by rw [bt_set, hd.2.2.1]; rfl, by rw [bt_set, hd.2.2.2]; rfl⟩, hE, fun hb => let ⟨p, e, l, h⟩ := h2 (bt_old hb (by decide : 2 ≠ 3)); ⟨p, e, l, h⟩, fun hb => let ⟨p, e, l, h⟩ := h6 (bt_old hb (by decide : 6 ≠ 3)); ⟨p, e, l, h⟩, fun hb hb' => h26 (bt_old hb (by decide : 2 ≠ 3)) (bt_old hb' (by decide)), fun _ => ⟨by rw [bt_set, hall2]; rfl, rfl⟩, fun hb => ⟨by rw [bt_set, (h7 (bt_old hb (by decide : 7 ≠ 3))).1]; rfl, (h7 (bt_old hb (by decide : 7 ≠ 3))).2⟩, fun hb => ⟨by rw [bt_set, (h10 (bt_old hb (by decide : 10 ≠ 3))).1]; rfl, by rw [bt_set, (h10 (bt_old hb (by decide : 10 ≠ 3))).2]; rfl⟩, fun hb => ⟨by rw [bt_set, (h11 (bt_old hb (by decide : 11 ≠ 3))).1]; rfl, by rw [bt_set, (h11 (bt_old hb (by decide : 11 ≠ 3))).2]; rfl⟩, fun hb => let ⟨D, x, y, e, l, h, hq⟩ := h8 (bt_old hb (by decide : 8 ≠ 3)); ⟨D, x, y, e, l, h, fun hb => hq (bt_old hb (by decide : 10 ≠ 3))⟩, fun hb => let ⟨D, x, y, e, l, h, hq⟩ := h9 (bt_old hb (by decide : 9 ≠ 3)); ⟨D, x, y, e, l, h, fun hb => hq (bt_old hb (by decide : 11 ≠ 3))⟩⟩
      · obtain rfl := Option.some.inj hoj
        clear hall
        refine wpOp_step rfl fun K' hK' => ?_
        have hK := Lib.hid hK'
        clear hK'
        rw [if_pos (by rfl)]
        try simp only [Act.put]
        go_simp
        refine hK.out _ _ ⟨s12, s13, s20, s21, _, s25, by go_simp, ⟨by rw [bt_set, hd.1]; rfl, by rw [bt_set, hd.2.1]; rfl, by rw [bt_set, hd.2.2.1]; rfl, by rw [bt_set, hd.2.2.2]; rfl⟩, hE.alloc _, fun hb => let ⟨p, e, l, h⟩ := h2 (bt_old hb (by decide : 2 ≠ 6)); ⟨p, e, l, h.alloc _⟩, fun _ => ⟨w'.heap.size, rfl, hE.size, Has.new _ _ _⟩, fun hb _ => by obtain ⟨p, e, _, h⟩ := h2 (bt_old hb (by decide)); rw [e]; intro e'; have := h.lt; simp [Value.ownBlock] at e'; omega, fun hb => ⟨by rw [bt_set, (h3 (bt_old hb (by decide : 3 ≠ 6))).1]; rfl, (h3 (bt_old hb (by decide : 3 ≠ 6))).2⟩, fun hb => absurd (h7 (bt_old hb (by decide : 7 ≠ 6))).1 (by rw [hu]; decide), fun hb => ⟨by rw [bt_set, (h10 (bt_old hb (by decide : 10 ≠ 6))).1]; rfl, by rw [bt_set, (h10 (bt_old hb (by decide : 10 ≠ 6))).2]; rfl⟩, fun hb => ⟨by rw [bt_set, (h11 (bt_old hb (by decide : 11 ≠ 6))).1]; rfl, by rw [bt_set, (h11 (bt_old hb (by decide : 11 ≠ 6))).2]; rfl⟩, fun hb => let ⟨D, x, y, e, l, h, hq⟩ := h8 (bt_old hb (by decide : 8 ≠ 6)); ⟨D, x, y, e, l, h.alloc _, fun hb => hq (bt_old hb (by decide : 10 ≠ 6))⟩, fun hb => let ⟨D, x, y, e, l, h, _⟩ := h9 (bt_old hb (by decide : 9 ≠ 6)); ⟨D, x, y, e, l, h.alloc _, fun hb => absurd (h7 (h11 (bt_old hb (by decide : 11 ≠ 6))).1).1 (by rw [hu]; decide)⟩⟩
      · obtain rfl := Option.some.inj hoj
        have hall2 := hall ⟨6, .data⟩ (by simp) rfl
        clear hall
        obtain ⟨pp, rfl, hpp, hPP⟩ := h6 hall2
        refine wpOp_step rfl fun K' hK' => ?_
        have hK := Lib.hid hK'
        clear hK'
        rw [if_pos (by rfl)]
        try simp only [Act.put]
        go_simp
        refine hK.out _ _ ⟨s12, s13, s20, s21, _, _, by go_simp, ⟨by rw [bt_set, hd.1]; rfl, by rw [bt_set, hd.2.1]; rfl, by rw [bt_set, hd.2.2.1]; rfl, by rw [bt_set, hd.2.2.2]; rfl⟩, hE, fun hb => let ⟨p, e, l, h⟩ := h2 (bt_old hb (by decide : 2 ≠ 7)); ⟨p, e, l, h⟩, fun hb => let ⟨p, e, l, h⟩ := h6 (bt_old hb (by decide : 6 ≠ 7)); ⟨p, e, l, h⟩, fun hb hb' => h26 (bt_old hb (by decide : 2 ≠ 7)) (bt_old hb' (by decide)), fun hb => ⟨by rw [bt_set, (h3 (bt_old hb (by decide : 3 ≠ 7))).1]; rfl, (h3 (bt_old hb (by decide : 3 ≠ 7))).2⟩, fun _ => ⟨by rw [bt_set, hall2]; rfl, rfl⟩, fun hb => ⟨by rw [bt_set, (h10 (bt_old hb (by decide : 10 ≠ 7))).1]; rfl, by rw [bt_set, (h10 (bt_old hb (by decide : 10 ≠ 7))).2]; rfl⟩, fun hb => ⟨by rw [bt_set, (h11 (bt_old hb (by decide : 11 ≠ 7))).1]; rfl, by rw [bt_set, (h11 (bt_old hb (by decide : 11 ≠ 7))).2]; rfl⟩, fun hb => let ⟨D, x, y, e, l, h, hq⟩ := h8 (bt_old hb (by decide : 8 ≠ 7)); ⟨D, x, y, e, l, h, fun hb => hq (bt_old hb (by decide : 10 ≠ 7))⟩, fun hb => let ⟨D, x, y, e, l, h, hq⟩ := h9 (bt_old hb (by decide : 9 ≠ 7)); ⟨D, x, y, e, l, h, fun hb => hq (bt_old hb (by decide : 11 ≠ 7))⟩⟩
      · obtain rfl := Option.some.inj hoj
        clear hall
        refine wpOp_step rfl fun K' hK' => ?_
        have hK := Lib.hid hK'
        clear hK'
        rw [if_pos (by rfl)]
        try simp only [Act.put]
        go_simp
        refine hK.out _ _ ⟨_, s13, s20, s21, s24, s25, by go_simp, ⟨by rw [bt_set, hd.1]; rfl, by rw [bt_set, hd.2.1]; rfl, by rw [bt_set, hd.2.2.1]; rfl, by rw [bt_set, hd.2.2.2]; rfl⟩, hE.alloc _, fun hb => let ⟨p, e, l, h⟩ := h2 (bt_old hb (by decide : 2 ≠ 8)); ⟨p, e, l, h.alloc _⟩, fun hb => let ⟨p, e, l, h⟩ := h6 (bt_old hb (by decide : 6 ≠ 8)); ⟨p, e, l, h.alloc _⟩, fun hb hb' => h26 (bt_old hb (by decide : 2 ≠ 8)) (bt_old hb' (by decide)), fun hb => ⟨by rw [bt_set, (h3 (bt_old hb (by decide : 3 ≠ 8))).1]; rfl, (h3 (bt_old hb (by decide : 3 ≠ 8))).2⟩, fun hb => ⟨by rw [bt_set, (h7 (bt_old hb (by decide : 7 ≠ 8))).1]; rfl, (h7 (bt_old hb (by decide : 7 ≠ 8))).2⟩, fun hb => ⟨by rw [bt_set, (h10 (bt_old hb (by decide : 10 ≠ 8))).1]; rfl, by rw [bt_set, (h10 (bt_old hb (by decide : 10 ≠ 8))).2]; rfl⟩, fun hb => ⟨by rw [bt_set, (h11 (bt_old hb (by decide : 11 ≠ 8))).1]; rfl, by rw [bt_set, (h11 (bt_old hb (by decide : 11 ≠ 8))).2]; rfl⟩, fun _ => ⟨w'.heap.size, _, _, rfl, hE.size, Has.new _ _ _, fun hb => absurd (h10 (bt_old hb (by decide : 10 ≠ 8))).2 (by rw [hu]; decide)⟩, fun hb => let ⟨D, x, y, e, l, h, hq⟩ := h9 (bt_old hb (by decide : 9 ≠ 8)); ⟨D, x, y, e, l, h.alloc _, fun hb => hq (bt_old hb (by decide : 11 ≠ 8))⟩⟩
      · obtain rfl := Option.some.inj hoj
        clear hall
        refine wpOp_step rfl fun K' hK' => ?_
        have hK := Lib.hid hK'
        clear hK'
        rw [if_pos (by rfl)]
        try simp only [Act.put]
        go_simp
        refine hK.out _ _ ⟨s12, _, s20, s21, s24, s25, by go_simp, ⟨by rw [bt_set, hd.1]; rfl, by rw [bt_set, hd.2.1]; rfl, by rw [bt_set, hd.2.2.1]; rfl, by rw [bt_set, hd.2.2.2]; rfl⟩, hE.alloc _, fun hb => let ⟨p, e, l, h⟩ := h2 (bt_old hb (by decide : 2 ≠ 9)); ⟨p, e, l, h.alloc _⟩, fun hb => let ⟨p, e, l, h⟩ := h6 (bt_old hb (by decide : 6 ≠ 9)); ⟨p, e, l, h.alloc _⟩, fun hb hb' => h26 (bt_old hb (by decide : 2 ≠ 9)) (bt_old hb' (by decide)), fun hb => ⟨by rw [bt_set, (h3 (bt_old hb (by decide : 3 ≠ 9))).1]; rfl, (h3 (bt_old hb (by decide : 3 ≠ 9))).2⟩, fun hb => ⟨by rw [bt_set, (h7 (bt_old hb (by decide : 7 ≠ 9))).1]; rfl, (h7 (bt_old hb (by decide : 7 ≠ 9))).2⟩, fun hb => ⟨by rw [bt_set, (h10 (bt_old hb (by decide : 10 ≠ 9))).1]; rfl, by rw [bt_set, (h10 (bt_old hb (by decide : 10 ≠ 9))).2]; rfl⟩, fun hb => ⟨by rw [bt_set, (h11 (bt_old hb (by decide : 11 ≠ 9))).1]; rfl, by rw [bt_set, (h11 (bt_old hb (by decide : 11 ≠ 9))).2]; rfl⟩, fun hb => let ⟨D, x, y, e, l, h, hq⟩ := h8 (bt_old hb (by decide : 8 ≠ 9)); ⟨D, x, y, e, l, h.alloc _, fun hb => hq (bt_old hb (by decide : 10 ≠ 9))⟩, fun _ => ⟨w'.heap.size, _, _, rfl, hE.size, Has.new _ _ _, fun hb => absurd (h11 (bt_old hb (by decide : 11 ≠ 9))).2 (by rw [hu]; decide)⟩⟩
      · obtain rfl := Option.some.inj hoj
        have hb3 := hall ⟨3, .data⟩ (by simp) rfl
        have hb8 := hall ⟨8, .data⟩ (by simp) rfl
        obtain ⟨hb2, rfl⟩ := h3 hb3
        obtain ⟨pp, rfl, hpp, hPP⟩ := h2 hb2
        obtain ⟨DD, x, y, rfl, hDl, hD, -⟩ := h8 hb8
        have hno : ∀ {b : Nat} {cs : Array Value}, Has w' b 2 cs → b ≠ DD := fun h e => by subst e; have h' := h.symm.trans hD; simp at h'
        have hno2 : ∀ {b : Nat} {cs : Array Value}, Has w' b 33 cs → b ≠ DD := fun h e => by subst e; have h' := h.symm.trans hD; simp at h'
        have k0 := hD.cell 0
        have k1 := hD.cell 1
        have f0 := hD.free 0
        have f1 := hD.free 1
        clear hall
        refine wpOp_step rfl fun K' hK' => ?_
        have hK := Lib.hid hK'
        clear hK'
        rw [if_pos (by rfl)]
        try simp only [Act.put]
        go_simp
        refine hK.out _ _ ⟨_, s13, _, _, s24, s25, by go_simp, ⟨by rw [bt_set, hd.1]; rfl, by rw [bt_set, hd.2.1]; rfl, by rw [bt_set, hd.2.2.1]; rfl, by rw [bt_set, hd.2.2.2]; rfl⟩, ((hE.setCell (p := ⟨DD, 0, none⟩) hDl _).setCell (p := ⟨DD, 1, none⟩) hDl _), fun hb => let ⟨p, e, l, h⟩ := h2 (bt_old hb (by decide : 2 ≠ 10)); ⟨p, e, l, (h.far (p := ⟨DD, 0, none⟩) (fun e => hno h e) _).far (p := ⟨DD, 1, none⟩) (fun e => hno h e) _⟩, fun hb => let ⟨p, e, l, h⟩ := h6 (bt_old hb (by decide : 6 ≠ 10)); ⟨p, e, l, (h.far (p := ⟨DD, 0, none⟩) (fun e => hno h e) _).far (p := ⟨DD, 1, none⟩) (fun e => hno h e) _⟩, fun hb hb' => h26 (bt_old hb (by decide : 2 ≠ 10)) (bt_old hb' (by decide)), fun hb => ⟨by rw [bt_set, (h3 (bt_old hb (by decide : 3 ≠ 10))).1]; rfl, (h3 (bt_old hb (by decide : 3 ≠ 10))).2⟩, fun hb => ⟨by rw [bt_set, (h7 (bt_old hb (by decide : 7 ≠ 10))).1]; rfl, (h7 (bt_old hb (by decide : 7 ≠ 10))).2⟩, fun _ => ⟨by rw [bt_set, hb3]; rfl, by rw [bt_set, hb8]; rfl⟩, fun hb => ⟨by rw [bt_set, (h11 (bt_old hb (by decide : 11 ≠ 10))).1]; rfl, by rw [bt_set, (h11 (bt_old hb (by decide : 11 ≠ 10))).2]; rfl⟩, fun _ => ⟨DD, _, _, rfl, hDl, hD.put2, fun _ => ⟨rfl, rfl⟩⟩, fun hb => let ⟨D, x, y, e, l, h, hq⟩ := h9 (bt_old hb (by decide : 9 ≠ 10)); ⟨D, x, y, e, l, (h.far (p := ⟨DD, 0, none⟩) (fun e => hno2 h e) _).far (p := ⟨DD, 1, none⟩) (fun e => hno2 h e) _, fun hb => hq (bt_old hb (by decide : 11 ≠ 10))⟩⟩
      · obtain rfl := Option.some.inj hoj
        have hb3 := hall ⟨7, .data⟩ (by simp) rfl
        have hb8 := hall ⟨9, .data⟩ (by simp) rfl
        obtain ⟨hb2, rfl⟩ := h7 hb3
        obtain ⟨pp, rfl, hpp, hPP⟩ := h6 hb2
        obtain ⟨DD, x, y, rfl, hDl, hD, -⟩ := h9 hb8
        have hno : ∀ {b : Nat} {cs : Array Value}, Has w' b 2 cs → b ≠ DD := fun h e => by subst e; have h' := h.symm.trans hD; simp at h'
        have hno2 : ∀ {b : Nat} {cs : Array Value}, Has w' b 38 cs → b ≠ DD := fun h e => by subst e; have h' := h.symm.trans hD; simp at h'
        have k0 := hD.cell 0
        have k1 := hD.cell 1
        have f0 := hD.free 0
        have f1 := hD.free 1
        clear hall
        refine wpOp_step rfl fun K' hK' => ?_
        have hK := Lib.hid hK'
        clear hK'
        rw [if_pos (by rfl)]
        try simp only [Act.put]
        go_simp
        refine hK.out _ _ ⟨s12, _, s20, s21, _, _, by go_simp, ⟨by rw [bt_set, hd.1]; rfl, by rw [bt_set, hd.2.1]; rfl, by rw [bt_set, hd.2.2.1]; rfl, by rw [bt_set, hd.2.2.2]; rfl⟩, ((hE.setCell (p := ⟨DD, 0, none⟩) hDl _).setCell (p := ⟨DD, 1, none⟩) hDl _), fun hb => let ⟨p, e, l, h⟩ := h2 (bt_old hb (by decide : 2 ≠ 11)); ⟨p, e, l, (h.far (p := ⟨DD, 0, none⟩) (fun e => hno h e) _).far (p := ⟨DD, 1, none⟩) (fun e => hno h e) _⟩, fun hb => let ⟨p, e, l, h⟩ := h6 (bt_old hb (by decide : 6 ≠ 11)); ⟨p, e, l, (h.far (p := ⟨DD, 0, none⟩) (fun e => hno h e) _).far (p := ⟨DD, 1, none⟩) (fun e => hno h e) _⟩, fun hb hb' => h26 (bt_old hb (by decide : 2 ≠ 11)) (bt_old hb' (by decide)), fun hb => ⟨by rw [bt_set, (h3 (bt_old hb (by decide : 3 ≠ 11))).1]; rfl, (h3 (bt_old hb (by decide : 3 ≠ 11))).2⟩, fun hb => ⟨by rw [bt_set, (h7 (bt_old hb (by decide : 7 ≠ 11))).1]; rfl, (h7 (bt_old hb (by decide : 7 ≠ 11))).2⟩, fun hb => ⟨by rw [bt_set, (h10 (bt_old hb (by decide : 10 ≠ 11))).1]; rfl, by rw [bt_set, (h10 (bt_old hb (by decide : 10 ≠ 11))).2]; rfl⟩, fun _ => ⟨by rw [bt_set, hb3]; rfl, by rw [bt_set, hb8]; rfl⟩, fun hb => let ⟨D, x, y, e, l, h, hq⟩ := h8 (bt_old hb (by decide : 8 ≠ 11)); ⟨D, x, y, e, l, (h.far (p := ⟨DD, 0, none⟩) (fun e => hno2 h e) _).far (p := ⟨DD, 1, none⟩) (fun e => hno2 h e) _, fun hb => hq (bt_old hb (by decide : 10 ≠ 11))⟩, fun _ => ⟨DD, _, _, rfl, hDl, hD.put2, fun _ => ⟨rfl, rfl⟩⟩⟩
  obtain ⟨W1, rfl⟩ : ∃ x : World, x = wc := ⟨_, rfl⟩
  obtain ⟨D, E, v0, u0, rfl, rfl, he1, hD, hE, hb1, hb2, hg1, hg2, hap⟩ := hcut
  have HE1 := Lib.hid he1
  have HBO := Lib.hid hb1
  have HBC := Lib.hid hb2
  have HG1 := Lib.hid hg1
  have HG2 := Lib.hid hg2
  have HAP := Lib.hid (show Apart v0 u0 from .inl hap)
  have hDE : E ≠ D := fun e => by
    have h1 : W1.heap[D]? = some (.cells #[.int .i64 m, v0] 38 (0, 0)) := hb1
    have h2 : W1.heap[E]? = some (.cells #[.int .i64 (d : Int), u0] 33 (0, 0)) := hb2
    rw [e, h1] at h2
    simp at h2
  clear HK he1 hb1 hb2 hg1 hg2 hap
  go_wp2_with fail
  go_loopw [14] (fun i wr => ∃ (k : Nat) (v : Value), k ≤ N ∧ i = .int .i64 (k : Int) ∧ Hid (Ex W0 wr) ∧ Hid (Has wr D 38 #[.int .i64 m, v]) ∧ Hid (Has wr E 33 #[.int .i64 (d : Int), u0]) ∧ Hid (GrowI wr W0.heap.size v k ((List.range k).map fun i => nth us (im xs i))) ∧ Hid (GrowI wr W0.heap.size u0 0 []) ∧ Hid (Apart v u0)) (fun i _ => N - (intOf i).toNat)
  case atStart => exact ⟨0, v0, Nat.zero_le _, rfl, HE1, HBO, HBC, HG1, HG2, HAP⟩
  case round =>
    clear HE1 HBO HBC HG1 HG2 HAP
    obtain ⟨k, v, hk, rfl, HE1, HO1, HC1, HG1, HU1, HAP⟩ := hrel
    have cg := (HB0.out.ex HE1.out).cell 0
    go_wp2_with fail
    refine (l01N_ex A N c0 wr (by omega)).mono ?_
    rintro e W2 ⟨rfl, he2⟩
    have HE2 := Lib.hid (HE1.out.trans he2)
    have HO2 := Lib.hid (HO1.out.ex he2)
    have HC2 := Lib.hid (HC1.out.ex he2)
    have HG2 := Lib.hid (HG1.out.ex he2)
    have HU2 := Lib.hid (HU1.out.ex he2)
    clear he2 cg HE1 HO1 HC1 HG1 HU1
    by_cases hlt : k < N
    · obtain ⟨bx, ox, rfl, hbx, hcx⟩ := HX.out.ints.at_ (show k < xs.length by rw [HXL.out]; exact hlt)
      have hri := HXR.out k (by rw [HXL.out]; exact hlt)
      have hxe : nth xs k = (im xs k : Int) := by unfold im; omega
      have HIM : Hid ((List.range (k + 1)).map (fun i => nth us (im xs i)) = (List.range k).map (fun i => nth us (im xs i)) ++ [nth us (im xs k)]) := Lib.hid (by rw [List.range_succ, List.map_append]; rfl)
      rw [hxe] at hcx hri
      obtain ⟨x, hxx⟩ : ∃ x, im xs k = x := ⟨_, rfl⟩
      rw [hxx] at hcx hri HIM
      have hxu : x < us.length := by rw [HUL.out]; omega
      obtain ⟨bu, ou, rfl, hbu, hcu⟩ := HU.out.ints.at_ hxu
      obtain ⟨z, hz⟩ : ∃ z, nth us x = z := ⟨_, rfl⟩
      rw [hz] at hcu HIM
      have hkx0 : (0 : Int) ≤ (k : Int) := by omega
      have hkx : (k : Int) < (xs.length : Int) := by rw [HXL.out]; omega
      have hxz0 : (0 : Int) ≤ (x : Int) := by omega
      have hxzu : (x : Int) < (us.length : Int) := by omega
      have HSK := Lib.hid (fun W (he : Ex W0 W) => And.intro ((HB1.out.ex he).cell 1) (And.intro ((HE0.out.trans he).below.cell (p := ⟨bx, ox + k, none⟩) hbx |>.trans hcx) ((HE0.out.trans he).below.cell (p := ⟨bu, ou + x, none⟩) hbu |>.trans hcu)))
      have hC0 := And.intro (HO2.out.cell 1) (HSK.out W2 HE2.out)
      clear hxe hxx hz hcx hcu
      go_wp2_with fail
      refine Late.region (C := fun w' => w'.cell? ⟨D, 1, none⟩ = some v ∧ w'.cell? ⟨w.heap.size + 1, 1, none⟩ = some (.slice (some ⟨bu, ou, none⟩) us.length c1) ∧ w'.cell? ⟨bx, ox + k, none⟩ = some (.int .i64 (x : Int)) ∧ w'.cell? ⟨bu, ou + x, none⟩ = some (.int .i64 z)) (fun j => decide (j < 12)) (by kernel_rfl) hC0 (fun hC => ?_)
      refine Late.take (i := 0) (oi := _) (v := ?_) rfl (by kernel_rfl) (by kernel_rfl) (by kernel_rfl) (by kernel_rfl) (fun _ _ _ h => h) (Or.inl ⟨by rfl, ?_⟩) hC ?_
      rotate_left
      · (intro w hSw; (try dsimp only at hSw); go_simp; first | done | with_reducible rfl)
      simp only [Act.put]
      refine Late.take (i := 1) (oi := _) (v := ?_) rfl (by kernel_rfl) (by kernel_rfl) (by kernel_rfl) (by kernel_rfl) (fun _ _ _ h => h) (Or.inl ⟨by rfl, ?_⟩) hC ?_
      rotate_left
      · (intro w hSw; (try dsimp only at hSw); go_simp; first | done | with_reducible rfl)
      simp only [Act.put]
      refine Late.take (i := 2) (oi := _) (v := ?_) rfl (by kernel_rfl) (by kernel_rfl) (by kernel_rfl) (by kernel_rfl) (fun _ _ _ h => h) (Or.inl ⟨by rfl, ?_⟩) hC ?_
      rotate_left
      · (intro w hSw; (try dsimp only at hSw); go_simp; first | done | with_reducible rfl)
      simp only [Act.put]
      refine Late.take (i := 3) (oi := _) (v := ?_) rfl (by kernel_rfl) (by kernel_rfl) (by kernel_rfl) (by kernel_rfl) (fun _ _ _ h => h) (Or.inl ⟨by rfl, ?_⟩) hC ?_
      rotate_left
      · (intro w hSw; (try dsimp only at hSw); go_simp; first | done | with_reducible rfl)
      simp only [Act.put]
      refine Late.take (i := 4) (oi := _) (v := ?_) rfl (by kernel_rfl) (by kernel_rfl) (by kernel_rfl) (by kernel_rfl) (fun _ _ _ h => h) (Or.inl ⟨by rfl, ?_⟩) hC ?_
      rotate_left
      · (intro w hSw; (try dsimp only at hSw); go_simp; first | done | with_reducible rfl)
      simp only [Act.put]
      refine Late.take (i := 5) (oi := _) (v := ?_) rfl (by kernel_rfl) (by kernel_rfl) (by kernel_rfl) (by kernel_rfl) (fun _ _ _ h => h) (Or.inl ⟨by rfl, ?_⟩) hC ?_
      rotate_left
      · (intro w hSw; (try dsimp only at hSw); go_simp; first | done | with_reducible rfl)
      simp only [Act.put]
      refine Late.take (i := 6) (oi := _) (v := ?_) rfl (by kernel_rfl) (by kernel_rfl) (by kernel_rfl) (by kernel_rfl) (fun _ _ _ h => h) (Or.inl ⟨by rfl, ?_⟩) hC ?_
      rotate_left
      · (intro w hSw; (try dsimp only at hSw); go_simp; first | done | with_reducible rfl)
      simp only [Act.put]
      refine Late.take (i := 7) (oi := _) (v := ?_) rfl (by kernel_rfl) (by kernel_rfl) (by kernel_rfl) (by kernel_rfl) (fun _ _ _ h => h) (Or.inl ⟨by rfl, ?_⟩) hC ?_
      rotate_left
      · (intro w hSw; (try dsimp only at hSw); go_simp; first | done | with_reducible rfl)
      simp only [Act.put]
      refine Late.take (i := 8) (oi := _) (v := ?_) rfl (by kernel_rfl) (by kernel_rfl) (by kernel_rfl) (by kernel_rfl) (fun _ _ _ h => h) (Or.inl ⟨by rfl, ?_⟩) hC ?_
      rotate_left
      · (intro w hSw; (try dsimp only at hSw); go_simp; first | done | with_reducible rfl)
      simp only [Act.put]
      refine Late.take (i := 9) (oi := _) (v := ?_) rfl (by kernel_rfl) (by kernel_rfl) (by kernel_rfl) (by kernel_rfl) (fun _ _ _ h => h) (Or.inl ⟨by rfl, ?_⟩) hC ?_
      rotate_left
      · (intro w hSw; (try dsimp only at hSw); go_simp; first | done | with_reducible rfl)
      simp only [Act.put]
      clear hC hC0
      have HE := Lib.hid HE2.out.drew
      have HOx := Lib.hid (HO2.out.ex (Ex.refl W2).drew)
      have HCx := Lib.hid (HC2.out.ex (Ex.refl W2).drew)
      have HG := Lib.hid (HG2.out.ex (Ex.refl W2).drew)
      have HU := Lib.hid (HU2.out.ex (Ex.refl W2).drew)
      generalize W2.drew = X at *
      refine Late.one (i := 10) (o := _) (by kernel_rfl) rfl (fun K' hK' => ?_)
      go_simp
      have e1 := HE.out.alloc (.cells #[.int .i64 z] 2)
      have HCx1 := HCx.out.alloc (.cells #[.int .i64 z] 2)
      have HOx1 := HOx.out.alloc (.cells #[.int .i64 z] 2)
      have g1 := HG.out.ex (Ex.new X (.cells #[.int .i64 z] 2))
      have u1 := HU.out.ex (Ex.new X (.cells #[.int .i64 z] 2))
      have hn1 := cell_one_new X (.int .i64 z) 2
      have hz1 : X.heap.size + 1 = (X.alloc (.cells #[.int .i64 z] 2)).heap.size := by simp
      have hx1 := Ex.new X (.cells #[.int .i64 z] 2)
      refine hK'.out _ _ (fun _ => ⟨HOx1.cell 1, HSK.out _ e1⟩) (fun _ => ?_)
      clear hK' K'
      generalize X.alloc (.cells #[.int .i64 z] 2) = w1 at *
      try simp only [Act.put]
      refine Late.one (i := 11) (o := _) (by kernel_rfl) rfl (fun K' hK' => ?_)
      rw [if_pos (by rfl)]
      refine wp_append_where _ _ _ 25 rfl W0.heap.size 2 i0 (.int .i64 0) 1 8 Tryz.underlying25 hi hi0 hi1 hi2 rfl (by decide) _ _ _ rfl g1.1 ⟨X.heap.size, 0, none⟩ 1 1 [.int .i64 z] rfl rfl hn1 (by simp [Value.oneCell']) (by unfold maxLen; omega) (by omega) (by have := e1.size; omega) (by decide) ?_
      intro v' w3 hown3 hgrow3 hwh3
      obtain ⟨gu3, ap3⟩ := HAP.out.grown u1 hwh3 hgrow3
      have HU3 := Lib.hid gu3
      obtain ⟨g3, cap3, rfl⟩ := ownsRow_succ hown3
      have HAP3 := Lib.hid ap3
      have HE3 := Lib.hid (Ex.grew e1 g1 (Nat.le_refl _) hgrow3)
      have HCx3 := Lib.hid (Has.grew HCx1 (by decide) g1 hgrow3)
      have HOx3 := Lib.hid (Has.grew HOx1 (by decide) g1 hgrow3)
      have HG3 := Lib.hid (g1.snoc hown3)
      have c33 := HOx3.out.cell 1
      have f33 := HOx3.out.free 1
      refine hK'.out _ _ (fun _ => ⟨HOx3.out.cell 1, HSK.out _ HE3.out⟩) (fun _ => ?_)
      clear hK' K' hown3 hgrow3 hwh3 gu3 ap3 u1 g1 e1 hn1 hx1 HCx1 HOx1
      try simp only [Act.put]
      refine Late.one (i := 12) (o := _) (by kernel_rfl) rfl (fun K' hK' => ?_)
      go_simp
      refine hK'.out _ _ (fun h => by cases h) (fun _ => ?_)
      clear hK' K'
      try simp only [Act.put]
      refine Late.one (i := 13) (o := _) (by kernel_rfl) rfl (fun K' hK' => ?_)
      go_simp
      refine hK'.out _ _ (fun h => by cases h) (fun _ => ?_)
      clear hK' K'
      try simp only [Act.put]
      refine Late.done (by kernel_rfl) ?_ _
      go_wp2_with fail
      go_roundw
      case rel =>
        have hG9 := HG3.out.set HOx3.out (by decide) 1 (.slice (some ⟨g3, 0, none⟩) (k + 1) cap3)
        rw [← HIM.out] at hG9
        first
          | exact ⟨k + 1, .slice (some ⟨g3, 0, none⟩) (k + 1) cap3, by omega, by go_num, Lib.hid (HE3.out.setCell (p := ⟨D, 1, none⟩) hD _), Lib.hid (by simpa using HOx3.out.put 1 _), Lib.hid (HCx3.out.far (p := ⟨D, 1, none⟩) hDE _), Lib.hid hG9, Lib.hid (HU3.out.set HOx3.out (by decide) 1 _), HAP3⟩
      case measure => simp [intOf]; omega
    · obtain rfl : k = N := by omega
      obtain ⟨U1, nu, ev, hO⟩ := HG2.out.own
      have hln : ((List.range k).map fun i => nth us (im xs i)).length = k := by simp
      rw [hln] at ev
      subst ev
      obtain ⟨ul, hul⟩ : ∃ ul, (List.range k).map (fun i => nth us (im xs i)) = ul := ⟨_, rfl⟩
      have HULL := Lib.hid hul
      rw [hul] at HG2 hO
      have HGU := Lib.hid HG2.out
      have HAU : Hid (Apart u0 (.slice U1 k nu)) := Lib.hid (by
        rcases HAP.out with h | h
        · exact Apart.symm_ h
        · exact .inl fun e => by
            obtain ⟨g, c, e', _⟩ := HG2.out.row hN1
            rw [e', Value.ownBlock, h] at e
            cases e)
      clear hO hln hul HG2 HAP
      go_wp2_with fail
      go_loopw [15] (fun i wr => ∃ (q : Nat) (v : Value), q ≤ cn ∧ i = .int .i64 (q : Int) ∧ Hid (Ex W0 wr) ∧ Hid (Has wr D 38 #[.int .i64 m, .slice U1 k nu]) ∧ Hid (Has wr E 33 #[.int .i64 (d : Int), v]) ∧ Hid (GrowI wr W0.heap.size v q ((List.range q).map fun j => pbV (fun x => nth xs x) fs k K d j)) ∧ Hid (GrowI wr W0.heap.size (.slice U1 k nu) k ul) ∧ Hid (Apart v (.slice U1 k nu))) (fun i _ => cn - (intOf i).toNat)
      case atStart => exact ⟨0, u0, Nat.zero_le _, rfl, HE2, HO2, HC2, HU2, HGU, HAU⟩
      case round =>
        clear HE2 HO2 HC2 HU2 HGU HAU
        obtain ⟨q, v, hq, rfl, HE, HO, HC, HG, HU1, HAP⟩ := hrel
        have cg := (HB0.out.ex HE.out).cell 0
        have cf := (HB3.out.ex HE.out).cell 0
        go_wp2_with fail
        refine (HCC.out _).mono ?_
        rintro e W3 ⟨rfl, he3⟩
        have HE3 := Lib.hid (HE.out.trans he3)
        have HO3 := Lib.hid (HO.out.ex he3)
        have HC3 := Lib.hid (HC.out.ex he3)
        have HG3 := Lib.hid (HG.out.ex he3)
        have HU3 := Lib.hid (HU1.out.ex he3)
        clear he3 cg cf HE HO HC HG HU1
        by_cases hqc : q < cn
        · have cg := (HB0.out.ex HE3.out).cell 0
          have cf := (HB3.out.ex HE3.out).cell 0
          go_wp2_with fail
          refine (l03List_any A k c0 d q W3 hN8 (HDN.out q hqc) hN1 (by omega) (by omega)).mono ?_
          rintro e W4 ⟨L4, n4, rfl, he4, ho4⟩
          rw [lsL_len]
          have HE4 := Lib.hid he4
          have HL4 : Hid (OwnL W4 W3.heap.size W4.heap.size L4 (upL (lsL k d q) (fun p => nth xs (dN k d q p)) 0)) := Lib.hid (by rw [upL_zero]; exact ho4)
          clear he4 ho4 cg cf
          go_wp2_with fail
          go_loopw [17] (fun i wr => ∃ p : Nat, p ≤ d ∧ i = .int .i64 (p : Int) ∧ Hid (Ex W3 wr) ∧ Hid (OwnL wr W3.heap.size W4.heap.size L4 (upL (lsL k d q) (fun p => nth xs (dN k d q p)) p))) (fun i _ => d - (intOf i).toNat)
          case atStart => exact ⟨0, Nat.zero_le _, rfl, HE4, HL4⟩
          case round =>
            obtain ⟨p, hp, rfl, HEq, HLq⟩ := hrel
            have HEw := Lib.hid (HE3.out.trans HEq.out)
            by_cases hpd : p < d
            · have hpl : p < (lsL k d q).length := by rw [lsL_len]; exact hpd
              obtain ⟨bl, ol, rfl, hbl1, hbl2, hcl, hfl⟩ := HLq.out.at_ (j := p) (by rw [upL_len]; exact hpl)
              have HST := Lib.hid (upL_set (xs := lsL k d q) (f := fun p => nth xs (dN k d q p)) hpl)
              have HPT := Lib.hid (fun z => HLq.out.put (j := p) (by rw [upL_len]; exact hpl) z)
              rw [upL_at hpl, if_neg (by omega), nth_lsL hpd] at hcl
              have hx := (dN_in (n := d) (i := q) (p := p) (show 2 ≤ k by have := HDN.out q hqc; omega)).2
              obtain ⟨x, hxe⟩ : ∃ x, dN k d q p = x := ⟨_, rfl⟩
              rw [hxe] at hcl HST hx
              obtain ⟨bx, ox, rfl, hbx, hcx⟩ := HX.out.ints.at_ (show x < xs.length by rw [HXL.out]; exact hx)
              obtain ⟨z, hze⟩ : ∃ z, nth xs x = z := ⟨_, rfl⟩
              rw [hze] at HST hcx
              have hxc := ((HE0.out.trans HEw.out).below.cell (p := ⟨bx, ox + x, none⟩) hbx).trans hcx
              have hp0 : (0 : Int) ≤ (p : Int) := by omega
              have hpn : (p : Int) < (d : Int) := by omega
              have hx0 : (0 : Int) ≤ (x : Int) := by omega
              have hxn : (x : Int) < (xs.length : Int) := by rw [HXL.out]; omega
              clear hxe hze hcx
              go_wp2_with fail
              go_roundw
              case rel =>
                refine ⟨p + 1, by omega, by go_num, Lib.hid (HEq.out.setCell (p := ⟨bl, ol + p, none⟩) hbl1 _), Lib.hid ?_⟩
                rw [← HST.out]
                exact HPT.out z
              case measure => simp [intOf]; omega
            · obtain rfl : d = p := by omega
              have HLM : Hid (OwnL wr W3.heap.size W4.heap.size L4 (pbL (fun x => nth xs x) k d q)) := Lib.hid (by rw [← upL_pb]; exact HLq.out)
              have HOq := Lib.hid (HO3.out.ex HEq.out)
              have HCq := Lib.hid (HC3.out.ex HEq.out)
              have HGq := Lib.hid (HG3.out.ex HEq.out)
              have HUq := Lib.hid (HU3.out.ex HEq.out)
              have HA2 := Lib.hid (HB2.out.ex HEw.out)
              have HA3 := Lib.hid (HB3.out.ex HEw.out)
              have hpr : InR K (pbL (fun x => nth xs x) k d q) := pbL_in (fun x hx => HXR.out x (by rw [HXL.out]; exact hx)) (HDN.out q hqc)
              have HVA := Lib.hid (fun W (he : Ex wr.drew W) => l03At_any A' F L4 d K fs (pbL (fun x => nth xs x) k d q) c3 c4 n4 W (HF.out.ex (HE0.out.trans (HEw.out.drew.trans he))) (HLM.out.ints.ex ((Ex.refl wr).drew.trans he)) hK8 hK1 (by omega) (pbL_len (fun x => nth xs x) k d q) HFL.out hpr)
              rw [pbL_len] at HVA
              have HMV : Hid ((List.range (q + 1)).map (fun j => pbV (fun x => nth xs x) fs k K d j) = (List.range q).map (fun j => pbV (fun x => nth xs x) fs k K d j) ++ [valR K fs (pbL (fun x => nth xs x) k d q)]) := Lib.hid (by rw [List.range_succ, List.map_append]; rfl)
              obtain ⟨z, hze⟩ : ∃ z, valR K fs (pbL (fun x => nth xs x) k d q) = z := ⟨_, rfl⟩
              rw [hze] at HVA HMV
              have hC0 := And.intro (HCq.out.cell 1) (And.intro (HA2.out.cell 0) (And.intro (HA3.out.cell 0) (HA3.out.cell 1)))
              clear hpr hze
              go_wp2_with fail
              refine Late.region (C := fun w' => w'.cell? ⟨E, 1, none⟩ = some v ∧ w'.cell? ⟨w.heap.size + 1 + 1, 0, none⟩ = some (.slice A' K c3) ∧ w'.cell? ⟨w.heap.size + 1 + 1 + 1, 0, none⟩ = some (.int .i64 (d : Int)) ∧ w'.cell? ⟨w.heap.size + 1 + 1 + 1, 1, none⟩ = some (.slice F fs.length c4)) (fun j => decide (j < 8)) (by kernel_rfl) hC0 (fun hC => ?_)
              refine Late.take (i := 0) (oi := _) (v := ?_) rfl (by kernel_rfl) (by kernel_rfl) (by kernel_rfl) (by kernel_rfl) (fun _ _ _ h => h) (Or.inl ⟨by rfl, ?_⟩) hC ?_
              rotate_left
              · (intro w hSw; (try dsimp only at hSw); go_simp; first | done | with_reducible rfl)
              simp only [Act.put]
              refine Late.take (i := 1) (oi := _) (v := ?_) rfl (by kernel_rfl) (by kernel_rfl) (by kernel_rfl) (by kernel_rfl) (fun _ _ _ h => h) (Or.inl ⟨by rfl, ?_⟩) hC ?_
              rotate_left
              · (intro w hSw; (try dsimp only at hSw); go_simp; first | done | with_reducible rfl)
              simp only [Act.put]
              refine Late.take (i := 2) (oi := _) (v := ?_) rfl (by kernel_rfl) (by kernel_rfl) (by kernel_rfl) (by kernel_rfl) (fun _ _ _ h => h) (Or.inl ⟨by rfl, ?_⟩) hC ?_
              rotate_left
              · (intro w hSw; (try dsimp only at hSw); go_simp; first | done | with_reducible rfl)
              simp only [Act.put]
              refine Late.take (i := 3) (oi := _) (v := ?_) rfl (by kernel_rfl) (by kernel_rfl) (by kernel_rfl) (by kernel_rfl) (fun _ _ _ h => h) (Or.inl ⟨by rfl, ?_⟩) hC ?_
              rotate_left
              · (intro w hSw; (try dsimp only at hSw); go_simp; first | done | with_reducible rfl)
              simp only [Act.put]
              refine Late.take (i := 4) (oi := _) (v := ?_) rfl (by kernel_rfl) (by kernel_rfl) (by kernel_rfl) (by kernel_rfl) (fun _ _ _ h => h) (Or.inl ⟨by rfl, ?_⟩) hC ?_
              rotate_left
              · (intro w hSw; (try dsimp only at hSw); go_simp; first | done | with_reducible rfl)
              simp only [Act.put]
              refine Late.one (i := 5) (o := _) (by kernel_rfl) rfl (fun K' hK' => ?_)
              go_simp
              refine (HVA.out wr.drew (Ex.refl _)).mono ?_
              rintro e W6 ⟨rfl, he6⟩
              have hx6 : Ex wr W6 := (Ex.refl wr).drew.trans he6
              have HE := Lib.hid (HEw.out.trans hx6)
              have HA26 := Lib.hid (HA2.out.ex hx6)
              have HA36 := Lib.hid (HA3.out.ex hx6)
              have HM6 := Lib.hid (HOq.out.ex hx6)
              have HC6 := Lib.hid (HCq.out.ex hx6)
              have HG := Lib.hid (HGq.out.ex hx6)
              have HU := Lib.hid (HUq.out.ex hx6)
              have hC6 := And.intro (HC6.out.cell 1) (And.intro (HA26.out.cell 0) (And.intro (HA36.out.cell 0) (HA36.out.cell 1)))
              refine hK'.out _ _ (fun _ => hC6) (fun _ => ?_)
              clear hK' K' hC hC0 he6 hx6 hC6
              try simp only [Act.put]
              refine Late.one (i := 6) (o := _) (by kernel_rfl) rfl (fun K' hK' => ?_)
              go_simp
              have e1 := HE.out.alloc (.cells #[.int .i64 z] 2)
              have HA261 := HA26.out.alloc (.cells #[.int .i64 z] 2)
              have HA361 := HA36.out.alloc (.cells #[.int .i64 z] 2)
              have HM61 := HM6.out.alloc (.cells #[.int .i64 z] 2)
              have HC61 := HC6.out.alloc (.cells #[.int .i64 z] 2)
              have g1 := HG.out.ex (Ex.new W6 (.cells #[.int .i64 z] 2))
              have u1 := HU.out.ex (Ex.new W6 (.cells #[.int .i64 z] 2))
              have hn1 := cell_one_new W6 (.int .i64 z) 2
              have hz1 : W6.heap.size + 1 = (W6.alloc (.cells #[.int .i64 z] 2)).heap.size := by simp
              have hx1 := Ex.new W6 (.cells #[.int .i64 z] 2)
              refine hK'.out _ _ (fun _ => ⟨HC61.cell 1, HA261.cell 0, HA361.cell 0, HA361.cell 1⟩) (fun _ => ?_)
              clear hK' K'
              generalize W6.alloc (.cells #[.int .i64 z] 2) = w1 at *
              try simp only [Act.put]
              refine Late.one (i := 7) (o := _) (by kernel_rfl) rfl (fun K' hK' => ?_)
              rw [if_pos (by rfl)]
              refine wp_append_where _ _ _ 25 rfl W0.heap.size 2 i0 (.int .i64 0) 1 8 Tryz.underlying25 hi hi0 hi1 hi2 rfl (by decide) _ _ _ rfl g1.1 ⟨W6.heap.size, 0, none⟩ 1 1 [.int .i64 z] rfl rfl hn1 (by simp [Value.oneCell']) (by unfold maxLen; omega) (by omega) (by have := e1.size; omega) (by decide) ?_
              intro v' w3 hown3 hgrow3 hwh3
              obtain ⟨gu3, ap3⟩ := HAP.out.grown u1 hwh3 hgrow3
              have HU3 := Lib.hid gu3
              obtain ⟨g3, cap3, rfl⟩ := ownsRow_succ hown3
              have HAP3 := Lib.hid ap3
              have HE3 := Lib.hid (Ex.grew e1 g1 (Nat.le_refl _) hgrow3)
              have HA263 := Lib.hid (Has.grew HA261 (by decide) g1 hgrow3)
              have HA363 := Lib.hid (Has.grew HA361 (by decide) g1 hgrow3)
              have HM63 := Lib.hid (Has.grew HM61 (by decide) g1 hgrow3)
              have HC63 := Lib.hid (Has.grew HC61 (by decide) g1 hgrow3)
              have HG3 := Lib.hid (g1.snoc hown3)
              have c33 := HC63.out.cell 1
              have f33 := HC63.out.free 1
              refine hK'.out _ _ (fun _ => ⟨HC63.out.cell 1, HA263.out.cell 0, HA363.out.cell 0, HA363.out.cell 1⟩) (fun _ => ?_)
              clear hK' K' hown3 hgrow3 hwh3 gu3 ap3 u1 g1 e1 hn1 hx1 HA261 HA361 HM61 HC61
              try simp only [Act.put]
              refine Late.one (i := 8) (o := _) (by kernel_rfl) rfl (fun K' hK' => ?_)
              go_simp
              refine hK'.out _ _ (fun h => by cases h) (fun _ => ?_)
              clear hK' K'
              try simp only [Act.put]
              refine Late.one (i := 9) (o := _) (by kernel_rfl) rfl (fun K' hK' => ?_)
              go_simp
              refine hK'.out _ _ (fun h => by cases h) (fun _ => ?_)
              clear hK' K'
              try simp only [Act.put]
              refine Late.done (by kernel_rfl) ?_ _
              go_wp2_with fail
              go_roundw
              case rel =>
                have hG9 := HG3.out.set HC63.out (by decide) 1 (.slice (some ⟨g3, 0, none⟩) (q + 1) cap3)
                rw [← HMV.out] at hG9
                exact ⟨q + 1, .slice (some ⟨g3, 0, none⟩) (q + 1) cap3, by omega, by go_num, Lib.hid (HE3.out.setCell (p := ⟨E, 1, none⟩) hE _), Lib.hid (HM63.out.far (p := ⟨E, 1, none⟩) (fun e => hDE e.symm) _), Lib.hid (by simpa using HC63.out.put 1 _), Lib.hid hG9, Lib.hid (HU3.out.set HC63.out (by decide) 1 _), HAP3⟩
              case measure => simp [intOf]; omega
        · obtain rfl : q = cn := by omega
          obtain ⟨A9, n9, ev, hO9⟩ := HG3.out.own
          have hln : ((List.range q).map fun j => pbV (fun x => nth xs x) fs k K d j).length = q := by simp
          rw [hln] at ev
          subst ev
          obtain ⟨A8, n8, ev8, hO8⟩ := HU3.out.own
          rw [HU3.out.2] at ev8
          simp only [Value.slice.injEq] at ev8
          obtain ⟨rfl, -, rfl⟩ := ev8
          have HO9 := Lib.hid (hO9.ex (Ex.refl W3).drew)
          have HO8 := Lib.hid (hO8.ex (Ex.refl W3).drew)
          have HR4 := Lib.hid (HB4.out.ex HE3.out)
          have HR5 := Lib.hid (HB5.out.ex HE3.out)
          have HDD := Lib.hid HO3.out
          have HEE := Lib.hid HC3.out
          have p4 := HR4.out.cell 0
          have p4' := HR4.out.cell 1
          have f4 := HR4.out.free 0
          have f4' := HR4.out.free 1
          have p5 := HR5.out.cell 0
          have p5' := HR5.out.cell 1
          have f5 := HR5.out.free 0
          have f5' := HR5.out.free 1
          have hl4 := HB4.out.lt
          have hl5 := HB5.out.lt
          have hl0 := HE0.out.size
          have HEX := Lib.hid (HE0.out.trans HE3.out.drew)
          have hC0 := And.intro (HO3.out.cell 0) (And.intro (HO3.out.cell 1) (And.intro (HC3.out.cell 0) (HC3.out.cell 1)))
          clear hO9 hO8 hln HG3 HU3
          go_wp2_with fail
          refine Late.region (C := fun w' => w'.cell? ⟨D, 0, none⟩ = some (.int .i64 m) ∧ w'.cell? ⟨D, 1, none⟩ = some (.slice U1 k nu) ∧ w'.cell? ⟨E, 0, none⟩ = some (.int .i64 (d : Int)) ∧ w'.cell? ⟨E, 1, none⟩ = some (.slice A9 q n9)) (fun j => decide (j < 3)) (by kernel_rfl) hC0 (fun hC => ?_)
          refine Late.take (i := 0) (oi := _) (v := ?_) rfl (by kernel_rfl) (by kernel_rfl) (by kernel_rfl) (by kernel_rfl) (fun _ _ _ h => h) (Or.inl ⟨by rfl, ?_⟩) hC ?_
          rotate_left
          · (intro w hSw; (try dsimp only at hSw); go_simp; first | done | with_reducible rfl)
          simp only [Act.put]
          refine Late.take (i := 1) (oi := _) (v := ?_) rfl (by kernel_rfl) (by kernel_rfl) (by kernel_rfl) (by kernel_rfl) (fun _ _ _ h => h) (Or.inl ⟨by rfl, ?_⟩) hC ?_
          rotate_left
          · (intro w hSw; (try dsimp only at hSw); go_simp; first | done | with_reducible rfl)
          simp only [Act.put]
          have F8 := (HDD.out.far (p := ⟨w.heap.size + 1 + 1 + 1 + 1, 0, none⟩) (by show D ≠ w.heap.size + 1 + 1 + 1 + 1; omega) (.int .i64 m)).far (p := ⟨w.heap.size + 1 + 1 + 1 + 1, 1, none⟩) (by show D ≠ w.heap.size + 1 + 1 + 1 + 1; omega) (.slice U1 k nu)
          have F9 := (HEE.out.far (p := ⟨w.heap.size + 1 + 1 + 1 + 1, 0, none⟩) (by show E ≠ w.heap.size + 1 + 1 + 1 + 1; omega) (.int .i64 m)).far (p := ⟨w.heap.size + 1 + 1 + 1 + 1, 1, none⟩) (by show E ≠ w.heap.size + 1 + 1 + 1 + 1; omega) (.slice U1 k nu)
          have hC6 := And.intro (F8.cell 0) (And.intro (F8.cell 1) (And.intro (F9.cell 0) (F9.cell 1)))
          clear F8 F9
          refine Late.one (i := 2) (o := _) (by kernel_rfl) rfl (fun K' hK' => ?_)
          go_simp
          refine hK'.out _ _ (fun _ => hC6) (fun _ => ?_)
          clear hK' K' hC6 hC hC0
          try simp only [Act.put]
          refine Late.one (i := 3) (o := _) (by kernel_rfl) rfl (fun K' hK' => ?_)
          go_simp
          refine hK'.out _ _ (fun h => by cases h) (fun _ => ?_)
          clear hK' K'
          try simp only [Act.put]
          refine Late.done (by kernel_rfl) ?_ _
          go_wp2_with fail
          have H4 := (Has.far (p := ⟨w.heap.size + 1 + 1 + 1 + 1 + 1, 1, none⟩) (Has.far (p := ⟨w.heap.size + 1 + 1 + 1 + 1 + 1, 0, none⟩) (HR4.out.put2 (u := .int .i64 m) (v := .slice U1 k nu)) (by show w.heap.size + 1 + 1 + 1 + 1 ≠ w.heap.size + 1 + 1 + 1 + 1 + 1; omega) (.int .i64 (d : Int))) (by show w.heap.size + 1 + 1 + 1 + 1 ≠ w.heap.size + 1 + 1 + 1 + 1 + 1; omega) (.slice A9 q n9))
          have H5 := Has.put2 (u := .int .i64 (d : Int)) (v := .slice A9 q n9) (Has.far (p := ⟨w.heap.size + 1 + 1 + 1 + 1, 1, none⟩) (Has.far (p := ⟨w.heap.size + 1 + 1 + 1 + 1, 0, none⟩) HR5.out (by show w.heap.size + 1 + 1 + 1 + 1 + 1 ≠ w.heap.size + 1 + 1 + 1 + 1; omega) (.int .i64 m)) (by show w.heap.size + 1 + 1 + 1 + 1 + 1 ≠ w.heap.size + 1 + 1 + 1 + 1; omega) (.slice U1 k nu))
          have c4 := H4.cell 0
          have c4' := H4.cell 1
          have c5 := H5.cell 0
          have c5' := H5.cell 1
          refine bodyPost_ret (v := .tuple #[.agg #[.int .i64 m, .slice U1 k nu], .agg #[.int .i64 (d : Int), .slice A9 q n9]]) (by simp [results, Tryz.results36, go_sem, c4, c4', c5, c5']) rfl ⟨U1, nu, A9, n9, rfl, (((HEX.out.setCell (by show w.heap.size ≤ w.heap.size + 1 + 1 + 1 + 1; omega) _).setCell (by show w.heap.size ≤ w.heap.size + 1 + 1 + 1 + 1; omega) _).setCell (by show w.heap.size ≤ w.heap.size + 1 + 1 + 1 + 1 + 1; omega) _).setCell (by show w.heap.size ≤ w.heap.size + 1 + 1 + 1 + 1 + 1; omega) _, ?_, ?_⟩
          · rw [HULL.out]
            exact ((((HO8.out.above (Only.set _ _ _ _) hl4).above (Only.set _ _ _ _) hl4).above (Only.set _ _ _ _) hl5).above (Only.set _ _ _ _) hl5).mono hl0 (by simp) (Nat.le_refl _)
          · unfold pbY
            rw [HCN.out]
            exact ((((HO9.out.above (Only.set _ _ _ _) hl4).above (Only.set _ _ _ _) hl4).above (Only.set _ _ _ _) hl5).above (Only.set _ _ _ _) hl5).mono hl0 (by simp) (Nat.le_refl _)

end Go.Proofs.YtfnjpbjlikajbaaGreatDoor
