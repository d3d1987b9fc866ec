/- MoveCochain: the specification's cochain. -/
import Derived.IntWalk
import Derived.Deep.RegionHeld3
import Derived.Deep.DeepCutAuto
import Derived.Test.YtalejhbdbclfaaaDoorMx
import Derived.Test.YtalejhbdbclfaaaDoorCel
import Derived.Test.YtalejhbdbclfaaaDoorMvt
import Derived.Test.YtalejhbdbclfaaaDoorBa
namespace Go.Proofs.YtalejhbdbclfaaaDoor
open Go.RowKit

theorem upL_mov (t : List (List Int)) (d k b : Nat) : upL (lsL t.length d k) (fun p => (con t (dN t.length d k p) b : Int)) d = movL t d k b := by
  have h := upL_all (lsL t.length d k) (fun p => (con t (dN t.length d k p) b : Int))
  rw [lsL_len] at h
  exact h

set_option maxRecDepth 100000 in
set_option maxHeartbeats 4000000 in
theorem l03Move_any (A U F : Option Addr) (t : List (List Int)) (M d a : Nat) (us fs : List Int) (c0 c1 c2 : Nat) (w : World)
    (hR : RwsW w A t) (hU : IntsW w U us) (hF : IntsW w F fs) (hm : ModF t M us) (ha : a < t.length) (hd : d ≤ 3) (hfl : fs.length = cellsN t.length d) (hfr : InR M fs) :
    Calls Tryd.prog 84 #[.agg #[.slice A t.length c0], .agg #[.int .i64 (M : Int), .slice U us.length c1], .agg #[.int .i64 (d : Int), .slice F fs.length c2], .int .i64 (a : Int)] w fun e w' => ∃ A' n', e = .returned (.agg #[.int .i64 (d : Int), .slice A' (cellsN t.length d) n']) ∧ Ex w w' ∧ OwnL w' w.heap.size w'.heap.size A' ((List.range (cellsN t.length d)).map fun k => movV t M us fs d k (iv t a) a) := by
  obtain ⟨i0, hi, hi0, hi1, hi2⟩ := info_parts infoI
  have e0 : Ex w ((((w.alloc (.cells #[.slice A t.length c0] 27)).alloc (.cells #[.int .i64 (M : Int), .slice U us.length c1] 40)).alloc (.cells #[.int .i64 (d : Int), .slice F fs.length c2] 57)).alloc (.cells #[.int .i64 0, .slice none 0 0] 57)) := ((((Ex.refl w).alloc _).alloc _).alloc _).alloc _
  have b0 : Has ((((w.alloc (.cells #[.slice A t.length c0] 27)).alloc (.cells #[.int .i64 (M : Int), .slice U us.length c1] 40)).alloc (.cells #[.int .i64 (d : Int), .slice F fs.length c2] 57)).alloc (.cells #[.int .i64 0, .slice none 0 0] 57)) (w.heap.size) 27 #[.slice A t.length c0] := ((((Has.newAt (w := w) (e := 27) (cs := #[.slice A t.length c0]) (k := w.heap.size) (by simp)).alloc _).alloc _).alloc _)
  have b1 : Has ((((w.alloc (.cells #[.slice A t.length c0] 27)).alloc (.cells #[.int .i64 (M : Int), .slice U us.length c1] 40)).alloc (.cells #[.int .i64 (d : Int), .slice F fs.length c2] 57)).alloc (.cells #[.int .i64 0, .slice none 0 0] 57)) (w.heap.size + 1) 40 #[.int .i64 (M : Int), .slice U us.length c1] := (((Has.newAt (w := (w.alloc (.cells #[.slice A t.length c0] 27))) (e := 40) (cs := #[.int .i64 (M : Int), .slice U us.length c1]) (k := w.heap.size + 1) (by simp)).alloc _).alloc _)
  have b2 : Has ((((w.alloc (.cells #[.slice A t.length c0] 27)).alloc (.cells #[.int .i64 (M : Int), .slice U us.length c1] 40)).alloc (.cells #[.int .i64 (d : Int), .slice F fs.length c2] 57)).alloc (.cells #[.int .i64 0, .slice none 0 0] 57)) (w.heap.size + 1 + 1) 57 #[.int .i64 (d : Int), .slice F fs.length c2] := ((Has.newAt (w := ((w.alloc (.cells #[.slice A t.length c0] 27)).alloc (.cells #[.int .i64 (M : Int), .slice U us.length c1] 40))) (e := 57) (cs := #[.int .i64 (d : Int), .slice F fs.length c2]) (k := w.heap.size + 1 + 1) (by simp)).alloc _)
  have b3 : Has ((((w.alloc (.cells #[.slice A t.length c0] 27)).alloc (.cells #[.int .i64 (M : Int), .slice U us.length c1] 40)).alloc (.cells #[.int .i64 (d : Int), .slice F fs.length c2] 57)).alloc (.cells #[.int .i64 0, .slice none 0 0] 57)) (w.heap.size + 1 + 1 + 1) 57 #[.int .i64 0, .slice none 0 0] := (Has.newAt (w := (((w.alloc (.cells #[.slice A t.length c0] 27)).alloc (.cells #[.int .i64 (M : Int), .slice U us.length c1] 40)).alloc (.cells #[.int .i64 (d : Int), .slice F fs.length c2] 57))) (e := 57) (cs := #[.int .i64 0, .slice none 0 0]) (k := w.heap.size + 1 + 1 + 1) (by simp))
  have HE0 := Lib.hid e0
  have HB0 := Lib.hid b0
  have HB1 := Lib.hid b1
  have HB2 := Lib.hid b2
  have HB3 := Lib.hid b3
  have HIV := Lib.hid (fun W (he : Ex w W) => l01Inverse_any A t c0 a W (hR.ex he) hm.g ha)
  obtain ⟨b, hbe⟩ : ∃ b, iv t a = b := ⟨_, rfl⟩
  rw [hbe] at HIV ⊢
  have hN8 := hm.g.n8
  have hN1 := hm.g.n1
  have hM2 := hm.m2
  have hM12 := hm.m12
  have HCC := Lib.hid (fun W => l03Cells_any A t.length c0 d W hN8 hN1 (by omega))
  have hc24 := cellsN_le hN8 (show d ≤ 4 by omega)
  have HDN := Lib.hid (fun k (h : k < cellsN t.length d) => cells_pos h)
  have HRW := Lib.hid hR
  have HU := Lib.hid hU
  have HF := Lib.hid hF
  have HM := Lib.hid hm
  have HFR := Lib.hid hfr
  have HFL := Lib.hid hfl
  obtain ⟨cn, hcn⟩ : ∃ cn, cellsN t.length d = cn := ⟨_, rfl⟩
  rw [hcn] at HCC HFL hc24 HDN ⊢
  have HCN := Lib.hid hcn
  clear hcn
  have hbe := Lib.hid hbe
  clear hR hU hF hm hfr hfl e0 b0 b1 b2 b3
  go_enter Tryd.func84, Tryd.ntmps84
  go_upto_region 1 with (fail)
  generalize ((((w.alloc (.cells #[.slice A t.length c0] 27)).alloc (.cells #[.int .i64 (M : Int), .slice U us.length c1] 40)).alloc (.cells #[.int .i64 (d : Int), .slice F fs.length c2] 57)).alloc (.cells #[.int .i64 0, .slice none 0 0] 57)) = W0 at *
  have HK := Lib.hid (fun (W' : World) (hb : Ex W0 W') => And.intro ((HB0.out.ex hb).cell 0) ((HB2.out.ex hb).cell 0))
  go_cut [9, 10] (fun s9 s10 wx => ∃ (D : Nat) (v : Value), s9 = .pointer (some ⟨D, 0, none⟩) ∧ s10 = .int .i64 (b : Int) ∧ Ex W0 wx ∧ W0.heap.size ≤ D ∧ Has wx D 57 #[.int .i64 (d : Int), v] ∧ GrowI wx W0.heap.size v 0 [])
  case first =>
    go_region_held3 (fun w' : World => w'.cell? ⟨w.heap.size, 0, none⟩ = some (.slice A t.length c0) ∧ w'.cell? ⟨w.heap.size + 1 + 1, 0, none⟩ = some (.int .i64 (d : Int)))
      (exact HK.out _ (by (repeat' (first | assumption | exact Ex.refl _ | refine Ex.alloc ?_ _ | refine Ex.drew ?_ | refine Ex.setCell ?_ (by first | exact Nat.le_refl _ | assumption | (show _ ≤ _; omega) | (simp; omega) | simp) _ | refine Ex.trans ?_ (by assumption)))))
      ((go_at_call 133; refine (HIV.out _ (HE0.out.trans (by (repeat' (first | assumption | exact Ex.refl _ | refine Ex.alloc ?_ _ | refine Ex.drew ?_ | refine Ex.setCell ?_ (by first | exact Nat.le_refl _ | assumption | (show _ ≤ _; omega) | (simp; omega) | simp) _ | refine Ex.trans ?_ (by assumption)))))).mono ?_; rintro e w6 ⟨rfl, he6⟩; have hx6 : Ex W0 w6 := Ex.trans (by (repeat' (first | assumption | exact Ex.refl _ | refine Ex.alloc ?_ _ | refine Ex.drew ?_ | refine Ex.setCell ?_ (by first | exact Nat.le_refl _ | assumption | (show _ ≤ _; omega) | (simp; omega) | simp) _ | refine Ex.trans ?_ (by assumption)))) he6; have hz6 : W0.heap.size ≤ w6.heap.size := hx6.size; (first | (have hbx : Has w6 (W0.heap.size + 1) 57 #[.int .i64 0, .slice none 0 0] := Has.ex (Has.newAt (w := W0.alloc (.cells #[] 2)) (by simp)) ((Ex.refl _).drew.trans he6); have cb0 := hbx.cell 0; have cb1 := hbx.cell 1; have fb0 := hbx.free 0; have fb1 := hbx.free 1; have hbl := hbx.lt) | (have hbx : Has w6 W0.heap.size 57 #[.int .i64 0, .slice none 0 0] := Has.ex ((Has.new W0 57 #[.int .i64 0, .slice none 0 0]).alloc (.cells #[] 2)) ((Ex.refl _).drew.trans he6); have cb0 := hbx.cell 0; have cb1 := hbx.cell 1; have fb0 := hbx.free 0; have fb1 := hbx.free 1; have hbl := hbx.lt) | (have hbx : Has w6 W0.heap.size 57 #[.int .i64 0, .slice none 0 0] := Has.ex (Has.new W0 57 #[.int .i64 0, .slice none 0 0]) ((Ex.refl _).drew.trans he6); have cb0 := hbx.cell 0; have cb1 := hbx.cell 1; have fb0 := hbx.free 0; have fb1 := hbx.free 1; have hbl := hbx.lt) | skip)))
    all_goals
      go_wp2_with fail
      go_meet
      first
        | exact ⟨_, _, rfl, rfl, by (repeat' (first | assumption | exact Ex.refl _ | refine Ex.alloc ?_ _ | refine Ex.drew ?_ | refine Ex.setCell ?_ (by first | exact Nat.le_refl _ | assumption | (show _ ≤ _; omega) | (simp; omega) | simp) _ | refine Ex.trans ?_ (by assumption))), hz6, Has.new _ _ _, ((GrowI.empty W0 (Nat.le_refl _)).ex ((Ex.refl _).drew.trans he6)).ex (Ex.new _ _)⟩
        | exact ⟨_, _, rfl, rfl, by (repeat' (first | assumption | exact Ex.refl _ | refine Ex.alloc ?_ _ | refine Ex.drew ?_ | refine Ex.setCell ?_ (by first | exact Nat.le_refl _ | assumption | (show _ ≤ _; omega) | (simp; omega) | simp) _ | refine Ex.trans ?_ (by assumption))), by omega, hbx.put2, ((((GrowI.empty W0 (Nat.le_refl _)).ex (((Ex.refl _).alloc _).drew.trans he6)).set hbx (by decide) 0 _).set (hbx.put 0 _) (by decide) 1 _)⟩
        | exact ⟨_, _, rfl, rfl, by (repeat' (first | assumption | exact Ex.refl _ | refine Ex.alloc ?_ _ | refine Ex.drew ?_ | refine Ex.setCell ?_ (by first | exact Nat.le_refl _ | assumption | (show _ ≤ _; omega) | (simp; omega) | simp) _ | refine Ex.trans ?_ (by assumption))), by omega, Has.newAt (by simp), (GrowI.empty w6 hz6).ex (Ex.new _ _)⟩
        | (have h := GrowI.empty (lo := W0.heap.size) (w6.alloc (.cells #[.int .i64 (d : Int), .slice (some ⟨w6.heap.size + 1, 0, none⟩) 0 0] 57)) (by simp; omega); rw [World.size_alloc] at h; exact ⟨_, _, rfl, rfl, by (repeat' (first | assumption | exact Ex.refl _ | refine Ex.alloc ?_ _ | refine Ex.drew ?_ | refine Ex.setCell ?_ (by first | exact Nat.le_refl _ | assumption | (show _ ≤ _; omega) | (simp; omega) | simp) _ | refine Ex.trans ?_ (by assumption))), hz6, (Has.new _ _ _).alloc _, h⟩)
        | (have h := GrowI.empty (lo := W0.heap.size) (W0.alloc (.cells #[.int .i64 0, .slice none 0 0] 57)) (by simp); rw [World.size_alloc] at h; exact ⟨_, _, rfl, rfl, by (repeat' (first | assumption | exact Ex.refl _ | refine Ex.alloc ?_ _ | refine Ex.drew ?_ | refine Ex.setCell ?_ (by first | exact Nat.le_refl _ | assumption | (show _ ≤ _; omega) | (simp; omega) | simp) _ | refine Ex.trans ?_ (by assumption))), Nat.le_refl _, hbx.put2, ((h.ex ((Ex.refl _).drew.trans he6)).set hbx (by decide) 0 _).set (hbx.put 0 _) (by decide) 1 _⟩)
        | (have hsz : ((w6.setCell ⟨W0.heap.size, 0, none⟩ (.int .i64 (d : Int))).setCell ⟨W0.heap.size, 1, none⟩ (.slice (some ⟨w6.heap.size, 0, none⟩) 0 0)).heap.size = w6.heap.size := by simp
           have h := GrowI.empty (lo := W0.heap.size) ((w6.setCell ⟨W0.heap.size, 0, none⟩ (.int .i64 (d : Int))).setCell ⟨W0.heap.size, 1, none⟩ (.slice (some ⟨w6.heap.size, 0, none⟩) 0 0)) (by rw [hsz]; exact hz6)
           rw [hsz] at h
           exact ⟨_, _, rfl, rfl, by (repeat' (first | assumption | exact Ex.refl _ | refine Ex.alloc ?_ _ | refine Ex.drew ?_ | refine Ex.setCell ?_ (by first | exact Nat.le_refl _ | assumption | (show _ ≤ _; omega) | (simp; omega) | simp) _ | refine Ex.trans ?_ (by assumption))), Nat.le_refl _, hbx.put2.alloc _, h⟩)
  obtain ⟨W1, rfl⟩ : ∃ x : World, x = wc := ⟨_, rfl⟩
  obtain ⟨D, v0, rfl, rfl, he1, hD, hb1, hg1⟩ := hcut
  have HE1 := Lib.hid he1
  have HBO := Lib.hid hb1
  have HG1 := Lib.hid hg1
  clear HK he1 hb1 hg1
  go_wp2_with fail
  go_loopw [11] (fun i wr => ∃ (k : Nat) (v : Value), k ≤ cn ∧ i = .int .i64 (k : Int) ∧ Hid (Ex W0 wr) ∧ Hid (Has wr D 57 #[.int .i64 (d : Int), v]) ∧ Hid (GrowI wr W0.heap.size v k ((List.range k).map fun k => movV t M us fs d k b a))) (fun i _ => cn - (intOf i).toNat)
  case atStart => exact ⟨0, v0, Nat.zero_le _, rfl, HE1, HBO, HG1⟩
  case round =>
    obtain ⟨k, v, hk, rfl, HE, HO, HG⟩ := hrel
    have cg := (HB0.out.ex HE.out).cell 0
    have cf := (HB2.out.ex HE.out).cell 0
    go_wp2_with fail
    refine (HCC.out _).mono ?_
    rintro e W2 ⟨rfl, he2⟩
    have HE2 := Lib.hid (HE.out.trans he2)
    have HO2 := Lib.hid (HO.out.ex he2)
    have HG2 := Lib.hid (HG.out.ex he2)
    clear he2 cg cf HE HO HG
    by_cases hlt : k < cn
    · have cg := (HB0.out.ex HE2.out).cell 0
      have cf := (HB2.out.ex HE2.out).cell 0
      go_wp2_with fail
      refine (l03List_any A t.length c0 d k W2 hN8 (HDN.out k hlt) hN1 (by omega) (by omega)).mono ?_
      rintro e W3 ⟨L, n3, rfl, he3, ho3⟩
      rw [lsL_len]
      have HE3 := Lib.hid he3
      have HL3 : Hid (OwnL W3 W2.heap.size W3.heap.size L (upL (lsL t.length d k) (fun p => (con t (dN t.length d k p) b : Int)) 0)) := Lib.hid (by rw [upL_zero]; exact ho3)
      clear he3 ho3 cg cf
      go_wp2_with fail
      go_loopw [13] (fun i wr => ∃ q : Nat, q ≤ d ∧ i = .int .i64 (q : Int) ∧ Hid (Ex W2 wr) ∧ Hid (OwnL wr W2.heap.size W3.heap.size L (upL (lsL t.length d k) (fun p => (con t (dN t.length d k p) b : Int)) q))) (fun i _ => d - (intOf i).toNat)
      case atStart => exact ⟨0, Nat.zero_le _, rfl, HE3, HL3⟩
      case round =>
        obtain ⟨q, hq, rfl, HEq, HLq⟩ := hrel
        have HEw := Lib.hid (HE2.out.trans HEq.out)
        by_cases hqd : q < d
        · have hql : q < (lsL t.length d k).length := by rw [lsL_len]; exact hqd
          obtain ⟨bl, ol, rfl, hbl1, hbl2, hcl, hfl⟩ := HLq.out.at_ (j := q) (by rw [upL_len]; exact hql)
          have HST := Lib.hid (upL_set (xs := lsL t.length d k) (f := fun p => (con t (dN t.length d k p) b : Int)) hql)
          have HPT := Lib.hid (HLq.out.put (j := q) (by rw [upL_len]; exact hql))
          rw [upL_at hql, if_neg (by omega), nth_lsL hqd] at hcl
          have hx := (dN_in (n := d) (i := k) (p := q) (show 2 ≤ t.length by have := HDN.out k hlt; omega)).2
          have HCJ := Lib.hid (fun W (he : Ex wr.drew W) => l01Conjugate_any A t c0 (dN t.length d k q) b W (HRW.out.ex (HE0.out.trans (HEw.out.drew.trans he))) HM.out.g hx (hbe.out ▸ (iv_spec HM.out.g ha).1))
          obtain ⟨x, hxe⟩ : ∃ x, dN t.length d k q = x := ⟨_, rfl⟩
          rw [hxe] at hcl HCJ HST
          obtain ⟨z, hze⟩ : ∃ z, con t x b = z := ⟨_, rfl⟩
          rw [hze] at HCJ HST
          clear hx hxe hze
          have hq0 : (0 : Int) ≤ (q : Int) := by omega
          have hqn : (q : Int) < (d : Int) := by omega
          have cg := (HB0.out.ex HEw.out).cell 0
          go_wp2_with fail
          refine Late.region (C := fun w' => w'.cell? ⟨w.heap.size, 0, none⟩ = some (.slice A t.length c0) ∧ w'.cell? ⟨bl, ol + q, none⟩ = some (.int .i64 (x : Int))) (fun j => decide (j < 10)) (by kernel_rfl) ⟨cg, hcl⟩ (fun hC => ?_)
          refine Late.take (i := 0) (oi := _) (v := ?_) rfl (by kernel_rfl) (by kernel_rfl) (by kernel_rfl) (by kernel_rfl) (fun _ _ _ h => h) (Or.inl ⟨by rfl, ?_⟩) hC ?_
          rotate_left
          · (intro w hSw; (try dsimp only at hSw); go_simp; first | done | with_reducible rfl)
          simp only [Act.put]
          refine Late.take (i := 1) (oi := _) (v := ?_) rfl (by kernel_rfl) (by kernel_rfl) (by kernel_rfl) (by kernel_rfl) (fun _ _ _ h => h) (Or.inl ⟨by rfl, ?_⟩) hC ?_
          rotate_left
          · (intro w hSw; (try dsimp only at hSw); go_simp; first | done | with_reducible rfl)
          simp only [Act.put]
          refine Late.take (i := 2) (oi := _) (v := ?_) rfl (by kernel_rfl) (by kernel_rfl) (by kernel_rfl) (by kernel_rfl) (fun _ _ _ h => h) (Or.inl ⟨by rfl, ?_⟩) hC ?_
          rotate_left
          · (intro w hSw; (try dsimp only at hSw); go_simp; first | done | with_reducible rfl)
          simp only [Act.put]
          refine Late.take (i := 3) (oi := _) (v := ?_) rfl (by kernel_rfl) (by kernel_rfl) (by kernel_rfl) (by kernel_rfl) (fun _ _ _ h => h) (Or.inl ⟨by rfl, ?_⟩) hC ?_
          rotate_left
          · (intro w hSw; (try dsimp only at hSw); go_simp; first | done | with_reducible rfl)
          simp only [Act.put]
          refine Late.take (i := 4) (oi := _) (v := ?_) rfl (by kernel_rfl) (by kernel_rfl) (by kernel_rfl) (by kernel_rfl) (fun _ _ _ h => h) (Or.inl ⟨by rfl, ?_⟩) hC ?_
          rotate_left
          · (intro w hSw; (try dsimp only at hSw); go_simp; first | done | with_reducible rfl)
          simp only [Act.put]
          refine Late.take (i := 5) (oi := _) (v := ?_) rfl (by kernel_rfl) (by kernel_rfl) (by kernel_rfl) (by kernel_rfl) (fun _ _ _ h => h) (Or.inl ⟨by rfl, ?_⟩) hC ?_
          rotate_left
          · (intro w hSw; (try dsimp only at hSw); go_simp; first | done | with_reducible rfl)
          simp only [Act.put]
          refine Late.take (i := 6) (oi := _) (v := ?_) rfl (by kernel_rfl) (by kernel_rfl) (by kernel_rfl) (by kernel_rfl) (fun _ _ _ h => h) (Or.inl ⟨by rfl, ?_⟩) hC ?_
          rotate_left
          · (intro w hSw; (try dsimp only at hSw); go_simp; first | done | with_reducible rfl)
          simp only [Act.put]
          refine Late.take (i := 7) (oi := _) (v := ?_) rfl (by kernel_rfl) (by kernel_rfl) (by kernel_rfl) (by kernel_rfl) (fun _ _ _ h => h) (Or.inl ⟨by rfl, ?_⟩) hC ?_
          rotate_left
          · (intro w hSw; (try dsimp only at hSw); go_simp; first | done | with_reducible rfl)
          simp only [Act.put]
          refine Late.one (i := 8) (o := _) (by kernel_rfl) rfl (fun K' hK' => ?_)
          go_simp
          refine (HCJ.out wr.drew (Ex.refl _)).mono ?_
          rintro e W6 ⟨rfl, he6⟩
          have hbw : bl < wr.drew.heap.size := by have := HLq.out.le; show bl < wr.heap.size; omega
          have hcl6 : W6.cell? ⟨bl, ol + q, none⟩ = some (.int .i64 (x : Int)) := (he6.below.cell (p := ⟨bl, ol + q, none⟩) hbw).trans hcl
          have hfl6 : W6.frozen? ⟨bl, ol + q, none⟩ = false := (he6.below.frozen (p := ⟨bl, ol + q, none⟩) hbw).trans hfl
          have HE6 := Lib.hid (HEq.out.drew.trans he6)
          have HL6 := Lib.hid ((HLq.out.ex ((Ex.refl wr).drew.trans he6)).put (j := q) (by rw [upL_len]; exact hql) (z : Int))
          have hC6 := And.intro (((HB0.out.ex HEw.out).ex ((Ex.refl wr).drew.trans he6)).cell 0) hcl6
          refine hK'.out _ _ (fun _ => hC6) (fun _ => ?_)
          clear hK' K' cg hC hcl hfl he6 HPT
          try simp only [Act.put]
          refine Late.one (i := 9) (o := _) (by kernel_rfl) rfl (fun K' hK' => ?_)
          go_simp
          refine hK'.out _ _ (fun _ => hC6) (fun _ => ?_)
          clear hK' K'
          try simp only [Act.put]
          refine Late.one (i := 10) (o := _) (by kernel_rfl) rfl (fun K' hK' => ?_)
          go_simp
          refine hK'.out _ _ (fun h => by cases h) (fun _ => ?_)
          clear hK' K'
          refine Late.done (by kernel_rfl) ?_ _
          go_wp2_with fail
          refine ⟨?rel, ?measure⟩
          case rel =>
            refine ⟨q + 1, by omega, by go_num, Lib.hid (HE6.out.setCell (p := ⟨bl, ol + q, none⟩) hbl1 _), Lib.hid ?_⟩
            rw [← HST.out]
            exact HL6.out
          case measure => simp [intOf]; omega
        · obtain rfl : d = q := by omega
          have HLM : Hid (OwnL wr W2.heap.size W3.heap.size L (movL t d k b)) := Lib.hid (by rw [← upL_mov]; exact HLq.out)
          have HOq := Lib.hid (HO2.out.ex HEq.out)
          have HGq := Lib.hid (HG2.out.ex HEq.out)
          have HA0 := Lib.hid (HB0.out.ex HEw.out)
          have HA1 := Lib.hid (HB1.out.ex HEw.out)
          have HA2 := Lib.hid (HB2.out.ex HEw.out)
          have hmr : InR t.length (movL t d k b) := movL_in HM.out.g (hbe.out ▸ (iv_spec HM.out.g ha).1) (HDN.out k hlt)
          have hfl' : fs.length = cellsN t.length d := by rw [HCN.out]; exact HFL.out
          have HVA := Lib.hid (fun W (he : Ex wr.drew W) => l03At_any A F L d t.length fs (movL t d k b) c0 c2 n3 W (HF.out.ex (HE0.out.trans (HEw.out.drew.trans he))) (HLM.out.ints.ex ((Ex.refl wr).drew.trans he)) hN8 hN1 (by omega) (movL_len t d k b) hfl' hmr)
          rw [movL_len] at HVA
          have hv := valR_in (show 0 < M by omega) hmr (movL_len t d k b) hfl' HFR.out
          have hal : a < us.length := by rw [HM.out.len]; exact ha
          have hu := HM.out.rng a hal
          obtain ⟨bu, ou, rfl, hbu, hcu⟩ := HU.out.ints.at_ hal
          have HMV : Hid (movV t M us fs d k b a = nth us a * valR t.length fs (movL t d k b) % (M : Int)) := Lib.hid rfl
          obtain ⟨v', hve⟩ : ∃ v', valR t.length fs (movL t d k b) = v' := ⟨_, rfl⟩
          obtain ⟨u, hue⟩ : ∃ u, nth us a = u := ⟨_, rfl⟩
          rw [hve] at HVA HMV hv
          rw [hue] at HMV hu hcu
          have huv0 : 0 ≤ u * v' := Int.mul_nonneg hu.1 hv.1
          have huv : u * v' ≤ 144 := by
            have h1 : u * v' ≤ 12 * v' := Int.mul_le_mul_of_nonneg_right (by omega) hv.1
            omega
          have HMD := Lib.hid (fun W => l01Mod_w (u * v') M W (by omega) hM12 (by omega) (by omega))
          have hwm : IntKind.i64.wrap (u * v') = u * v' := IntWalk.i64_in _ (by omega)
          obtain ⟨z, hze⟩ : ∃ z, u * v' % (M : Int) = z := ⟨_, rfl⟩
          rw [hze] at HMV HMD
          have ha0 : (0 : Int) ≤ (a : Int) := by omega
          have haN : (a : Int) < (us.length : Int) := by omega
          have HCU := Lib.hid hcu
          have hun : wr.cell? ⟨bu, ou + a, none⟩ = some (.int .i64 u) := ((HE0.out.trans HEw.out).below.cell (p := ⟨bu, ou + a, none⟩) hbu).trans hcu
          have hC0 := And.intro (HOq.out.cell 1) (And.intro (HA1.out.cell 1) (And.intro hun (And.intro (HA0.out.cell 0) (And.intro (HA2.out.cell 0) (And.intro (HA2.out.cell 1) (HA1.out.cell 0))))))
          clear hmr hfl' hv hu hcu hve hue huv huv0 hze
          go_wp2_with fail
          refine Late.region (C := fun w' => w'.cell? ⟨D, 1, none⟩ = some v ∧ w'.cell? ⟨w.heap.size + 1, 1, none⟩ = some (.slice (some ⟨bu, ou, none⟩) us.length c1) ∧ w'.cell? ⟨bu, ou + a, none⟩ = some (.int .i64 u) ∧ w'.cell? ⟨w.heap.size, 0, none⟩ = some (.slice A t.length c0) ∧ w'.cell? ⟨w.heap.size + 1 + 1, 0, none⟩ = some (.int .i64 (d : Int)) ∧ w'.cell? ⟨w.heap.size + 1 + 1, 1, none⟩ = some (.slice F fs.length c2) ∧ w'.cell? ⟨w.heap.size + 1, 0, none⟩ = some (.int .i64 (M : Int))) (fun j => decide (j < 17)) (by kernel_rfl) hC0 (fun hC => ?_)
          refine Late.take (i := 0) (oi := _) (v := ?_) rfl (by kernel_rfl) (by kernel_rfl) (by kernel_rfl) (by kernel_rfl) (fun _ _ _ h => h) (Or.inl ⟨by rfl, ?_⟩) hC ?_
          rotate_left
          · (intro w hSw; (try dsimp only at hSw); go_simp; first | done | with_reducible rfl)
          simp only [Act.put]
          refine Late.take (i := 1) (oi := _) (v := ?_) rfl (by kernel_rfl) (by kernel_rfl) (by kernel_rfl) (by kernel_rfl) (fun _ _ _ h => h) (Or.inl ⟨by rfl, ?_⟩) hC ?_
          rotate_left
          · (intro w hSw; (try dsimp only at hSw); go_simp; first | done | with_reducible rfl)
          simp only [Act.put]
          refine Late.take (i := 2) (oi := _) (v := ?_) rfl (by kernel_rfl) (by kernel_rfl) (by kernel_rfl) (by kernel_rfl) (fun _ _ _ h => h) (Or.inl ⟨by rfl, ?_⟩) hC ?_
          rotate_left
          · (intro w hSw; (try dsimp only at hSw); go_simp; first | done | with_reducible rfl)
          simp only [Act.put]
          refine Late.take (i := 3) (oi := _) (v := ?_) rfl (by kernel_rfl) (by kernel_rfl) (by kernel_rfl) (by kernel_rfl) (fun _ _ _ h => h) (Or.inl ⟨by rfl, ?_⟩) hC ?_
          rotate_left
          · (intro w hSw; (try dsimp only at hSw); go_simp; first | done | with_reducible rfl)
          simp only [Act.put]
          refine Late.take (i := 4) (oi := _) (v := ?_) rfl (by kernel_rfl) (by kernel_rfl) (by kernel_rfl) (by kernel_rfl) (fun _ _ _ h => h) (Or.inl ⟨by rfl, ?_⟩) hC ?_
          rotate_left
          · (intro w hSw; (try dsimp only at hSw); go_simp; first | done | with_reducible rfl)
          simp only [Act.put]
          refine Late.take (i := 5) (oi := _) (v := ?_) rfl (by kernel_rfl) (by kernel_rfl) (by kernel_rfl) (by kernel_rfl) (fun _ _ _ h => h) (Or.inl ⟨by rfl, ?_⟩) hC ?_
          rotate_left
          · (intro w hSw; (try dsimp only at hSw); go_simp; first | done | with_reducible rfl)
          simp only [Act.put]
          refine Late.take (i := 6) (oi := _) (v := ?_) rfl (by kernel_rfl) (by kernel_rfl) (by kernel_rfl) (by kernel_rfl) (fun _ _ _ h => h) (Or.inl ⟨by rfl, ?_⟩) hC ?_
          rotate_left
          · (intro w hSw; (try dsimp only at hSw); go_simp; first | done | with_reducible rfl)
          simp only [Act.put]
          refine Late.take (i := 7) (oi := _) (v := ?_) rfl (by kernel_rfl) (by kernel_rfl) (by kernel_rfl) (by kernel_rfl) (fun _ _ _ h => h) (Or.inl ⟨by rfl, ?_⟩) hC ?_
          rotate_left
          · (intro w hSw; (try dsimp only at hSw); go_simp; first | done | with_reducible rfl)
          simp only [Act.put]
          refine Late.take (i := 8) (oi := _) (v := ?_) rfl (by kernel_rfl) (by kernel_rfl) (by kernel_rfl) (by kernel_rfl) (fun _ _ _ h => h) (Or.inl ⟨by rfl, ?_⟩) hC ?_
          rotate_left
          · (intro w hSw; (try dsimp only at hSw); go_simp; first | done | with_reducible rfl)
          simp only [Act.put]
          refine Late.take (i := 9) (oi := _) (v := ?_) rfl (by kernel_rfl) (by kernel_rfl) (by kernel_rfl) (by kernel_rfl) (fun _ _ _ h => h) (Or.inl ⟨by rfl, ?_⟩) hC ?_
          rotate_left
          · (intro w hSw; (try dsimp only at hSw); go_simp; first | done | with_reducible rfl)
          simp only [Act.put]
          refine Late.take (i := 12) (oi := _) (v := ?_) rfl (by kernel_rfl) (by kernel_rfl) (by kernel_rfl) (by kernel_rfl) (fun _ _ _ h => h) (Or.inl ⟨by rfl, ?_⟩) hC ?_
          rotate_left
          · (intro w hSw; (try dsimp only at hSw); go_simp; first | done | with_reducible rfl)
          simp only [Act.put]
          refine Late.take (i := 13) (oi := _) (v := ?_) rfl (by kernel_rfl) (by kernel_rfl) (by kernel_rfl) (by kernel_rfl) (fun _ _ _ h => h) (Or.inl ⟨by rfl, ?_⟩) hC ?_
          rotate_left
          · (intro w hSw; (try dsimp only at hSw); go_simp; first | done | with_reducible rfl)
          simp only [Act.put]
          refine Late.one (i := 10) (o := _) (by kernel_rfl) rfl (fun K' hK' => ?_)
          go_simp
          refine (HVA.out wr.drew (Ex.refl _)).mono ?_
          rintro e W6 ⟨rfl, he6⟩
          have hx6 : Ex wr W6 := (Ex.refl wr).drew.trans he6
          have HE6 := Lib.hid (HEw.out.trans hx6)
          have HA06 := Lib.hid (HA0.out.ex hx6)
          have HA16 := Lib.hid (HA1.out.ex hx6)
          have HA26 := Lib.hid (HA2.out.ex hx6)
          have HO6 := Lib.hid (HOq.out.ex hx6)
          have HG6 := Lib.hid (HGq.out.ex hx6)
          have hun6 : W6.cell? ⟨bu, ou + a, none⟩ = some (.int .i64 u) := ((HE0.out.trans HE6.out).below.cell (p := ⟨bu, ou + a, none⟩) hbu).trans HCU.out
          have hC6 := And.intro (HO6.out.cell 1) (And.intro (HA16.out.cell 1) (And.intro hun6 (And.intro (HA06.out.cell 0) (And.intro (HA26.out.cell 0) (And.intro (HA26.out.cell 1) (HA16.out.cell 0))))))
          refine hK'.out _ _ (fun _ => hC6) (fun _ => ?_)
          clear hK' K' hC hC0 he6 hx6 hun
          try simp only [Act.put]
          refine Late.take (i := 11) (oi := _) (v := ?_) rfl (by kernel_rfl) (by kernel_rfl) (by kernel_rfl) (by kernel_rfl) (fun _ _ _ h => h) (Or.inl ⟨by rfl, ?_⟩) hC6 ?_
          rotate_left
          · (intro w hSw; (try dsimp only at hSw); go_simp; first | done | with_reducible rfl)
          simp only [Act.put]
          refine Late.one (i := 14) (o := _) (by kernel_rfl) rfl (fun K' hK' => ?_)
          go_simp
          refine (HMD.out _).mono ?_
          rintro e w' ⟨rfl, rfl⟩
          refine hK'.out _ _ (fun _ => hC6) (fun _ => ?_)
          clear hK' K'
          try simp only [Act.put]
          have HE := HE6
          have HG := HG6
          refine Late.one (i := 15) (o := _) (by kernel_rfl) rfl (fun K' hK' => ?_)
          go_simp
          have e1 := HE.out.alloc (.cells #[.int .i64 z] 2)
          have HA061 := HA06.out.alloc (.cells #[.int .i64 z] 2)
          have HA161 := HA16.out.alloc (.cells #[.int .i64 z] 2)
          have HA261 := HA26.out.alloc (.cells #[.int .i64 z] 2)
          have HO61 := HO6.out.alloc (.cells #[.int .i64 z] 2)
          have g1 := HG.out.ex (Ex.new W6 (.cells #[.int .i64 z] 2))
          have hn1 := cell_one_new W6 (.int .i64 z) 2
          have hz1 : W6.heap.size + 1 = (W6.alloc (.cells #[.int .i64 z] 2)).heap.size := by simp
          have hx1 := Ex.new W6 (.cells #[.int .i64 z] 2)
          refine hK'.out _ _ (fun _ => ⟨HO61.cell 1, HA161.cell 1, (hx1.below.cell (p := ⟨bu, ou + a, none⟩) (by have := (HE0.out.trans HE6.out).size; show bu < _; omega)).trans hun6, HA061.cell 0, HA261.cell 0, HA261.cell 1, HA161.cell 0⟩) (fun _ => ?_)
          clear hK' K'
          generalize W6.alloc (.cells #[.int .i64 z] 2) = w1 at *
          try simp only [Act.put]
          refine Late.one (i := 16) (o := _) (by kernel_rfl) rfl (fun K' hK' => ?_)
          rw [if_pos (by rfl)]
          refine wp_append_own _ _ _ 25 rfl W0.heap.size 2 i0 (.int .i64 0) 1 8 Tryd.underlying25 hi hi0 hi1 hi2 rfl (by decide) _ _ _ rfl g1.1 ⟨W6.heap.size, 0, none⟩ 1 1 [.int .i64 z] rfl rfl hn1 (by simp [Value.oneCell']) (by unfold maxLen; omega) (by omega) (by have := e1.size; omega) ?_
          intro v' w3 hown3 hgrow3 _
          obtain ⟨g3, cap3, rfl⟩ := ownsRow_succ hown3
          have HE3 := Lib.hid (Ex.grew e1 g1 (Nat.le_refl _) hgrow3)
          have HA063 := Lib.hid (Has.grew HA061 (by decide) g1 hgrow3)
          have HA163 := Lib.hid (Has.grew HA161 (by decide) g1 hgrow3)
          have HA263 := Lib.hid (Has.grew HA261 (by decide) g1 hgrow3)
          have HO63 := Lib.hid (Has.grew HO61 (by decide) g1 hgrow3)
          have HG3 := Lib.hid (g1.snoc hown3)
          have c33 := HO63.out.cell 1
          have f33 := HO63.out.free 1
          refine hK'.out _ _ (fun _ => ⟨HO63.out.cell 1, HA163.out.cell 1, ((HE0.out.trans HE3.out).below.cell (p := ⟨bu, ou + a, none⟩) hbu).trans HCU.out, HA063.out.cell 0, HA263.out.cell 0, HA263.out.cell 1, HA163.out.cell 0⟩) (fun _ => ?_)
          clear hK' K' hown3 hgrow3 g1 e1 hn1 hx1 HA061 HA161 HA261 HO61
          try simp only [Act.put]
          refine Late.one (i := 17) (o := _) (by kernel_rfl) rfl (fun K' hK' => ?_)
          go_simp
          refine hK'.out _ _ (fun h => by cases h) (fun _ => ?_)
          clear hK' K'
          try simp only [Act.put]
          refine Late.one (i := 18) (o := _) (by kernel_rfl) rfl (fun K' hK' => ?_)
          go_simp
          refine hK'.out _ _ (fun h => by cases h) (fun _ => ?_)
          clear hK' K'
          try simp only [Act.put]
          refine Late.done (by kernel_rfl) ?_ _
          go_wp2_with fail
          refine ⟨?rel, ?measure⟩
          case rel =>
            refine ⟨k + 1, _, by omega, by go_num, Lib.hid (HE3.out.setCell (p := ⟨D, 1, none⟩) hD _), Lib.hid (by simpa using HO63.out.put 1 _), Lib.hid ?_⟩
            rw [List.range_succ, List.map_append, List.map_cons, List.map_nil, HMV.out]
            exact HG3.out.set HO63.out (by decide) _ _
          case measure => simp [intOf]; omega
    · obtain rfl : cn = k := by omega
      obtain ⟨A', n', ev, hO⟩ := HG2.out.own
      have hln : ((List.range cn).map fun k => movV t M us fs d k b a).length = cn := by simp
      rw [hln] at ev
      subst ev
      have cO := HO2.out.cell 0
      have cO' := HO2.out.cell 1
      have HR3 := Lib.hid (HB3.out.ex HE2.out)
      have c3 := HR3.out.cell 0
      have c3' := HR3.out.cell 1
      have f3 := HR3.out.free 0
      have f3' := HR3.out.free 1
      have HOO := Lib.hid hO
      have hz0 := HE0.out.size
      have hlt3 := HB3.out.lt
      clear hO hln
      go_wp2_with fail
      have H4 := HR3.out.put2 (u := .int .i64 (d : Int)) (v := .slice A' cn n')
      have c4 := H4.cell 0
      have c4' := H4.cell 1
      refine bodyPost_ret (v := .agg #[.int .i64 (d : Int), .slice A' cn n']) (by simp [results, Tryd.results84, go_sem, c4, c4']) rfl ⟨A', n', rfl, ((HE0.out.trans HE2.out).setCell (by show w.heap.size ≤ w.heap.size + 1 + 1 + 1; omega) _).setCell (by show w.heap.size ≤ w.heap.size + 1 + 1 + 1; omega) _, ?_⟩
      exact ((HOO.out.above (Only.set _ _ _ _) hlt3).above (Only.set _ _ _ _) hlt3).mono hz0 (by simp) (Nat.le_refl _)

end Go.Proofs.YtalejhbdbclfaaaDoor
