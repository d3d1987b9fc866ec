/- AddCochains: the model's sum. -/
import Derived.Test.YtdehalkebneaoaaAq
import Derived.Test.YtdehalkebneaoaaOl
import Derived.Deep.RegionHeld3
import Derived.Deep.RegionWith
import Derived.Deep.DeepCutAuto
namespace Go.Proofs.Ytdehalkebneaoaa
open Go.RowKit

theorem GrowI.lower {w : World} {lo lo' n : Nat} {v : Value} {xs : List Int} (h : GrowI w lo v n xs) (hl : lo' ≤ lo) : GrowI w lo' v n xs := by
  refine ⟨⟨h.1.1, ?_⟩, h.2⟩
  rcases h.1.2 with h1 | ⟨g, cap, cur, h1, h2, h3⟩
  · exact .inl h1
  · exact .inr ⟨g, cap, cur, h1, Nat.le_trans hl h2, h3⟩

/-- The sum, as far as it has come. -/
def partL (m : Int) (fs gs : List Int) (k : Int) (j : Nat) : List Int := (List.range fs.length).map fun i => if i < j then (nth fs i + k * nth gs i) % m else nth fs i
theorem partL_len (m : Int) (fs gs : List Int) (k : Int) (j : Nat) : (partL m fs gs k j).length = fs.length := by simp [partL]
theorem partL_at (m : Int) (fs gs : List Int) (k : Int) {i j : Nat} (h : i < fs.length) : nth (partL m fs gs k j) i = if i < j then (nth fs i + k * nth gs i) % m else nth fs i := by simp [partL, nth, h]
theorem partL_zero (m : Int) (fs gs : List Int) (k : Int) : partL m fs gs k 0 = fs :=
  eq_of_nth (partL_len ..) fun j hj => by rw [partL_at _ _ _ _ (by rw [partL_len] at hj; exact hj), if_neg (by omega)]
theorem partL_all (m : Int) (fs gs : List Int) (k : Int) : partL m fs gs k fs.length = sumL m fs gs k :=
  eq_of_nth (by rw [partL_len, sumL_len]) fun j hj => by
    rw [partL_len] at hj
    rw [partL_at _ _ _ _ hj, if_pos hj, sumL_at _ _ _ _ hj]
theorem partL_set (m : Int) (fs gs : List Int) (k : Int) {j : Nat} (h : j < fs.length) : (partL m fs gs k j).set j ((nth fs j + k * nth gs j) % m) = partL m fs gs k (j + 1) :=
  eq_of_nth (by rw [List.length_set, partL_len, partL_len]) fun i hi => by
    rw [List.length_set, partL_len] at hi
    rw [partL_at _ _ _ _ hi]
    by_cases hij : i = j
    · subst hij
      rw [nth_set_same (by rw [partL_len]; exact hi), if_pos (by omega)]
    · rw [nth_set_other hij, partL_at _ _ _ _ hi]
      by_cases h1 : i < j
      · rw [if_pos h1, if_pos (by omega)]
      · rw [if_neg h1, if_neg (by omega)]

set_option maxRecDepth 100000 in
set_option maxHeartbeats 4000000 in
theorem l03Add_any (B1 B2 B3 : Option Addr) (M : Nat) (us fs gs : List Int) (n n' k : Int) (d1 d2 d3 : Nat) (w : World) (hF : IntsW w B2 fs) (hG : IntsW w B3 gs) (hM : 0 < M) (hM12 : M ≤ 12) (hl : fs.length ≤ gs.length) (hx : fs.length ≤ 1048576) (hfr : InR M fs) (hgr : InR M gs) (hk0 : -1000 ≤ k) (hk1 : k ≤ 1000) :
    Calls Try.prog 93 #[.agg #[.int .i64 (M : Int), .slice B1 us.length d1], .agg #[.int .i64 n, .slice B2 fs.length d2], .agg #[.int .i64 n', .slice B3 gs.length d3], .int .i64 k] w fun e w' =>
      ∃ A' c', e = .returned (.agg #[.int .i64 n, .slice A' fs.length c']) ∧ Ex w w' ∧ OwnL w' w.heap.size w'.heap.size A' (sumL (M : Int) fs gs k) := by
  have e0 : Ex w ((((w.alloc (.cells #[.int .i64 (M : Int), .slice B1 us.length d1] 36)).alloc (.cells #[.int .i64 n, .slice B2 fs.length d2] 66)).alloc (.cells #[.int .i64 n', .slice B3 gs.length d3] 66)).alloc (.cells #[.int .i64 0, .slice none 0 0] 66)) := ((((Ex.refl w).alloc _).alloc _).alloc _).alloc _
  have b0 : Has ((((w.alloc (.cells #[.int .i64 (M : Int), .slice B1 us.length d1] 36)).alloc (.cells #[.int .i64 n, .slice B2 fs.length d2] 66)).alloc (.cells #[.int .i64 n', .slice B3 gs.length d3] 66)).alloc (.cells #[.int .i64 0, .slice none 0 0] 66)) (w.heap.size) 36 #[.int .i64 (M : Int), .slice B1 us.length d1] := ((((Has.newAt (w := w) (e := 36) (cs := #[.int .i64 (M : Int), .slice B1 us.length d1]) (k := w.heap.size) (by simp)).alloc _).alloc _).alloc _)
  have b1 : Has ((((w.alloc (.cells #[.int .i64 (M : Int), .slice B1 us.length d1] 36)).alloc (.cells #[.int .i64 n, .slice B2 fs.length d2] 66)).alloc (.cells #[.int .i64 n', .slice B3 gs.length d3] 66)).alloc (.cells #[.int .i64 0, .slice none 0 0] 66)) (w.heap.size + 1) 66 #[.int .i64 n, .slice B2 fs.length d2] := (((Has.newAt (w := (w.alloc (.cells #[.int .i64 (M : Int), .slice B1 us.length d1] 36))) (e := 66) (cs := #[.int .i64 n, .slice B2 fs.length d2]) (k := w.heap.size + 1) (by simp)).alloc _).alloc _)
  have b2 : Has ((((w.alloc (.cells #[.int .i64 (M : Int), .slice B1 us.length d1] 36)).alloc (.cells #[.int .i64 n, .slice B2 fs.length d2] 66)).alloc (.cells #[.int .i64 n', .slice B3 gs.length d3] 66)).alloc (.cells #[.int .i64 0, .slice none 0 0] 66)) (w.heap.size + 1 + 1) 66 #[.int .i64 n', .slice B3 gs.length d3] := ((Has.newAt (w := ((w.alloc (.cells #[.int .i64 (M : Int), .slice B1 us.length d1] 36)).alloc (.cells #[.int .i64 n, .slice B2 fs.length d2] 66))) (e := 66) (cs := #[.int .i64 n', .slice B3 gs.length d3]) (k := w.heap.size + 1 + 1) (by simp)).alloc _)
  have b3 : Has ((((w.alloc (.cells #[.int .i64 (M : Int), .slice B1 us.length d1] 36)).alloc (.cells #[.int .i64 n, .slice B2 fs.length d2] 66)).alloc (.cells #[.int .i64 n', .slice B3 gs.length d3] 66)).alloc (.cells #[.int .i64 0, .slice none 0 0] 66)) (w.heap.size + 1 + 1 + 1) 66 #[.int .i64 0, .slice none 0 0] := (Has.newAt (w := (((w.alloc (.cells #[.int .i64 (M : Int), .slice B1 us.length d1] 36)).alloc (.cells #[.int .i64 n, .slice B2 fs.length d2] 66)).alloc (.cells #[.int .i64 n', .slice B3 gs.length d3] 66))) (e := 66) (cs := #[.int .i64 0, .slice none 0 0]) (k := w.heap.size + 1 + 1 + 1) (by simp))
  have HF := Lib.hid (hF.ex e0)
  have HG := Lib.hid (hG.ex e0)
  have HFR := Lib.hid hfr
  have HGR := Lib.hid hgr
  have HE0 := Lib.hid e0
  clear hF hG hfr hgr
  go_enter Try.func93, Try.ntmps93
  go_upto_region 1 with (fail)
  generalize ((((w.alloc (.cells #[.int .i64 (M : Int), .slice B1 us.length d1] 36)).alloc (.cells #[.int .i64 n, .slice B2 fs.length d2] 66)).alloc (.cells #[.int .i64 n', .slice B3 gs.length d3] 66)).alloc (.cells #[.int .i64 0, .slice none 0 0] 66)) = W0 at *
  have HB0 := Lib.hid b0
  have HB1 := Lib.hid b1
  have HB2 := Lib.hid b2
  have HB3 := Lib.hid b3
  have hz0 := HE0.out.size
  have hlt3 := b3.lt
  clear b0 b1 b2 b3 e0
  have HK := Lib.hid (fun (W' : World) (hb : Ex W0.drew W') => (⟨(Has.ex (w := W0.drew) HB1.out hb).cell 0, (Has.ex (w := W0.drew) HB1.out hb).cell 1⟩ : W'.cell? ⟨w.heap.size + 1, 0, none⟩ = some (.int .i64 n) ∧ W'.cell? ⟨w.heap.size + 1, 1, none⟩ = some (.slice B2 fs.length d2)))
  go_cut [9] (fun s9 wx => ∃ (g : Nat) (AA4 : Option Addr) (cc4 : Nat), s9 = .pointer (some ⟨g, 0, none⟩) ∧ Ex W0 wx ∧ W0.heap.size ≤ g ∧ Has wx g 66 #[.int .i64 n, .slice AA4 fs.length cc4] ∧ GrowI wx W0.heap.size (.slice AA4 fs.length cc4) fs.length fs)
  case first =>
    go_region_held3 (fun w' : World => w'.cell? ⟨w.heap.size + 1, 0, none⟩ = some (.int .i64 n) ∧ w'.cell? ⟨w.heap.size + 1, 1, none⟩ = some (.slice B2 fs.length d2))
      (first
        | exact HK.out _ (Ex.refl _)
        | exact HK.out _ (by assumption)
        | exact HK.out _ (by first | exact Ex.alloc (Ex.refl _) _ | exact Ex.alloc (by assumption) _)
        | exact HK.out _ (by repeat (first | exact Ex.refl _ | assumption | refine Ex.alloc ?_ _ | refine Ex.setCell ?_ (by first | assumption | exact Ex.size (by assumption) | exact Nat.le_trans (Ex.size (by assumption)) (by simp)) _)))
      ((go_at_call 117; refine (l01Own_sl B2 fs d2 _ (HF.out.ex (by first | exact (Ex.refl W0).drew | exact (Ex.refl W0).drew.alloc _)) hx).mono ?_; rintro e V ⟨AA4, cc4, rfl, hv, hg⟩; have ht : Ex W0.drew V := Ex.trans (by first | exact Ex.refl _ | exact Ex.alloc (Ex.refl _) _) hv; (first | (have hbw := Has.bornD (T := 66) (cs := #[.int .i64 0, .slice none 0 0]) hv; have hbx := hbw.1; have hbl := hbw.2.1; have hbz := hbw.2.2; have cb0 := hbx.cell 0; have cb1 := hbx.cell 1; have fb0 := hbx.free 0; have fb1 := hbx.free 1) | skip)))
    all_goals
      go_wp2_with fail
      go_meet
      refine ⟨_, AA4, cc4, rfl, ?_, ?_, ?_, ?_⟩
      · exact (Ex.refl W0).drew.trans (by repeat (first | exact ht | refine Ex.alloc ?_ _ | refine Ex.setCell ?_ (by first | assumption | exact Ex.size (by assumption) | exact Nat.le_trans (Ex.size (by assumption)) (by simp)) _))
      · first | exact Nat.le_refl _ | exact ht.size
      · first | exact Has.new _ _ _ | exact hbx.put2
      · first | exact (hg.lower (Nat.le_refl _)).ex (Ex.new _ _) | exact ((hg.lower (Nat.le_trans (Nat.le_refl _) hbl)).set hbx (by decide) 0 _).set (hbx.put 0 _) (by decide) 1 _ | exact ((hg.lower (by have := hbl; simp at this ⊢)).set hbx (by decide) 0 _).set (hbx.put 0 _) (by decide) 1 _
  obtain ⟨W1, rfl⟩ : ∃ x : World, x = wc := ⟨_, rfl⟩
  obtain ⟨g, AA4, cc4, rfl, he1, hg1, hb1, hgr1⟩ := hcut
  have HE1 := Lib.hid he1
  have HBG := Lib.hid hb1
  have HGR1 := Lib.hid hgr1
  have HPZ := Lib.hid (partL_zero (M : Int) fs gs k)
  clear HK he1 hb1 hgr1
  go_wp2_with fail
  go_loopw [10] (fun i wr => ∃ j : Nat, j ≤ fs.length ∧ i = .int .i64 (j : Int) ∧ Hid (Ex W0 wr) ∧ Hid (Has wr g 66 #[.int .i64 n, .slice AA4 fs.length cc4]) ∧ Hid (GrowI wr W0.heap.size (.slice AA4 fs.length cc4) fs.length (partL (M : Int) fs gs k j))) (fun i _ => fs.length - (intOf i).toNat)
  case atStart => exact ⟨0, Nat.zero_le _, rfl, HE1, HBG, by rw [HPZ.out]; exact HGR1⟩
  case round =>
    obtain ⟨j, hj, rfl, HE, HB, HG2⟩ := hrel
    have cg1 := HB.out.cell 1
    by_cases hlt : j < fs.length
    · have hlt2 : j < gs.length := by omega
      obtain ⟨gv, cv, ev, hlo, hvl, hcv, hfv⟩ := HG2.out.row (by omega)
      cases ev
      obtain ⟨bx, ox, rfl, hbx, hcx⟩ := HF.out.ints.at_ hlt
      obtain ⟨by_, oy, rfl, hby, hcy⟩ := HG.out.ints.at_ hlt2
      have hr1 := HFR.out j hlt
      have hr2 := HGR.out j hlt2
      have hxc : wr.cell? ⟨bx, ox + j, none⟩ = some (.int .i64 (nth fs j)) := (HE.out.below.cell (p := ⟨bx, ox + j, none⟩) hbx).trans hcx
      have hyc : wr.cell? ⟨by_, oy + j, none⟩ = some (.int .i64 (nth gs j)) := (HE.out.below.cell (p := ⟨by_, oy + j, none⟩) hby).trans hcy
      have HPS := Lib.hid (partL_set (M : Int) fs gs k hlt)
      have hne := HG2.out.apart HB.out (by decide)
      have hvc := hcv j hlt
      have hvf := hfv j
      obtain ⟨u, hu⟩ : ∃ u : Nat, nth gs j = (u : Int) := ⟨(nth gs j).toNat, by omega⟩
      obtain ⟨f, hf⟩ : ∃ f : Nat, nth fs j = (f : Int) := ⟨(nth fs j).toNat, by omega⟩
      rw [hu] at hyc hr2 HPS
      rw [hf] at hxc hr1 HPS
      have hmb := mulBound (u := u) hk0 hk1 (by omega)
      obtain ⟨z, hz⟩ : ∃ z, k * (u : Int) = z := ⟨_, rfl⟩
      rw [hz] at hmb HPS
      have hw1 : IntKind.i64.wrap z = z := IntWalk.i64_in _ (by omega)
      obtain ⟨y, hy⟩ : ∃ y, (f : Int) + z = y := ⟨_, rfl⟩
      rw [hy] at HPS
      have hw2 : IntKind.i64.wrap y = y := IntWalk.i64_in _ (by omega)
      obtain ⟨r, hr⟩ : ∃ r, y % (M : Int) = r := ⟨_, rfl⟩
      have HMD := Lib.hid (fun W => l01Mod_w y M W hM hM12 (by omega) (by omega))
      rw [hr] at HPS HMD
      have hj0 : (0 : Int) ≤ (j : Int) := by omega
      have hjn : (j : Int) < (fs.length : Int) := by omega
      have hjg : (j : Int) < (gs.length : Int) := by omega
      have c00 := (HB0.out.ex HE.out).cell 0
      have c11 := (HB1.out.ex HE.out).cell 1
      have c21 := (HB2.out.ex HE.out).cell 1
      have HS0 := Lib.hid (⟨cg1, c11, c21, c00, hxc, hyc⟩ : wr.cell? ⟨g, 1, none⟩ = some (.slice (some ⟨gv, 0, none⟩) fs.length cc4) ∧ wr.cell? ⟨w.heap.size + 1, 1, none⟩ = some (.slice (some ⟨bx, ox, none⟩) fs.length d2) ∧ wr.cell? ⟨w.heap.size + 1 + 1, 1, none⟩ = some (.slice (some ⟨by_, oy, none⟩) gs.length d3) ∧ wr.cell? ⟨w.heap.size, 0, none⟩ = some (.int .i64 (M : Int)) ∧ wr.cell? ⟨bx, ox + j, none⟩ = some (.int .i64 (f : Int)) ∧ wr.cell? ⟨by_, oy + j, none⟩ = some (.int .i64 (u : Int)))
      have hoff : ∀ b o, b ≠ gv → (wr.setCell ⟨gv, j, none⟩ (.int .i64 r)).cell? ⟨b, o, none⟩ = wr.cell? ⟨b, o, none⟩ := fun b o hb => cell_of_block (Below.heap_setCell wr _ _ b hb) o
      have HS1 := Lib.hid (⟨(hoff _ _ hne).trans cg1, (hoff _ _ (by omega)).trans c11, (hoff _ _ (by omega)).trans c21, (hoff _ _ (by omega)).trans c00, (hoff _ _ (by omega)).trans hxc, (hoff _ _ (by omega)).trans hyc⟩ : (fun w' : World => w'.cell? ⟨g, 1, none⟩ = some (.slice (some ⟨gv, 0, none⟩) fs.length cc4) ∧ w'.cell? ⟨w.heap.size + 1, 1, none⟩ = some (.slice (some ⟨bx, ox, none⟩) fs.length d2) ∧ w'.cell? ⟨w.heap.size + 1 + 1, 1, none⟩ = some (.slice (some ⟨by_, oy, none⟩) gs.length d3) ∧ w'.cell? ⟨w.heap.size, 0, none⟩ = some (.int .i64 (M : Int)) ∧ w'.cell? ⟨bx, ox + j, none⟩ = some (.int .i64 (f : Int)) ∧ w'.cell? ⟨by_, oy + j, none⟩ = some (.int .i64 (u : Int))) (wr.setCell ⟨gv, j, none⟩ (.int .i64 r)).drew)
      clear hcx hcy hr1 hr2 hu hf hr hcv hfv c00 c11 c21 hxc hyc hoff
      go_wp2_with fail
      go_region_held3 (fun w' : World => w'.cell? ⟨g, 1, none⟩ = some (.slice (some ⟨gv, 0, none⟩) fs.length cc4) ∧ w'.cell? ⟨w.heap.size + 1, 1, none⟩ = some (.slice (some ⟨bx, ox, none⟩) fs.length d2) ∧ w'.cell? ⟨w.heap.size + 1 + 1, 1, none⟩ = some (.slice (some ⟨by_, oy, none⟩) gs.length d3) ∧ w'.cell? ⟨w.heap.size, 0, none⟩ = some (.int .i64 (M : Int)) ∧ w'.cell? ⟨bx, ox + j, none⟩ = some (.int .i64 (f : Int)) ∧ w'.cell? ⟨by_, oy + j, none⟩ = some (.int .i64 (u : Int)))
        (first
          | exact HS0.out
          | exact HS1.out)
        ((go_at_call 118; refine (HMD.out _).mono ?_; rintro e w' ⟨rfl, rfl⟩))
      go_wp2_with fail
      go_roundw
      case rel =>
        refine ⟨j + 1, by omega, by go_num, Lib.hid (HE.out.setCell (p := ⟨gv, j, none⟩) hlo _).drew, Lib.hid (show Has _ _ _ _ from HB.out.far (p := ⟨gv, j, none⟩) hne _), Lib.hid ?_⟩
        rw [← HPS.out]
        exact (HG2.out.put j r).ex (Ex.refl _).drew
      case measure => simp [intOf]; omega
    · obtain rfl : j = fs.length := by omega
      have cg0 := HB.out.cell 0
      have HR3 := Lib.hid (HB3.out.ex HE.out)
      have c3 := HR3.out.cell 0
      have c3' := HR3.out.cell 1
      have f3 := HR3.out.free 0
      have f3' := HR3.out.free 1
      obtain ⟨A5, c5, e5, hO⟩ := HG2.out.own
      rw [partL_len] at e5
      cases e5
      have HPA := Lib.hid (partL_all (M : Int) fs gs k)
      have HO := Lib.hid hO
      clear hO
      go_wp2_with fail
      have H4 := HR3.out.put2 (u := .int .i64 n) (v := .slice AA4 fs.length cc4)
      have c4 := H4.cell 0
      have c4' := H4.cell 1
      refine bodyPost_ret (v := .agg #[.int .i64 n, .slice AA4 fs.length cc4]) (by simp [results, Try.results93, go_sem, c4, c4']) rfl ⟨AA4, cc4, rfl, ((HE0.out.trans HE.out).setCell (by show w.heap.size ≤ w.heap.size + 1 + 1 + 1; omega) _).setCell (by show w.heap.size ≤ w.heap.size + 1 + 1 + 1; omega) _, ?_⟩
      rw [← HPA.out]
      exact ((HO.out.above (Only.set _ _ _ _) hlt3).above (Only.set _ _ _ _) hlt3).mono hz0 (by simp) (Nat.le_refl _)

end Go.Proofs.Ytdehalkebneaoaa
