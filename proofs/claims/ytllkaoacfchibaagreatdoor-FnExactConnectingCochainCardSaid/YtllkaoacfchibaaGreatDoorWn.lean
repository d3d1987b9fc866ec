/- Chapter 8: l08Connect: the boundary's values divided, by the specification. -/
import Derived.Test.YtllkaoacfchibaaGreatDoorWl
import Derived.Test.YtllkaoacfchibaaGreatDoorWm
import Derived.Test.YtllkaoacfchibaaGreatDoorSf
namespace Go.Proofs.YtllkaoacfchibaaGreatDoor
open Go.RowKit

/-- The first k values divided. -/
def mixL (ys : List Int) (q k : Nat) : List Int := (List.range ys.length).map fun i => if i < k then nth ys i / (q : Int) else nth ys i
section
variable {ys : List Int} {q k : Nat}
theorem mixL_len : (mixL ys q k).length = ys.length := by simp [mixL]
theorem mixL_zero : mixL ys q 0 = ys := by
  refine List.ext_getElem (by simp [mixL]) fun i h1 h2 => ?_
  simp [mixL, nth, h2]
theorem mixL_all : mixL ys q ys.length = dvL ys q := by
  unfold mixL dvL
  refine List.map_congr_left fun i hi => ?_
  rw [if_pos (List.mem_range.1 hi)]
theorem mixL_at (h : k < ys.length) : nth (mixL ys q k) k = nth ys k := by simp [mixL, nth, h]
theorem mixL_set : (mixL ys q k).set k (nth ys k / (q : Int)) = mixL ys q (k + 1) := by
  refine List.ext_getElem (by simp [mixL]) fun i h1 h2 => ?_
  rw [List.getElem_set]
  by_cases hik : k = i
  · subst hik
    simp [mixL]
  · rw [if_neg hik]
    simp only [mixL, List.getElem_map, List.getElem_range]
    by_cases h3 : i < k
    · rw [if_pos h3, if_pos (by omega)]
    · rw [if_neg h3, if_neg (by omega)]
end

set_option maxRecDepth 100000 in
set_option maxHeartbeats 8000000 in
theorem l08Connect_any (A U Fa : Option Addr) (t : List (List Int)) (M K Q d : Nat) (us fs : List Int) (c c1 c2 : Nat) (w : World) (hR : RwsW w A t) (hU : IntsW w U us) (hF : IntsW w Fa fs) (hMF : ModF t M us) (hS : SeqF M K Q) (hd : d ≤ 2) (hfl : fs.length = cellsN t.length d) (hfr : InR Q fs) :
    Calls Tryz.prog 44 #[.agg #[.slice A t.length c], .agg #[.int .i64 (M : Int), .slice U us.length c1], .int .i64 (K : Int), .agg #[.int .i64 (d : Int), .slice Fa fs.length c2]] w fun e w' => ∃ C0 n0, e = .returned (.agg #[.int .i64 ((d : Int) + 1), .slice C0 (dvL (bdY t M d us fs) Q).length n0]) ∧ Ex w w' ∧ OwnL w' w.heap.size w'.heap.size C0 (dvL (bdY t M d us fs) Q) := by
  have e0 : Ex w ((((w.alloc (.cells #[.slice A t.length c] 36)).alloc (.cells #[.int .i64 (M : Int), .slice U us.length c1] 38)).alloc (.cells #[.int .i64 (d : Int), .slice Fa fs.length c2] 33)).alloc (.cells #[.int .i64 0, .slice none 0 0] 33)) := ((((Ex.refl w).alloc _).alloc _).alloc _).alloc _
  have b0 : Has ((((w.alloc (.cells #[.slice A t.length c] 36)).alloc (.cells #[.int .i64 (M : Int), .slice U us.length c1] 38)).alloc (.cells #[.int .i64 (d : Int), .slice Fa fs.length c2] 33)).alloc (.cells #[.int .i64 0, .slice none 0 0] 33)) (w.heap.size) 36 #[.slice A t.length c] := ((((Has.newAt (w := w) (e := 36) (cs := #[.slice A t.length c]) (k := w.heap.size) (by simp)).alloc _).alloc _).alloc _)
  have b1 : Has ((((w.alloc (.cells #[.slice A t.length c] 36)).alloc (.cells #[.int .i64 (M : Int), .slice U us.length c1] 38)).alloc (.cells #[.int .i64 (d : Int), .slice Fa fs.length c2] 33)).alloc (.cells #[.int .i64 0, .slice none 0 0] 33)) (w.heap.size + 1) 38 #[.int .i64 (M : Int), .slice U us.length c1] := (((Has.newAt (w := (w.alloc (.cells #[.slice A t.length c] 36))) (e := 38) (cs := #[.int .i64 (M : Int), .slice U us.length c1]) (k := w.heap.size + 1) (by simp)).alloc _).alloc _)
  have b2 : Has ((((w.alloc (.cells #[.slice A t.length c] 36)).alloc (.cells #[.int .i64 (M : Int), .slice U us.length c1] 38)).alloc (.cells #[.int .i64 (d : Int), .slice Fa fs.length c2] 33)).alloc (.cells #[.int .i64 0, .slice none 0 0] 33)) (w.heap.size + 1 + 1) 33 #[.int .i64 (d : Int), .slice Fa fs.length c2] := ((Has.newAt (w := ((w.alloc (.cells #[.slice A t.length c] 36)).alloc (.cells #[.int .i64 (M : Int), .slice U us.length c1] 38))) (e := 33) (cs := #[.int .i64 (d : Int), .slice Fa fs.length c2]) (k := w.heap.size + 1 + 1) (by simp)).alloc _)
  have b3 : Has ((((w.alloc (.cells #[.slice A t.length c] 36)).alloc (.cells #[.int .i64 (M : Int), .slice U us.length c1] 38)).alloc (.cells #[.int .i64 (d : Int), .slice Fa fs.length c2] 33)).alloc (.cells #[.int .i64 0, .slice none 0 0] 33)) (w.heap.size + 1 + 1 + 1) 33 #[.int .i64 0, .slice none 0 0] := (Has.newAt (w := (((w.alloc (.cells #[.slice A t.length c] 36)).alloc (.cells #[.int .i64 (M : Int), .slice U us.length c1] 38)).alloc (.cells #[.int .i64 (d : Int), .slice Fa fs.length c2] 33))) (e := 33) (cs := #[.int .i64 0, .slice none 0 0]) (k := w.heap.size + 1 + 1 + 1) (by simp))
  have hq2 := hS.q2
  have hk2 := hS.k2
  have hQM : Q ≤ M := by have := hS.div; rw [← this]; exact Nat.div_le_self _ _
  have hm12 := hMF.m12
  have hlt := hS.lt
  have hdv : IntKind.i64.wrap ((M : Int) / (K : Int)) = (Q : Int) := by
    rw [show (M : Int) / (K : Int) = (Q : Int) by rw [← hS.div]; rfl]
    exact IntWalk.i64_in _ (by omega)
  have hdt : Int.tdiv (M : Int) (K : Int) = (Q : Int) := by rw [Int.tdiv_eq_ediv_of_nonneg (by omega), ← hS.div]; rfl
  have hwQ : IntKind.i64.wrap (Q : Int) = (Q : Int) := IntWalk.i64_in _ (by omega)
  have hne : ((K : Int) != 0) = true := by simp; omega
  have hne0 : ¬ K = 0 := by omega
  have hneQ : ((Q : Int) != 0) = true := by simp; omega
  have hneQ0 : ¬ Q = 0 := by omega
  have hLB := l03Boundary_any A U Fa t M d us fs c c1 c2 ((((w.alloc (.cells #[.slice A t.length c] 36)).alloc (.cells #[.int .i64 (M : Int), .slice U us.length c1] 38)).alloc (.cells #[.int .i64 (d : Int), .slice Fa fs.length c2] 33)).alloc (.cells #[.int .i64 0, .slice none 0 0] 33)) (hR.ex e0) (hU.ex e0) (hF.ex e0) hMF (by omega) hfl (fun i hi => ⟨(hfr i hi).1, by have := (hfr i hi).2; omega⟩)
  rw [show ((List.range (cellsN t.length (d + 1))).map fun k => bdV t M us fs (lsL t.length (d + 1) k)) = bdY t M d us fs from rfl, show cellsN t.length (d + 1) = (bdY t M d us fs).length from (bdY_len ..).symm] at hLB
  have hbl : (bdY t M d us fs).length ≤ 343 := by
    rw [bdY_len]
    exact Nat.le_trans (Nat.pow_le_pow_left (show t.length - 1 ≤ 7 by have := hMF.g.n8; omega) _) (Nat.le_trans (Nat.pow_le_pow_right (show 0 < 7 by omega) (show d + 1 ≤ 3 by omega)) (by decide))
  have HYR := Lib.hid (bdY_in (t := t) (n := d) (us := us) (fs := fs) (show 0 < M by omega))
  have HLB := Lib.hid hLB
  obtain ⟨ys, hys⟩ : ∃ ys, bdY t M d us fs = ys := ⟨_, rfl⟩
  rw [hys] at HLB HYR hbl ⊢
  have HDL : Hid ((dvL ys Q).length = ys.length) := Lib.hid dvL_len
  have HE0 := Lib.hid e0
  have HB1 := Lib.hid b1
  have HB3 := Lib.hid b3
  have k0 := b0.cell 0
  have k1 := b1.cell 0
  have k1' := b1.cell 1
  have k2 := b2.cell 0
  have k2' := b2.cell 1
  have hlb := b3.lt
  have hlw := e0.size
  clear hLB hys hR hU hF hMF hS hfl hfr b0 b1 b2 b3 e0
  go_enter Tryz.func44, Tryz.ntmps44
  go_wp2_with fail
  generalize ((((w.alloc (.cells #[.slice A t.length c] 36)).alloc (.cells #[.int .i64 (M : Int), .slice U us.length c1] 38)).alloc (.cells #[.int .i64 (d : Int), .slice Fa fs.length c2] 33)).alloc (.cells #[.int .i64 0, .slice none 0 0] 33)) = W0 at *
  refine HLB.out.mono ?_
  rintro e W1 ⟨A', n', rfl, he1, ho1⟩
  have hEn := Ex.new W1 (.cells #[.int .i64 ((d : Int) + 1), .slice A' ys.length n'] 33)
  have HX1 := Lib.hid (he1.trans hEn)
  have HB11 := Lib.hid (HB1.out.ex (he1.trans hEn))
  have HB31 := Lib.hid (HB3.out.ex (he1.trans hEn))
  have HD1 := Lib.hid (Has.new W1 33 #[.int .i64 ((d : Int) + 1), .slice A' ys.length n'])
  have HO1 := Lib.hid (ho1.ex hEn)
  have hs1 := he1.size
  have hsn := hEn.size
  obtain ⟨D, hD⟩ : ∃ D, W1.heap.size = D := ⟨_, rfl⟩
  clear he1 ho1 hEn k0 k1 k1' k2 k2' HLB
  go_upto_region 2 with fail
  rw [hD] at HD1 HO1 hs1 hsn
  generalize W1.alloc (.cells #[.int .i64 ((d : Int) + 1), .slice A' ys.length n'] 33) = W2 at *
  have HO2 : Hid (OwnL W2 W0.heap.size D A' (mixL ys Q 0)) := Lib.hid (by rw [mixL_zero]; exact HO1.out)
  have hD2 := HD1.out.lt
  clear HO1 hD
  go_wp2_with fail
  go_loopw [10] (fun i wr => ∃ k : Nat, k ≤ ys.length ∧ i = .int .i64 (k : Int) ∧ Hid (Ex W0 wr) ∧ Hid (Has wr (w.heap.size + 1) 38 #[.int .i64 (M : Int), .slice U us.length c1]) ∧ Hid (Has wr (w.heap.size + 1 + 1 + 1) 33 #[.int .i64 0, .slice none 0 0]) ∧
    Hid (Has wr D 33 #[.int .i64 ((d : Int) + 1), .slice A' ys.length n']) ∧ Hid (OwnL wr W0.heap.size D A' (mixL ys Q k))) (fun i _ => ys.length - (intOf i).toNat)
  case atStart => exact ⟨0, Nat.zero_le _, rfl, HX1, HB11, HB31, HD1, HO2⟩
  case round =>
    obtain ⟨k, hk, rfl, HE, HA1, HA3, HAD, HO⟩ := hrel
    have cD := HAD.out.cell 0
    have cD' := HAD.out.cell 1
    have cM := HA1.out.cell 0
    by_cases hlt2 : k < ys.length
    · obtain ⟨b, oo, rfl, hb1, hb2, hcx, hfz⟩ := HO.out.at_ (j := k) (by rw [mixL_len]; exact hlt2)
      rw [mixL_at hlt2] at hcx
      have hxb := HYR.out k hlt2
      have HMS := Lib.hid (mixL_set (ys := ys) (q := Q) (k := k))
      obtain ⟨x, hx⟩ : ∃ x, nth ys k = x := ⟨_, rfl⟩
      rw [hx] at hcx hxb HMS
      have hy0 := Int.ediv_nonneg hxb.1 (show (0 : Int) ≤ (Q : Int) by omega)
      have hy1 : x / (Q : Int) ≤ x := Int.ediv_le_self _ hxb.1
      obtain ⟨y, hy⟩ : ∃ y, x / (Q : Int) = y := ⟨_, rfl⟩
      have hyt : Int.tdiv x (Q : Int) = y := by rw [Int.tdiv_eq_ediv_of_nonneg hxb.1, hy]
      rw [hy] at hy0 hy1 HMS
      have hyw' : IntKind.i64.wrap y = y := IntWalk.i64_in _ (by omega)
      have hyw : IntKind.i64.wrap (x / (Q : Int)) = y := by rw [hy]; exact hyw'
      have hi0' : (0 : Int) ≤ (k : Int) := by omega
      have hin : (k : Int) < (ys.length : Int) := by omega
      clear hx hy
      go_wp2_with fail
      refine Late.region (C := fun w' => w'.cell? ⟨D, 1, none⟩ = some (.slice (some ⟨b, oo, none⟩) ys.length n') ∧ w'.cell? ⟨w.heap.size + 1, 0, none⟩ = some (.int .i64 (M : Int)) ∧ w'.cell? ⟨b, oo + k, none⟩ = some (.int .i64 x)) (fun j => decide (j < 14)) (by kernel_rfl) ⟨cD', cM, hcx⟩ (fun hC => ?_)
      refine Late.take (i := 0) (oi := _) (v := ?_) rfl (by kernel_rfl) (by kernel_rfl) (by kernel_rfl) (by kernel_rfl) (fun _ _ _ h => h) (Or.inl ⟨by rfl, ?_⟩) hC ?_
      rotate_left
      · (intro w hSw; (try dsimp only at hSw); go_simp; first | done | with_reducible rfl)
      simp only [Act.put]
      refine Late.take (i := 1) (oi := _) (v := ?_) rfl (by kernel_rfl) (by kernel_rfl) (by kernel_rfl) (by kernel_rfl) (fun _ _ _ h => h) (Or.inl ⟨by rfl, ?_⟩) hC ?_
      rotate_left
      · (intro w hSw; (try dsimp only at hSw); go_simp; first | done | with_reducible rfl)
      simp only [Act.put]
      refine Late.take (i := 2) (oi := _) (v := ?_) rfl (by kernel_rfl) (by kernel_rfl) (by kernel_rfl) (by kernel_rfl) (fun _ _ _ h => h) (Or.inl ⟨by rfl, ?_⟩) hC ?_
      rotate_left
      · (intro w hSw; (try dsimp only at hSw); go_simp; first | done | with_reducible rfl)
      simp only [Act.put]
      refine Late.take (i := 3) (oi := _) (v := ?_) rfl (by kernel_rfl) (by kernel_rfl) (by kernel_rfl) (by kernel_rfl) (fun _ _ _ h => h) (Or.inl ⟨by rfl, ?_⟩) hC ?_
      rotate_left
      · (intro w hSw; (try dsimp only at hSw); go_simp; first | done | with_reducible rfl)
      simp only [Act.put]
      refine Late.take (i := 4) (oi := _) (v := ?_) rfl (by kernel_rfl) (by kernel_rfl) (by kernel_rfl) (by kernel_rfl) (fun _ _ _ h => h) (Or.inl ⟨by rfl, ?_⟩) hC ?_
      rotate_left
      · (intro w hSw; (try dsimp only at hSw); go_simp; first | done | with_reducible rfl)
      simp only [Act.put]
      refine Late.take (i := 5) (oi := _) (v := ?_) rfl (by kernel_rfl) (by kernel_rfl) (by kernel_rfl) (by kernel_rfl) (fun _ _ _ h => h) (Or.inl ⟨by rfl, ?_⟩) hC ?_
      rotate_left
      · (intro w hSw; (try dsimp only at hSw); go_simp; first | done | with_reducible rfl)
      simp only [Act.put]
      refine Late.take (i := 6) (oi := _) (v := ?_) rfl (by kernel_rfl) (by kernel_rfl) (by kernel_rfl) (by kernel_rfl) (fun _ _ _ h => h) (Or.inl ⟨by rfl, ?_⟩) hC ?_
      rotate_left
      · (intro w hSw; (try dsimp only at hSw); go_simp; first | done | with_reducible rfl)
      simp only [Act.put]
      refine Late.take (i := 7) (oi := _) (v := ?_) rfl (by kernel_rfl) (by kernel_rfl) (by kernel_rfl) (by kernel_rfl) (fun _ _ _ h => h) (Or.inl ⟨by rfl, ?_⟩) hC ?_
      rotate_left
      · (intro w hSw; (try dsimp only at hSw); go_simp; first | done | with_reducible rfl)
      simp only [Act.put]
      refine Late.take (i := 8) (oi := _) (v := ?_) rfl (by kernel_rfl) (by kernel_rfl) (by kernel_rfl) (by kernel_rfl) (fun _ _ _ h => h) (Or.inl ⟨by rfl, ?_⟩) hC ?_
      rotate_left
      · (intro w hSw; (try dsimp only at hSw); go_simp; first | done | with_reducible rfl)
      simp only [Act.put]
      refine Late.take (i := 9) (oi := _) (v := ?_) rfl (by kernel_rfl) (by kernel_rfl) (by kernel_rfl) (by kernel_rfl) (fun _ _ _ h => h) (Or.inl ⟨by rfl, ?_⟩) hC ?_
      rotate_left
      · (intro w hSw; (try dsimp only at hSw); go_simp; first | done | with_reducible rfl)
      simp only [Act.put]
      refine Late.take (i := 10) (oi := _) (v := ?_) rfl (by kernel_rfl) (by kernel_rfl) (by kernel_rfl) (by kernel_rfl) (fun _ _ _ h => h) (Or.inl ⟨by rfl, ?_⟩) hC ?_
      rotate_left
      · (intro w hSw; (try dsimp only at hSw); go_simp; first | done | with_reducible rfl)
      simp only [Act.put]
      refine Late.take (i := 11) (oi := _) (v := ?_) rfl (by kernel_rfl) (by kernel_rfl) (by kernel_rfl) (by kernel_rfl) (fun _ _ _ h => h) (Or.inl ⟨by rfl, ?_⟩) hC ?_
      rotate_left
      · (intro w hSw; (try dsimp only at hSw); go_simp; first | done | with_reducible rfl)
      simp only [Act.put]
      refine Late.take (i := 12) (oi := _) (v := ?_) rfl (by kernel_rfl) (by kernel_rfl) (by kernel_rfl) (by kernel_rfl) (fun _ _ _ h => h) (Or.inl ⟨by rfl, ?_⟩) hC ?_
      rotate_left
      · (intro w hSw; (try dsimp only at hSw); go_simp; first | done | with_reducible rfl)
      simp only [Act.put]
      refine Late.take (i := 13) (oi := _) (v := ?_) rfl (by kernel_rfl) (by kernel_rfl) (by kernel_rfl) (by kernel_rfl) (fun _ _ _ h => h) (Or.inl ⟨by rfl, ?_⟩) hC ?_
      rotate_left
      · (intro w hSw; (try dsimp only at hSw); go_simp; first | done | with_reducible rfl)
      simp only [Act.put]
      have hcx' : wr.drew.cell? ⟨b, oo + k, none⟩ = some (.int .i64 x) := hcx
      have hfz' : wr.drew.frozen? ⟨b, oo + k, none⟩ = false := hfz
      refine Late.one (i := 14) (o := _) (by kernel_rfl) rfl (fun K' hK' => ?_)
      go_simp
      refine hK'.out _ _ (fun h => by cases h) (fun _ => ?_)
      clear hK' K' hC
      try simp only [Act.put]
      refine Late.done (by kernel_rfl) ?_ _
      have HO9 := Lib.hid ((HO.out.ex (Ex.refl wr).drew).put (j := k) (by rw [mixL_len]; exact hlt2) y)
      have HE9 := Lib.hid ((HE.out.drew).setCell (p := ⟨b, oo + k, none⟩) hb1 (.int .i64 y))
      have HA19 := Lib.hid ((HA1.out.ex (Ex.refl wr).drew).far (p := ⟨b, oo + k, none⟩) (by show w.heap.size + 1 ≠ b; omega) (.int .i64 y))
      have HA39 := Lib.hid ((HA3.out.ex (Ex.refl wr).drew).far (p := ⟨b, oo + k, none⟩) (by show w.heap.size + 1 + 1 + 1 ≠ b; omega) (.int .i64 y))
      have HAD9 := Lib.hid ((HAD.out.ex (Ex.refl wr).drew).far (p := ⟨b, oo + k, none⟩) (by show D ≠ b; omega) (.int .i64 y))
      clear hcx hfz hcx' hfz' cD cD' cM
      go_wp2_with fail
      go_roundw
      case rel => exact ⟨k + 1, by omega, by go_num, HE9, HA19, HA39, HAD9, by rw [← HMS.out]; exact HO9⟩
      case measure => simp [intOf]; omega
    · obtain rfl : k = ys.length := by omega
      have f4 := HA3.out.free 0
      have f4' := HA3.out.free 1
      have c4 := HA3.out.cell 0
      have c4' := HA3.out.cell 1
      have HOF : Hid (OwnL wr W0.heap.size D A' (dvL ys Q)) := Lib.hid (by rw [← mixL_all]; exact HO.out)
      have hsr := HAD.out.lt
      go_wp2_with fail
      have H4 := HA3.out.put2 (u := .int .i64 ((d : Int) + 1)) (v := .slice A' ys.length n')
      have c4 := H4.cell 0
      have c4' := H4.cell 1
      refine bodyPost_ret (v := .agg #[.int .i64 ((d : Int) + 1), .slice A' ys.length n']) (by simp [results, Tryz.results44, go_sem, c4, c4']) rfl ⟨A', n', by rw [HDL.out], ((HE0.out.trans HE.out).setCell (by show w.heap.size ≤ w.heap.size + 1 + 1 + 1; omega) _).setCell (by show w.heap.size ≤ w.heap.size + 1 + 1 + 1; omega) _, ?_⟩
      exact ((HOF.out.above (Only.set _ _ _ _) (by omega)).above (Only.set _ _ _ _) (by omega)).mono (by omega) (by simp; omega) (Nat.le_refl _)

end Go.Proofs.YtllkaoacfchibaaGreatDoor
