/- IsSymmetric and FormOf: the specification's side. -/
import Derived.Test.YtcdijeeabgmgmaaDoorA2
import Derived.Test.YtcdijeeabgmgmaaDoorA6
import Derived.Test.YtcdijeeabgmgmaaDoorA9
namespace Go.Proofs.YtcdijeeabgmgmaaDoor
open Go.RowKit Go.Shelf

attribute [local go_sem] Oper.semAt_some

set_option maxRecDepth 100000 in
set_option maxHeartbeats 2000000 in
theorem specFormOf_ex (t0 : List (List Int)) (m1 m2 : Int) (t2 : List Int) : ∀ (B0 : Option Addr) (d0 : Nat) (B2 : Option Addr) (d2 : Nat) (W : World), RwsW W B0 t0 → IntsW W B2 t2 → SmallT t0 → t2.length ≤ 1048576 →
    Calls Tryd.prog 21 #[.agg #[.slice B0 t0.length d0], .int .i64 m1, .agg #[.int .i64 m2, .slice B2 t2.length d2]] W fun e W' => ∃ (C0 : Option Addr) (e0 : Nat), e = .returned (.tuple #[.slice C0 (yFormOf0 t0 m1 m2 t2).length e0, .int .i64 (qFormOf1 t0 m1 m2 t2)]) ∧ Ex W W' ∧ OwnT W' W.heap.size W'.heap.size C0 (yFormOf0 t0 m1 m2 t2) := by
  intro B0 d0 B2 d2 w hR hF hs hf
  have e0 : Ex w ((w.alloc (.cells #[.slice B0 t0.length d0] 32)).alloc (.cells #[.int .i64 m2, .slice B2 t2.length d2] 34)) := ((Ex.refl w).alloc _).alloc _
  have b0 : Has ((w.alloc (.cells #[.slice B0 t0.length d0] 32)).alloc (.cells #[.int .i64 m2, .slice B2 t2.length d2] 34)) (w.heap.size) 32 #[.slice B0 t0.length d0] := ((Has.newAt (w := w) (e := 32) (cs := #[.slice B0 t0.length d0]) (k := w.heap.size) (by simp)).alloc _)
  have b1 : Has ((w.alloc (.cells #[.slice B0 t0.length d0] 32)).alloc (.cells #[.int .i64 m2, .slice B2 t2.length d2] 34)) (w.heap.size + 1) 34 #[.int .i64 m2, .slice B2 t2.length d2] := (Has.newAt (w := (w.alloc (.cells #[.slice B0 t0.length d0] 32))) (e := 34) (cs := #[.int .i64 m2, .slice B2 t2.length d2]) (k := w.heap.size + 1) (by simp))
  have HFS := Lib.hid (l10Given_any B0 B2 t0 m1 m2 t2 d0 d2 _ (hR.ex e0) (hF.ex e0) hs hf)
  have HE := Lib.hid e0
  have HB0 := Lib.hid b0
  have HB1 := Lib.hid b1
  have c0 := b0.cell 0
  have c1 := b1.cell 0
  have c1' := b1.cell 1
  clear b0 b1
  by_cases hz : c10 t0 m1 m2 t2 = 0
  · obtain ⟨M, rfl, rfl, h⟩ := c10_yes hz
    have HFO := Lib.hid (fun W (he : Ex w W) => l10Form_any B0 B2 t0 M t2 d0 d2 W (hR.ex he) (hF.ex he) h)
    have HQ := Lib.hid (fo_yes hz)
    have HQL := Lib.hid (show (yFormOf0 t0 (M : Int) 2 t2).length = t0.length by rw [(fo_yes hz).1, mkT_len])
    rw [hz] at HFS
    clear hR hF hs hf hz h e0
    go_enter Tryd.func21, Tryd.ntmps21
    go_wp2_with fail
    generalize ((w.alloc (.cells #[.slice B0 t0.length d0] 32)).alloc (.cells #[.int .i64 2, .slice B2 t2.length d2] 34)) = W0 at *
    refine HFS.out.mono ?_
    rintro e W1 ⟨rfl, he1⟩
    have HE1 := Lib.hid (HE.out.trans he1)
    have k0 := (HB0.out.ex he1).cell 0
    have k1 := (HB1.out.ex he1).cell 0
    have k1' := (HB1.out.ex he1).cell 1
    clear he1 c0 c1 c1'
    go_wp2_with fail
    refine (HFO.out W1 HE1.out).mono ?_
    rintro e W5 ⟨C5, n5, rfl, he5, ho5⟩
    have HE5 := Lib.hid (HE1.out.trans he5)
    have HO5 := Lib.hid (ho5.mono HE1.out.size (Nat.le_refl _) (Nat.le_refl _))
    clear he5 ho5 k0 k1 k1'
    go_wp2_with fail
    go_ret2
    exact ⟨C5, n5, by rw [HQ.out.2, HQL.out]; rfl, HE5.out, by rw [HQ.out.1]; exact HO5.out⟩
  · have HQ := Lib.hid (fo_no hz)
    obtain ⟨C, hC⟩ : ∃ C, c10 t0 m1 m2 t2 = C := ⟨_, rfl⟩
    rw [hC] at HFS HQ hz
    have hne : (C != 0) = true := by simpa using hz
    clear hR hF hs hf hz e0 hC
    go_enter Tryd.func21, Tryd.ntmps21
    go_wp2_with fail
    generalize ((w.alloc (.cells #[.slice B0 t0.length d0] 32)).alloc (.cells #[.int .i64 m2, .slice B2 t2.length d2] 34)) = W0 at *
    refine HFS.out.mono ?_
    rintro e W1 ⟨rfl, he1⟩
    have HE1 := Lib.hid (HE.out.trans he1)
    clear he1 c0 c1 c1'
    go_wp2_with fail
    go_ret2
    exact ⟨none, 0, by rw [HQ.out.1, HQ.out.2]; rfl, HE1.out, by rw [HQ.out.1]; exact OwnT.nil _ _ _ (Nat.le_refl _)⟩

set_option maxRecDepth 100000 in
set_option maxHeartbeats 8000000 in
theorem specIsSymmetric_yes (t0 : List (List Int)) (M : Nat) (t2 : List Int) (B0 : Option Addr) (d0 : Nat) (B2 : Option Addr) (d2 : Nat) (w : World) (hR : RwsW w B0 t0) (hF : IntsW w B2 t2) (hs : SmallT t0) (hf : t2.length ≤ 1048576) (hz : c10 t0 (M : Int) 2 t2 = 0) (h : FacF t0 M t2) :
    Calls Tryd.prog 15 #[.agg #[.slice B0 t0.length d0], .int .i64 (M : Int), .agg #[.int .i64 2, .slice B2 t2.length d2]] w fun e W' => e = .returned (.tuple #[.bool (qIsSymmetric0 t0 (M : Int) 2 t2), .int .i64 (qIsSymmetric1 t0 (M : Int) 2 t2)]) ∧ Ex w W' := by
  have e0 : Ex w ((w.alloc (.cells #[.slice B0 t0.length d0] 32)).alloc (.cells #[.int .i64 2, .slice B2 t2.length d2] 34)) := ((Ex.refl w).alloc _).alloc _
  have b0 : Has ((w.alloc (.cells #[.slice B0 t0.length d0] 32)).alloc (.cells #[.int .i64 2, .slice B2 t2.length d2] 34)) (w.heap.size) 32 #[.slice B0 t0.length d0] := ((Has.newAt (w := w) (e := 32) (cs := #[.slice B0 t0.length d0]) (k := w.heap.size) (by simp)).alloc _)
  have b1 : Has ((w.alloc (.cells #[.slice B0 t0.length d0] 32)).alloc (.cells #[.int .i64 2, .slice B2 t2.length d2] 34)) (w.heap.size + 1) 34 #[.int .i64 2, .slice B2 t2.length d2] := (Has.newAt (w := (w.alloc (.cells #[.slice B0 t0.length d0] 32))) (e := 34) (cs := #[.int .i64 2, .slice B2 t2.length d2]) (k := w.heap.size + 1) (by simp))
  have HFS := Lib.hid (l10Given_any B0 B2 t0 (M : Int) 2 t2 d0 d2 _ (hR.ex e0) (hF.ex e0) hs hf)
  rw [hz] at HFS
  have hn8 := h.m.g.n8
  have hn1 := h.m.g.n1
  have HAT := Lib.hid (fun x y (hx : x < t0.length) (hy : y < t0.length) (k : Nat) W (he : Ex w W) (hb : Has W k 2 #[.int .i64 (x : Int), .int .i64 (y : Int)]) => show Calls Tryd.prog 58 #[.agg #[.slice B0 t0.length d0], .agg #[.int .i64 2, .slice B2 t2.length d2], .slice (some ⟨k, 0, none⟩) 2 2] W fun e w' => e = .returned (.int .i64 (vF t0.length t2 x y)) ∧ Ex W w' from l03At_any B0 B2 (some ⟨k, 0, none⟩) 2 t0.length t2 [(x : Int), (y : Int)] d0 d2 2 W (hF.ex he) (ints_pr hb) hn8 hn1 (by omega) rfl h.len (inR_two hx hy))
  have HQ := Lib.hid (sy_yes hz)
  have HST := Lib.hid (fun hh => syB_true (N := t0.length) (fs := t2) hh)
  have HSF := Lib.hid (fun x y (hx : x < t0.length) (hy : y < t0.length) hh => syB_false (fs := t2) hx hy hh)
  have HB0 := Lib.hid b0
  have HB1 := Lib.hid b1
  have HE := Lib.hid e0
  have c0 := b0.cell 0
  have c1 := b1.cell 0
  have c1' := b1.cell 1
  obtain ⟨N, hN⟩ : ∃ N, t0.length = N := ⟨_, rfl⟩
  obtain ⟨vf, hvf⟩ : ∃ vf, vF N t2 = vf := ⟨_, rfl⟩
  rw [hN] at HFS hn8 hn1 HAT HST HSF HB0 HB1 HE c0 c1 c1' HQ ⊢
  rw [hvf] at HAT HST HSF
  clear hR hF hs hf hz h e0 b0 b1 hN hvf
  go_enter Tryd.func15, Tryd.ntmps15
  go_wp2_with fail
  generalize ((w.alloc (.cells #[.slice B0 N d0] 32)).alloc (.cells #[.int .i64 2, .slice B2 t2.length d2] 34)) = W0 at *
  refine HFS.out.mono ?_
  rintro e W1 ⟨rfl, he1⟩
  have HE1 := Lib.hid (HE.out.trans he1)
  have HA0 := Lib.hid (HB0.out.ex he1)
  have HA1 := Lib.hid (HB1.out.ex he1)
  clear he1 c0 c1 c1' HFS HB0 HB1
  go_wp2_with fail
  go_loopw [9] (fun i wr => ∃ k : Nat, k ≤ N ∧ i = .int .i64 (k : Int) ∧ Hid (Ex W1 wr) ∧ Hid (∀ x, x < k → ∀ y, y < x → vf x y = vf y x)) (fun i _ => N - (intOf i).toNat)
  case atStart => exact ⟨0, Nat.zero_le _, rfl, Lib.hid (Ex.refl _), Lib.hid fun x hx => absurd hx (by omega)⟩
  case round =>
    obtain ⟨k, hk, rfl, HX, HP⟩ := hrel
    have c0 := (HA0.out.ex HX.out).cell 0
    by_cases hlt : k < N
    · go_wp2_with (go_at_call 57; refine (l01N_ex B0 N d0 wr (by omega)).mono ?_; rintro e wn ⟨rfl, hen⟩; have HX1 := Lib.hid (HX.out.trans hen); clear hen c0 HX)
      go_loopw [10] (fun i wr => ∃ j : Nat, j ≤ k ∧ i = .int .i64 (j : Int) ∧ Hid (Ex wn wr) ∧ Hid (∀ y, y < j → vf k y = vf y k)) (fun i _ => k - (intOf i).toNat)
      case atStart => exact ⟨0, Nat.zero_le _, rfl, Lib.hid (Ex.refl _), Lib.hid fun y hy => absurd hy (by omega)⟩
      case round =>
        obtain ⟨j, hj, rfl, HEr, HYr⟩ := hrel
        by_cases hjl : j < k
        · have hjN : j < N := by omega
          have HA1' := Lib.hid (HAT.out k j hlt hjN)
          have HA2' := Lib.hid (HAT.out j k hjN hlt)
          by_cases hm : vf k j = vf j k
          · have HVE := Lib.hid hm
            obtain ⟨u, hu⟩ : ∃ u, vf j k = u := ⟨_, rfl⟩
            rw [hu] at hm
            rw [hm] at HA1'
            rw [hu] at HA2'
            clear hm hu
            go_wp2_with fail
            have HCC := Lib.hid (fun W (he : Ex wr.drew W) => (⟨(HA0.out.ex (HX1.out.trans (HEr.out.drew.trans he))).cell 0, (HA1.out.ex (HX1.out.trans (HEr.out.drew.trans he))).cell 0, (HA1.out.ex (HX1.out.trans (HEr.out.drew.trans he))).cell 1⟩ :
              W.cell? ⟨w.heap.size, 0, none⟩ = some (.slice B0 N d0) ∧ W.cell? ⟨w.heap.size + 1, 0, none⟩ = some (.int .i64 2) ∧ W.cell? ⟨w.heap.size + 1, 1, none⟩ = some (.slice B2 t2.length d2)))
            have HA1 := Lib.hid (fun (p : Nat) W (he : Ex wr.drew W) hb => HA1'.out p W (HE1.out.trans (HX1.out.trans (HEr.out.drew.trans he))) hb)
            have HA2 := Lib.hid (fun (p : Nat) W (he : Ex wr.drew W) hb => HA2'.out p W (HE1.out.trans (HX1.out.trans (HEr.out.drew.trans he))) hb)
            have HEr := Lib.hid HEr.out.drew
            have ex_X := Ex.refl wr.drew
            have hC0 := HCC.out _ ex_X
            refine Late.region (C := fun W => W.cell? ⟨w.heap.size, 0, none⟩ = some (.slice B0 N d0) ∧ W.cell? ⟨w.heap.size + 1, 0, none⟩ = some (.int .i64 2) ∧ W.cell? ⟨w.heap.size + 1, 1, none⟩ = some (.slice B2 t2.length d2)) (fun j => decide (j < 13)) (by kernel_rfl) hC0 (fun hC => ?_)
            clear hC0 HA1' HA2'
            obtain ⟨X, hX⟩ : ∃ X, wr.drew = X := ⟨_, rfl⟩
            rw [hX] at HCC HA1 HA2 HEr ex_X hC ⊢
            clear hX
            refine Late.take (i := 0) (oi := ⟨_, _, _, _, _, _⟩) (v := ?_) rfl (by kernel_rfl) (by kernel_rfl) (by kernel_rfl) (by kernel_rfl) (fun _ _ _ h => h) (Or.inl ⟨by rfl, ?_⟩) hC ?_
            rotate_left
            · (intro w hSw; (try dsimp only at hSw); go_simp; first | done | with_reducible rfl)
            simp only [Act.put]
            refine Late.take (i := 1) (oi := ⟨_, _, _, _, _, _⟩) (v := ?_) rfl (by kernel_rfl) (by kernel_rfl) (by kernel_rfl) (by kernel_rfl) (fun _ _ _ h => h) (Or.inl ⟨by rfl, ?_⟩) hC ?_
            rotate_left
            · (intro w hSw; (try dsimp only at hSw); go_simp; first | done | with_reducible rfl)
            simp only [Act.put]
            refine Late.take (i := 2) (oi := ⟨_, _, _, _, _, _⟩) (v := ?_) rfl (by kernel_rfl) (by kernel_rfl) (by kernel_rfl) (by kernel_rfl) (fun _ _ _ h => h) (Or.inl ⟨by rfl, ?_⟩) hC ?_
            rotate_left
            · (intro w hSw; (try dsimp only at hSw); go_simp; first | done | with_reducible rfl)
            simp only [Act.put]
            refine Late.take (i := 3) (oi := ⟨_, _, _, _, _, _⟩) (v := ?_) rfl (by kernel_rfl) (by kernel_rfl) (by kernel_rfl) (by kernel_rfl) (fun _ _ _ h => h) (Or.inl ⟨by rfl, ?_⟩) hC ?_
            rotate_left
            · (intro w hSw; (try dsimp only at hSw); go_simp; first | done | with_reducible rfl)
            simp only [Act.put]
            refine Late.take (i := 6) (oi := ⟨_, _, _, _, _, _⟩) (v := ?_) rfl (by kernel_rfl) (by kernel_rfl) (by kernel_rfl) (by kernel_rfl) (fun _ _ _ h => h) (Or.inl ⟨by rfl, ?_⟩) hC ?_
            rotate_left
            · (intro w hSw; (try dsimp only at hSw); go_simp; first | done | with_reducible rfl)
            simp only [Act.put]
            refine Late.take (i := 7) (oi := ⟨_, _, _, _, _, _⟩) (v := ?_) rfl (by kernel_rfl) (by kernel_rfl) (by kernel_rfl) (by kernel_rfl) (fun _ _ _ h => h) (Or.inl ⟨by rfl, ?_⟩) hC ?_
            rotate_left
            · (intro w hSw; (try dsimp only at hSw); go_simp; first | done | with_reducible rfl)
            simp only [Act.put]
            refine Late.take (i := 8) (oi := ⟨_, _, _, _, _, _⟩) (v := ?_) rfl (by kernel_rfl) (by kernel_rfl) (by kernel_rfl) (by kernel_rfl) (fun _ _ _ h => h) (Or.inl ⟨by rfl, ?_⟩) hC ?_
            rotate_left
            · (intro w hSw; (try dsimp only at hSw); go_simp; first | done | with_reducible rfl)
            simp only [Act.put]
            refine Late.take (i := 9) (oi := ⟨_, _, _, _, _, _⟩) (v := ?_) rfl (by kernel_rfl) (by kernel_rfl) (by kernel_rfl) (by kernel_rfl) (fun _ _ _ h => h) (Or.inl ⟨by rfl, ?_⟩) hC ?_
            rotate_left
            · (intro w hSw; (try dsimp only at hSw); go_simp; first | done | with_reducible rfl)
            simp only [Act.put]
            clear hC
            refine Late.two (i := 4) (j := 10) (oi := _) (oj := _) (by kernel_rfl) rfl rfl (fun K' hK' => ?_) (fun K' hK' => ?_)
            · try rw [if_pos (by rfl)]
              go_simp
              have ex_X1 := ex_X.alloc (.cells #[.int .i64 (k : Int), .int .i64 (j : Int)] 2)
              have hb1 := Has.new X 2 #[.int .i64 (k : Int), .int .i64 (j : Int)]
              refine hK'.out _ _ (fun _ => HCC.out _ ex_X1) (fun _ => ?_)
              clear hK' K'
              obtain ⟨p_hb1, hp_hb1⟩ : ∃ q, X.heap.size = q := ⟨_, rfl⟩
              rw [hp_hb1] at hb1 ⊢
              generalize X.alloc (.cells #[.int .i64 (k : Int), .int .i64 (j : Int)] 2) = X1 at *
              try simp only [Act.put, List.setIfInBounds_toArray, List.set_cons_zero, List.set_cons_succ]
              refine Late.two (i := 5) (j := 10) (oi := _) (oj := _) (by kernel_rfl) rfl rfl (fun K' hK' => ?_) (fun K' hK' => ?_)
              · try rw [if_pos (by rfl)]
                go_simp
                refine (HA1.out _ X1 ex_X1 hb1).mono ?_
                rintro e X2 ⟨rfl, he_X2⟩
                have ex_X2 := ex_X1.trans he_X2
                refine hK'.out _ _ (fun _ => HCC.out _ ex_X2) (fun _ => ?_)
                clear hK' K'
                try simp only [Act.put, List.setIfInBounds_toArray, List.set_cons_zero, List.set_cons_succ]
                refine Late.one (i := 10) (o := _) (by kernel_rfl) rfl (fun K' hK' => ?_)
                try rw [if_pos (by rfl)]
                go_simp
                have ex_X3 := ex_X2.alloc (.cells #[.int .i64 (j : Int), .int .i64 (k : Int)] 2)
                have hb2 := Has.new X2 2 #[.int .i64 (j : Int), .int .i64 (k : Int)]
                refine hK'.out _ _ (fun _ => HCC.out _ ex_X3) (fun _ => ?_)
                clear hK' K'
                obtain ⟨p_hb2, hp_hb2⟩ : ∃ q, X2.heap.size = q := ⟨_, rfl⟩
                rw [hp_hb2] at hb2 ⊢
                generalize X2.alloc (.cells #[.int .i64 (j : Int), .int .i64 (k : Int)] 2) = X3 at *
                try simp only [Act.put, List.setIfInBounds_toArray, List.set_cons_zero, List.set_cons_succ]
                refine Late.one (i := 11) (o := _) (by kernel_rfl) rfl (fun K' hK' => ?_)
                try rw [if_pos (by rfl)]
                go_simp
                refine (HA2.out _ X3 ex_X3 hb2).mono ?_
                rintro e X4 ⟨rfl, he_X4⟩
                have ex_X4 := ex_X3.trans he_X4
                refine hK'.out _ _ (fun _ => HCC.out _ ex_X4) (fun _ => ?_)
                clear hK' K'
                try simp only [Act.put, List.setIfInBounds_toArray, List.set_cons_zero, List.set_cons_succ]
                have hCX := HCC.out _ ex_X4
                refine Late.take (i := 12) (oi := ⟨_, _, _, _, _, _⟩) (v := ?_) rfl (by kernel_rfl) (by kernel_rfl) (by kernel_rfl) (by kernel_rfl) (fun _ _ _ h => h) (Or.inl ⟨by rfl, ?_⟩) hCX ?_
                rotate_left
                · (intro w hSw; (try dsimp only at hSw); go_simp; first | done | with_reducible rfl)
                simp only [Act.put]
                refine Late.done (by kernel_rfl) ?_ _
                go_wp2_with fail
                go_roundw
                case rel => exact ⟨j + 1, by omega, by go_num, Lib.hid (HEr.out.trans ex_X4), Lib.hid (fun y hy => by
                    rcases Nat.lt_or_ge y j with hh | hh
                    · exact HYr.out y hh
                    · obtain rfl : y = j := by omega
                      exact HVE.out)⟩
                case measure => simp [intOf]; omega
              · try rw [if_pos (by rfl)]
                go_simp
                have ex_X2 := ex_X1.alloc (.cells #[.int .i64 (j : Int), .int .i64 (k : Int)] 2)
                have hb2 := Has.new X1 2 #[.int .i64 (j : Int), .int .i64 (k : Int)]
                have hb1 := hb1.alloc (.cells #[.int .i64 (j : Int), .int .i64 (k : Int)] 2)
                refine hK'.out _ _ (fun _ => HCC.out _ ex_X2) (fun _ => ?_)
                clear hK' K'
                obtain ⟨p_hb2, hp_hb2⟩ : ∃ q, X1.heap.size = q := ⟨_, rfl⟩
                rw [hp_hb2] at hb2 ⊢
                generalize X1.alloc (.cells #[.int .i64 (j : Int), .int .i64 (k : Int)] 2) = X2 at *
                try simp only [Act.put, List.setIfInBounds_toArray, List.set_cons_zero, List.set_cons_succ]
                refine Late.one (i := 5) (o := _) (by kernel_rfl) rfl (fun K' hK' => ?_)
                try rw [if_pos (by rfl)]
                go_simp
                refine (HA1.out _ X2 ex_X2 hb1).mono ?_
                rintro e X3 ⟨rfl, he_X3⟩
                have ex_X3 := ex_X2.trans he_X3
                have hb2 := hb2.ex he_X3
                refine hK'.out _ _ (fun _ => HCC.out _ ex_X3) (fun _ => ?_)
                clear hK' K'
                try simp only [Act.put, List.setIfInBounds_toArray, List.set_cons_zero, List.set_cons_succ]
                refine Late.one (i := 11) (o := _) (by kernel_rfl) rfl (fun K' hK' => ?_)
                try rw [if_pos (by rfl)]
                go_simp
                refine (HA2.out _ X3 ex_X3 hb2).mono ?_
                rintro e X4 ⟨rfl, he_X4⟩
                have ex_X4 := ex_X3.trans he_X4
                refine hK'.out _ _ (fun _ => HCC.out _ ex_X4) (fun _ => ?_)
                clear hK' K'
                try simp only [Act.put, List.setIfInBounds_toArray, List.set_cons_zero, List.set_cons_succ]
                have hCX := HCC.out _ ex_X4
                refine Late.take (i := 12) (oi := ⟨_, _, _, _, _, _⟩) (v := ?_) rfl (by kernel_rfl) (by kernel_rfl) (by kernel_rfl) (by kernel_rfl) (fun _ _ _ h => h) (Or.inl ⟨by rfl, ?_⟩) hCX ?_
                rotate_left
                · (intro w hSw; (try dsimp only at hSw); go_simp; first | done | with_reducible rfl)
                simp only [Act.put]
                refine Late.done (by kernel_rfl) ?_ _
                go_wp2_with fail
                go_roundw
                case rel => exact ⟨j + 1, by omega, by go_num, Lib.hid (HEr.out.trans ex_X4), Lib.hid (fun y hy => by
                    rcases Nat.lt_or_ge y j with hh | hh
                    · exact HYr.out y hh
                    · obtain rfl : y = j := by omega
                      exact HVE.out)⟩
                case measure => simp [intOf]; omega
            · try rw [if_pos (by rfl)]
              go_simp
              have ex_X1 := ex_X.alloc (.cells #[.int .i64 (j : Int), .int .i64 (k : Int)] 2)
              have hb2 := Has.new X 2 #[.int .i64 (j : Int), .int .i64 (k : Int)]
              refine hK'.out _ _ (fun _ => HCC.out _ ex_X1) (fun _ => ?_)
              clear hK' K'
              obtain ⟨p_hb2, hp_hb2⟩ : ∃ q, X.heap.size = q := ⟨_, rfl⟩
              rw [hp_hb2] at hb2 ⊢
              generalize X.alloc (.cells #[.int .i64 (j : Int), .int .i64 (k : Int)] 2) = X1 at *
              try simp only [Act.put, List.setIfInBounds_toArray, List.set_cons_zero, List.set_cons_succ]
              refine Late.one (i := 4) (o := _) (by kernel_rfl) rfl (fun K' hK' => ?_)
              try rw [if_pos (by rfl)]
              go_simp
              have ex_X2 := ex_X1.alloc (.cells #[.int .i64 (k : Int), .int .i64 (j : Int)] 2)
              have hb1 := Has.new X1 2 #[.int .i64 (k : Int), .int .i64 (j : Int)]
              have hb2 := hb2.alloc (.cells #[.int .i64 (k : Int), .int .i64 (j : Int)] 2)
              refine hK'.out _ _ (fun _ => HCC.out _ ex_X2) (fun _ => ?_)
              clear hK' K'
              obtain ⟨p_hb1, hp_hb1⟩ : ∃ q, X1.heap.size = q := ⟨_, rfl⟩
              rw [hp_hb1] at hb1 ⊢
              generalize X1.alloc (.cells #[.int .i64 (k : Int), .int .i64 (j : Int)] 2) = X2 at *
              try simp only [Act.put, List.setIfInBounds_toArray, List.set_cons_zero, List.set_cons_succ]
              refine Late.one (i := 5) (o := _) (by kernel_rfl) rfl (fun K' hK' => ?_)
              try rw [if_pos (by rfl)]
              go_simp
              refine (HA1.out _ X2 ex_X2 hb1).mono ?_
              rintro e X3 ⟨rfl, he_X3⟩
              have ex_X3 := ex_X2.trans he_X3
              have hb2 := hb2.ex he_X3
              refine hK'.out _ _ (fun _ => HCC.out _ ex_X3) (fun _ => ?_)
              clear hK' K'
              try simp only [Act.put, List.setIfInBounds_toArray, List.set_cons_zero, List.set_cons_succ]
              refine Late.one (i := 11) (o := _) (by kernel_rfl) rfl (fun K' hK' => ?_)
              try rw [if_pos (by rfl)]
              go_simp
              refine (HA2.out _ X3 ex_X3 hb2).mono ?_
              rintro e X4 ⟨rfl, he_X4⟩
              have ex_X4 := ex_X3.trans he_X4
              refine hK'.out _ _ (fun _ => HCC.out _ ex_X4) (fun _ => ?_)
              clear hK' K'
              try simp only [Act.put, List.setIfInBounds_toArray, List.set_cons_zero, List.set_cons_succ]
              have hCX := HCC.out _ ex_X4
              refine Late.take (i := 12) (oi := ⟨_, _, _, _, _, _⟩) (v := ?_) rfl (by kernel_rfl) (by kernel_rfl) (by kernel_rfl) (by kernel_rfl) (fun _ _ _ h => h) (Or.inl ⟨by rfl, ?_⟩) hCX ?_
              rotate_left
              · (intro w hSw; (try dsimp only at hSw); go_simp; first | done | with_reducible rfl)
              simp only [Act.put]
              refine Late.done (by kernel_rfl) ?_ _
              go_wp2_with fail
              go_roundw
              case rel => exact ⟨j + 1, by omega, by go_num, Lib.hid (HEr.out.trans ex_X4), Lib.hid (fun y hy => by
                  rcases Nat.lt_or_ge y j with hh | hh
                  · exact HYr.out y hh
                  · obtain rfl : y = j := by omega
                    exact HVE.out)⟩
              case measure => simp [intOf]; omega
          · have HSN := Lib.hid (HSF.out k j hlt hjN hm)
            obtain ⟨v, hv⟩ : ∃ v, vf k j = v := ⟨_, rfl⟩
            obtain ⟨u, hu⟩ : ∃ u, vf j k = u := ⟨_, rfl⟩
            rw [hv] at HA1' hm
            rw [hu] at HA2' hm
            have hne : (v != u) = true := by simpa using hm
            clear hm hv hu
            go_wp2_with fail
            have HCC := Lib.hid (fun W (he : Ex wr.drew W) => (⟨(HA0.out.ex (HX1.out.trans (HEr.out.drew.trans he))).cell 0, (HA1.out.ex (HX1.out.trans (HEr.out.drew.trans he))).cell 0, (HA1.out.ex (HX1.out.trans (HEr.out.drew.trans he))).cell 1⟩ :
              W.cell? ⟨w.heap.size, 0, none⟩ = some (.slice B0 N d0) ∧ W.cell? ⟨w.heap.size + 1, 0, none⟩ = some (.int .i64 2) ∧ W.cell? ⟨w.heap.size + 1, 1, none⟩ = some (.slice B2 t2.length d2)))
            have HA1 := Lib.hid (fun (p : Nat) W (he : Ex wr.drew W) hb => HA1'.out p W (HE1.out.trans (HX1.out.trans (HEr.out.drew.trans he))) hb)
            have HA2 := Lib.hid (fun (p : Nat) W (he : Ex wr.drew W) hb => HA2'.out p W (HE1.out.trans (HX1.out.trans (HEr.out.drew.trans he))) hb)
            have HEr := Lib.hid HEr.out.drew
            have ex_X := Ex.refl wr.drew
            have hC0 := HCC.out _ ex_X
            refine Late.region (C := fun W => W.cell? ⟨w.heap.size, 0, none⟩ = some (.slice B0 N d0) ∧ W.cell? ⟨w.heap.size + 1, 0, none⟩ = some (.int .i64 2) ∧ W.cell? ⟨w.heap.size + 1, 1, none⟩ = some (.slice B2 t2.length d2)) (fun j => decide (j < 13)) (by kernel_rfl) hC0 (fun hC => ?_)
            clear hC0 HA1' HA2'
            obtain ⟨X, hX⟩ : ∃ X, wr.drew = X := ⟨_, rfl⟩
            rw [hX] at HCC HA1 HA2 HEr ex_X hC ⊢
            clear hX
            refine Late.take (i := 0) (oi := ⟨_, _, _, _, _, _⟩) (v := ?_) rfl (by kernel_rfl) (by kernel_rfl) (by kernel_rfl) (by kernel_rfl) (fun _ _ _ h => h) (Or.inl ⟨by rfl, ?_⟩) hC ?_
            rotate_left
            · (intro w hSw; (try dsimp only at hSw); go_simp; first | done | with_reducible rfl)
            simp only [Act.put]
            refine Late.take (i := 1) (oi := ⟨_, _, _, _, _, _⟩) (v := ?_) rfl (by kernel_rfl) (by kernel_rfl) (by kernel_rfl) (by kernel_rfl) (fun _ _ _ h => h) (Or.inl ⟨by rfl, ?_⟩) hC ?_
            rotate_left
            · (intro w hSw; (try dsimp only at hSw); go_simp; first | done | with_reducible rfl)
            simp only [Act.put]
            refine Late.take (i := 2) (oi := ⟨_, _, _, _, _, _⟩) (v := ?_) rfl (by kernel_rfl) (by kernel_rfl) (by kernel_rfl) (by kernel_rfl) (fun _ _ _ h => h) (Or.inl ⟨by rfl, ?_⟩) hC ?_
            rotate_left
            · (intro w hSw; (try dsimp only at hSw); go_simp; first | done | with_reducible rfl)
            simp only [Act.put]
            refine Late.take (i := 3) (oi := ⟨_, _, _, _, _, _⟩) (v := ?_) rfl (by kernel_rfl) (by kernel_rfl) (by kernel_rfl) (by kernel_rfl) (fun _ _ _ h => h) (Or.inl ⟨by rfl, ?_⟩) hC ?_
            rotate_left
            · (intro w hSw; (try dsimp only at hSw); go_simp; first | done | with_reducible rfl)
            simp only [Act.put]
            refine Late.take (i := 6) (oi := ⟨_, _, _, _, _, _⟩) (v := ?_) rfl (by kernel_rfl) (by kernel_rfl) (by kernel_rfl) (by kernel_rfl) (fun _ _ _ h => h) (Or.inl ⟨by rfl, ?_⟩) hC ?_
            rotate_left
            · (intro w hSw; (try dsimp only at hSw); go_simp; first | done | with_reducible rfl)
            simp only [Act.put]
            refine Late.take (i := 7) (oi := ⟨_, _, _, _, _, _⟩) (v := ?_) rfl (by kernel_rfl) (by kernel_rfl) (by kernel_rfl) (by kernel_rfl) (fun _ _ _ h => h) (Or.inl ⟨by rfl, ?_⟩) hC ?_
            rotate_left
            · (intro w hSw; (try dsimp only at hSw); go_simp; first | done | with_reducible rfl)
            simp only [Act.put]
            refine Late.take (i := 8) (oi := ⟨_, _, _, _, _, _⟩) (v := ?_) rfl (by kernel_rfl) (by kernel_rfl) (by kernel_rfl) (by kernel_rfl) (fun _ _ _ h => h) (Or.inl ⟨by rfl, ?_⟩) hC ?_
            rotate_left
            · (intro w hSw; (try dsimp only at hSw); go_simp; first | done | with_reducible rfl)
            simp only [Act.put]
            refine Late.take (i := 9) (oi := ⟨_, _, _, _, _, _⟩) (v := ?_) rfl (by kernel_rfl) (by kernel_rfl) (by kernel_rfl) (by kernel_rfl) (fun _ _ _ h => h) (Or.inl ⟨by rfl, ?_⟩) hC ?_
            rotate_left
            · (intro w hSw; (try dsimp only at hSw); go_simp; first | done | with_reducible rfl)
            simp only [Act.put]
            clear hC
            refine Late.two (i := 4) (j := 10) (oi := _) (oj := _) (by kernel_rfl) rfl rfl (fun K' hK' => ?_) (fun K' hK' => ?_)
            · try rw [if_pos (by rfl)]
              go_simp
              have ex_X1 := ex_X.alloc (.cells #[.int .i64 (k : Int), .int .i64 (j : Int)] 2)
              have hb1 := Has.new X 2 #[.int .i64 (k : Int), .int .i64 (j : Int)]
              refine hK'.out _ _ (fun _ => HCC.out _ ex_X1) (fun _ => ?_)
              clear hK' K'
              obtain ⟨p_hb1, hp_hb1⟩ : ∃ q, X.heap.size = q := ⟨_, rfl⟩
              rw [hp_hb1] at hb1 ⊢
              generalize X.alloc (.cells #[.int .i64 (k : Int), .int .i64 (j : Int)] 2) = X1 at *
              try simp only [Act.put, List.setIfInBounds_toArray, List.set_cons_zero, List.set_cons_succ]
              refine Late.two (i := 5) (j := 10) (oi := _) (oj := _) (by kernel_rfl) rfl rfl (fun K' hK' => ?_) (fun K' hK' => ?_)
              · try rw [if_pos (by rfl)]
                go_simp
                refine (HA1.out _ X1 ex_X1 hb1).mono ?_
                rintro e X2 ⟨rfl, he_X2⟩
                have ex_X2 := ex_X1.trans he_X2
                refine hK'.out _ _ (fun _ => HCC.out _ ex_X2) (fun _ => ?_)
                clear hK' K'
                try simp only [Act.put, List.setIfInBounds_toArray, List.set_cons_zero, List.set_cons_succ]
                refine Late.one (i := 10) (o := _) (by kernel_rfl) rfl (fun K' hK' => ?_)
                try rw [if_pos (by rfl)]
                go_simp
                have ex_X3 := ex_X2.alloc (.cells #[.int .i64 (j : Int), .int .i64 (k : Int)] 2)
                have hb2 := Has.new X2 2 #[.int .i64 (j : Int), .int .i64 (k : Int)]
                refine hK'.out _ _ (fun _ => HCC.out _ ex_X3) (fun _ => ?_)
                clear hK' K'
                obtain ⟨p_hb2, hp_hb2⟩ : ∃ q, X2.heap.size = q := ⟨_, rfl⟩
                rw [hp_hb2] at hb2 ⊢
                generalize X2.alloc (.cells #[.int .i64 (j : Int), .int .i64 (k : Int)] 2) = X3 at *
                try simp only [Act.put, List.setIfInBounds_toArray, List.set_cons_zero, List.set_cons_succ]
                refine Late.one (i := 11) (o := _) (by kernel_rfl) rfl (fun K' hK' => ?_)
                try rw [if_pos (by rfl)]
                go_simp
                refine (HA2.out _ X3 ex_X3 hb2).mono ?_
                rintro e X4 ⟨rfl, he_X4⟩
                have ex_X4 := ex_X3.trans he_X4
                refine hK'.out _ _ (fun _ => HCC.out _ ex_X4) (fun _ => ?_)
                clear hK' K'
                try simp only [Act.put, List.setIfInBounds_toArray, List.set_cons_zero, List.set_cons_succ]
                have hCX := HCC.out _ ex_X4
                have HEX := Lib.hid (HE1.out.trans (HX1.out.trans (HEr.out.trans ex_X4)))
                refine Late.take (i := 12) (oi := ⟨_, _, _, _, _, _⟩) (v := ?_) rfl (by kernel_rfl) (by kernel_rfl) (by kernel_rfl) (by kernel_rfl) (fun _ _ _ h => h) (Or.inl ⟨by rfl, ?_⟩) hCX ?_
                rotate_left
                · (intro w hSw; (try dsimp only at hSw); go_simp; first | done | with_reducible rfl)
                simp only [Act.put]
                refine Late.done (by kernel_rfl) ?_ _
                go_wp2_with fail
                go_ret2
                exact ⟨by rw [HQ.out.1, HQ.out.2, HSN.out]; rfl, HEX.out⟩
              · try rw [if_pos (by rfl)]
                go_simp
                have ex_X2 := ex_X1.alloc (.cells #[.int .i64 (j : Int), .int .i64 (k : Int)] 2)
                have hb2 := Has.new X1 2 #[.int .i64 (j : Int), .int .i64 (k : Int)]
                have hb1 := hb1.alloc (.cells #[.int .i64 (j : Int), .int .i64 (k : Int)] 2)
                refine hK'.out _ _ (fun _ => HCC.out _ ex_X2) (fun _ => ?_)
                clear hK' K'
                obtain ⟨p_hb2, hp_hb2⟩ : ∃ q, X1.heap.size = q := ⟨_, rfl⟩
                rw [hp_hb2] at hb2 ⊢
                generalize X1.alloc (.cells #[.int .i64 (j : Int), .int .i64 (k : Int)] 2) = X2 at *
                try simp only [Act.put, List.setIfInBounds_toArray, List.set_cons_zero, List.set_cons_succ]
                refine Late.one (i := 5) (o := _) (by kernel_rfl) rfl (fun K' hK' => ?_)
                try rw [if_pos (by rfl)]
                go_simp
                refine (HA1.out _ X2 ex_X2 hb1).mono ?_
                rintro e X3 ⟨rfl, he_X3⟩
                have ex_X3 := ex_X2.trans he_X3
                have hb2 := hb2.ex he_X3
                refine hK'.out _ _ (fun _ => HCC.out _ ex_X3) (fun _ => ?_)
                clear hK' K'
                try simp only [Act.put, List.setIfInBounds_toArray, List.set_cons_zero, List.set_cons_succ]
                refine Late.one (i := 11) (o := _) (by kernel_rfl) rfl (fun K' hK' => ?_)
                try rw [if_pos (by rfl)]
                go_simp
                refine (HA2.out _ X3 ex_X3 hb2).mono ?_
                rintro e X4 ⟨rfl, he_X4⟩
                have ex_X4 := ex_X3.trans he_X4
                refine hK'.out _ _ (fun _ => HCC.out _ ex_X4) (fun _ => ?_)
                clear hK' K'
                try simp only [Act.put, List.setIfInBounds_toArray, List.set_cons_zero, List.set_cons_succ]
                have hCX := HCC.out _ ex_X4
                have HEX := Lib.hid (HE1.out.trans (HX1.out.trans (HEr.out.trans ex_X4)))
                refine Late.take (i := 12) (oi := ⟨_, _, _, _, _, _⟩) (v := ?_) rfl (by kernel_rfl) (by kernel_rfl) (by kernel_rfl) (by kernel_rfl) (fun _ _ _ h => h) (Or.inl ⟨by rfl, ?_⟩) hCX ?_
                rotate_left
                · (intro w hSw; (try dsimp only at hSw); go_simp; first | done | with_reducible rfl)
                simp only [Act.put]
                refine Late.done (by kernel_rfl) ?_ _
                go_wp2_with fail
                go_ret2
                exact ⟨by rw [HQ.out.1, HQ.out.2, HSN.out]; rfl, HEX.out⟩
            · try rw [if_pos (by rfl)]
              go_simp
              have ex_X1 := ex_X.alloc (.cells #[.int .i64 (j : Int), .int .i64 (k : Int)] 2)
              have hb2 := Has.new X 2 #[.int .i64 (j : Int), .int .i64 (k : Int)]
              refine hK'.out _ _ (fun _ => HCC.out _ ex_X1) (fun _ => ?_)
              clear hK' K'
              obtain ⟨p_hb2, hp_hb2⟩ : ∃ q, X.heap.size = q := ⟨_, rfl⟩
              rw [hp_hb2] at hb2 ⊢
              generalize X.alloc (.cells #[.int .i64 (j : Int), .int .i64 (k : Int)] 2) = X1 at *
              try simp only [Act.put, List.setIfInBounds_toArray, List.set_cons_zero, List.set_cons_succ]
              refine Late.one (i := 4) (o := _) (by kernel_rfl) rfl (fun K' hK' => ?_)
              try rw [if_pos (by rfl)]
              go_simp
              have ex_X2 := ex_X1.alloc (.cells #[.int .i64 (k : Int), .int .i64 (j : Int)] 2)
              have hb1 := Has.new X1 2 #[.int .i64 (k : Int), .int .i64 (j : Int)]
              have hb2 := hb2.alloc (.cells #[.int .i64 (k : Int), .int .i64 (j : Int)] 2)
              refine hK'.out _ _ (fun _ => HCC.out _ ex_X2) (fun _ => ?_)
              clear hK' K'
              obtain ⟨p_hb1, hp_hb1⟩ : ∃ q, X1.heap.size = q := ⟨_, rfl⟩
              rw [hp_hb1] at hb1 ⊢
              generalize X1.alloc (.cells #[.int .i64 (k : Int), .int .i64 (j : Int)] 2) = X2 at *
              try simp only [Act.put, List.setIfInBounds_toArray, List.set_cons_zero, List.set_cons_succ]
              refine Late.one (i := 5) (o := _) (by kernel_rfl) rfl (fun K' hK' => ?_)
              try rw [if_pos (by rfl)]
              go_simp
              refine (HA1.out _ X2 ex_X2 hb1).mono ?_
              rintro e X3 ⟨rfl, he_X3⟩
              have ex_X3 := ex_X2.trans he_X3
              have hb2 := hb2.ex he_X3
              refine hK'.out _ _ (fun _ => HCC.out _ ex_X3) (fun _ => ?_)
              clear hK' K'
              try simp only [Act.put, List.setIfInBounds_toArray, List.set_cons_zero, List.set_cons_succ]
              refine Late.one (i := 11) (o := _) (by kernel_rfl) rfl (fun K' hK' => ?_)
              try rw [if_pos (by rfl)]
              go_simp
              refine (HA2.out _ X3 ex_X3 hb2).mono ?_
              rintro e X4 ⟨rfl, he_X4⟩
              have ex_X4 := ex_X3.trans he_X4
              refine hK'.out _ _ (fun _ => HCC.out _ ex_X4) (fun _ => ?_)
              clear hK' K'
              try simp only [Act.put, List.setIfInBounds_toArray, List.set_cons_zero, List.set_cons_succ]
              have hCX := HCC.out _ ex_X4
              have HEX := Lib.hid (HE1.out.trans (HX1.out.trans (HEr.out.trans ex_X4)))
              refine Late.take (i := 12) (oi := ⟨_, _, _, _, _, _⟩) (v := ?_) rfl (by kernel_rfl) (by kernel_rfl) (by kernel_rfl) (by kernel_rfl) (fun _ _ _ h => h) (Or.inl ⟨by rfl, ?_⟩) hCX ?_
              rotate_left
              · (intro w hSw; (try dsimp only at hSw); go_simp; first | done | with_reducible rfl)
              simp only [Act.put]
              refine Late.done (by kernel_rfl) ?_ _
              go_wp2_with fail
              go_ret2
              exact ⟨by rw [HQ.out.1, HQ.out.2, HSN.out]; rfl, HEX.out⟩
        · obtain rfl : j = k := by omega
          go_wp2_with fail
          go_roundw
          case rel => exact ⟨j + 1, by omega, by go_num, Lib.hid (HX1.out.trans HEr.out), Lib.hid (fun x hx y hy => by
            rcases Nat.lt_or_ge x j with hh | hh
            · exact HP.out x hh y hy
            · obtain rfl : x = j := by omega
              exact HYr.out y hy)⟩
          case measure => simp [intOf]; omega
    · obtain rfl : k = N := by omega
      have HSS := Lib.hid (HST.out HP.out)
      go_wp2_with fail
      refine (l01N_ex B0 k d0 _ (by omega)).mono ?_
      rintro e wn ⟨rfl, hen⟩
      have HE9 := Lib.hid (HE1.out.trans (HX.out.trans hen))
      clear hen c0
      go_wp2_with fail
      go_ret2
      exact ⟨by rw [HQ.out.1, HQ.out.2, HSS.out]; rfl, HE9.out⟩

set_option maxRecDepth 100000 in
set_option maxHeartbeats 2000000 in
theorem specIsSymmetric_ex (t0 : List (List Int)) (m1 m2 : Int) (t2 : List Int) : ∀ (B0 : Option Addr) (d0 : Nat) (B2 : Option Addr) (d2 : Nat) (W : World), RwsW W B0 t0 → IntsW W B2 t2 → SmallT t0 → t2.length ≤ 1048576 →
    Calls Tryd.prog 15 #[.agg #[.slice B0 t0.length d0], .int .i64 m1, .agg #[.int .i64 m2, .slice B2 t2.length d2]] W fun e W' => e = .returned (.tuple #[.bool (qIsSymmetric0 t0 m1 m2 t2), .int .i64 (qIsSymmetric1 t0 m1 m2 t2)]) ∧ Ex W W' := by
  intro B0 d0 B2 d2 w hR hF hs hf
  by_cases hz : c10 t0 m1 m2 t2 = 0
  · obtain ⟨M, rfl, rfl, h⟩ := c10_yes hz
    exact specIsSymmetric_yes t0 M t2 B0 d0 B2 d2 w hR hF hs hf hz h
  · skip
    have e0 : Ex w ((w.alloc (.cells #[.slice B0 t0.length d0] 32)).alloc (.cells #[.int .i64 m2, .slice B2 t2.length d2] 34)) := ((Ex.refl w).alloc _).alloc _
    have b0 : Has ((w.alloc (.cells #[.slice B0 t0.length d0] 32)).alloc (.cells #[.int .i64 m2, .slice B2 t2.length d2] 34)) (w.heap.size) 32 #[.slice B0 t0.length d0] := ((Has.newAt (w := w) (e := 32) (cs := #[.slice B0 t0.length d0]) (k := w.heap.size) (by simp)).alloc _)
    have b1 : Has ((w.alloc (.cells #[.slice B0 t0.length d0] 32)).alloc (.cells #[.int .i64 m2, .slice B2 t2.length d2] 34)) (w.heap.size + 1) 34 #[.int .i64 m2, .slice B2 t2.length d2] := (Has.newAt (w := (w.alloc (.cells #[.slice B0 t0.length d0] 32))) (e := 34) (cs := #[.int .i64 m2, .slice B2 t2.length d2]) (k := w.heap.size + 1) (by simp))
    have HFS := Lib.hid (l10Given_any B0 B2 t0 m1 m2 t2 d0 d2 _ (hR.ex e0) (hF.ex e0) hs hf)
    have HE := Lib.hid e0
    have c0 := b0.cell 0
    have c1 := b1.cell 0
    have c1' := b1.cell 1
    have HQ := Lib.hid (sy_no hz)
    obtain ⟨C, hC⟩ : ∃ C, c10 t0 m1 m2 t2 = C := ⟨_, rfl⟩
    rw [hC] at HFS HQ hz
    have hne : (C != 0) = true := by simpa using hz
    clear hR hF hs hf hz e0 hC b0 b1
    go_enter Tryd.func15, Tryd.ntmps15
    go_wp2_with fail
    generalize ((w.alloc (.cells #[.slice B0 t0.length d0] 32)).alloc (.cells #[.int .i64 m2, .slice B2 t2.length d2] 34)) = W0 at *
    refine HFS.out.mono ?_
    rintro e W1 ⟨rfl, he1⟩
    have HE1 := Lib.hid (HE.out.trans he1)
    clear he1 c0 c1 c1'
    go_wp2_with fail
    go_ret2
    exact ⟨by rw [HQ.out.1, HQ.out.2]; rfl, HE1.out⟩

end Go.Proofs.YtcdijeeabgmgmaaDoor
