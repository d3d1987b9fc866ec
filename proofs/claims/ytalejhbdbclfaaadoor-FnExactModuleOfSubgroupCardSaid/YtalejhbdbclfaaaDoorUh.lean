/- Chapter 7: the group of a subgroup, by the specification. -/
import Derived.Test.YtalejhbdbclfaaaDoorUe
namespace Go.Proofs.YtalejhbdbclfaaaDoor
open Go.RowKit Go.Shelf

attribute [local go_sem] Oper.semAt_some

set_option maxRecDepth 100000 in
set_option maxHeartbeats 1000000 in
theorem l07Place_any (L : Option Addr) (c' z : Nat) (t : List (List Int)) (xs : List Int) (w : World) (h : SubX t xs) (hX : IntsW w L xs) (hz : z ∈ elsL xs) :
    Calls Tryd.prog 117 #[.slice L xs.length c', .int .i64 (z : Int)] w fun e w' => e = .returned (.int .i64 (plN xs z : Int)) ∧ w = w' := by
  have HX := Lib.hid hX
  have HBF := Lib.hid (fun j (hj : j < plN xs z) => h.before hz hj)
  obtain ⟨hm, hv⟩ := h.pl hz
  have hl8 := h.len8
  have HV := Lib.hid hv
  obtain ⟨m, hme⟩ : ∃ m, plN xs z = m := ⟨_, rfl⟩
  rw [hme] at HBF HV hm ⊢
  clear h hX hz hv hme
  go_enter Tryd.func117, Tryd.ntmps117
  go_wp2_with fail
  go_loop [5] (fun i => ∃ k : Nat, k ≤ m ∧ i = .int .i64 (k : Int)) (fun i => xs.length - (intOf i).toNat)
  case atStart => exact ⟨0, Nat.zero_le _, rfl⟩
  case round =>
    obtain ⟨k, hk, rfl⟩ := hrel
    have hlt : k < xs.length := by omega
    obtain ⟨bx, ox, rfl, hbx, hcx⟩ := HX.out.ints.at_ hlt
    by_cases hkm : k < m
    · have hne : (nth xs k == (z : Int)) = false := by simpa using HBF.out k hkm
      generalize nth xs k = x at *
      go_wp2_with fail
      go_round
      case rel => exact ⟨k + 1, by omega, by go_num⟩
      case measure => simp [intOf]; omega
    · obtain rfl : k = m := by omega
      rw [HV.out] at hcx
      go_wp2_with fail
      go_ret
      exact ⟨rfl, rfl⟩

set_option maxRecDepth 100000 in
set_option maxHeartbeats 8000000 in
theorem l07Group_any (A L : Option Addr) (t : List (List Int)) (xs : List Int) (c c' : Nat) (w : World) (hR : RwsW w A t) (hX : IntsW w L xs) (h : SubX t xs) :
    Calls Tryd.prog 63 #[.agg #[.slice A t.length c], .slice L xs.length c'] w fun e w' => ∃ CC n, e = .returned (.agg #[.slice CC (grT t xs).length n]) ∧ Ex w w' ∧ OwnT w' w.heap.size w'.heap.size CC (grT t xs) := by
  obtain ⟨i0, hi, hi0, hi1, hi2⟩ := info_parts infoI
  obtain ⟨iS, gi, gi0, gi1, gi2⟩ := info_parts infoS
  have hn8 := h.g.n8
  have hn1 := h.g.n1
  have hl8 := h.len8
  have hpos := h.pos
  obtain ⟨b, o, bb, oo, C, rfl, hQ⟩ := hR.sq h.g
  rcases hX.ints with hX3 | ⟨bx, ox, rfl, hbx, hcx⟩
  · rw [hX3] at hpos
    cases hpos
  have HEN := Lib.hid (fun x y (hx : x < t.length) (hy : y < t.length) W (he : Ex w W) => (⟨(hQ.ex he).row_ hx, by rw [(hQ.ex he).ent_ hx hy, h.g.ent hx hy], h.g.mul_lt hx hy⟩ : W.cell? ⟨b, o + x, none⟩ = some (.slice (some ⟨bb x, oo x, none⟩) t.length (C x)) ∧ W.cell? ⟨bb x, oo x + y, none⟩ = some (.int .i64 (mul t x y : Int)) ∧ mul t x y < t.length))
  have HXN := Lib.hid (fun i (hi : i < xs.length) => (h.nat hi).2)
  have HXC := Lib.hid (fun i (hi : i < xs.length) W (he : Ex w W) => (by rw [← (h.nat hi).1]; exact (he.below.cell (p := ⟨bx, ox + i, none⟩) hbx).trans (hcx i hi) : W.cell? ⟨bx, ox + i, none⟩ = some (.int .i64 (xN xs i : Int))))
  have HPL := Lib.hid (fun i j (hi : i < xs.length) (hj : j < xs.length) W (he : Ex w W) => l07Place_any (some ⟨bx, ox, none⟩) c' (mul t (xN xs i) (xN xs j)) t xs W h (hX.ex he) (h.gr_mem hi hj))
  have HGL : Hid ((grT t xs).length = xs.length) := Lib.hid (grT_len t xs)
  have HGT : Hid (grT t xs = mkT xs.length xs.length fun i j => (grV t xs i j : Int)) := Lib.hid rfl
  rw [HGL.out]
  have e0 : Ex w ((w.alloc (.cells #[.slice (some ⟨b, o, none⟩) t.length c] 27)).alloc (.cells #[.slice none 0 0] 27)) := ((Ex.refl w).alloc _).alloc _
  have b0 : Has ((w.alloc (.cells #[.slice (some ⟨b, o, none⟩) t.length c] 27)).alloc (.cells #[.slice none 0 0] 27)) (w.heap.size) 27 #[.slice (some ⟨b, o, none⟩) t.length c] := ((Has.newAt (w := w) (e := 27) (cs := #[.slice (some ⟨b, o, none⟩) t.length c]) (k := w.heap.size) (by simp)).alloc _)
  have b1 : Has ((w.alloc (.cells #[.slice (some ⟨b, o, none⟩) t.length c] 27)).alloc (.cells #[.slice none 0 0] 27)) (w.heap.size + 1) 27 #[.slice none 0 0] := (Has.newAt (w := (w.alloc (.cells #[.slice (some ⟨b, o, none⟩) t.length c] 27))) (e := 27) (cs := #[.slice none 0 0]) (k := w.heap.size + 1) (by simp))
  have HB0 := Lib.hid b0
  obtain ⟨K, hK⟩ : ∃ K, xs.length = K := ⟨_, rfl⟩
  rw [hK] at HXN HXC HPL HGT hl8 hpos ⊢
  have hlb := b1.lt
  clear hR hX h hQ hcx hK
  go_enter Tryd.func63, Tryd.ntmps63
  go_wp2_with fail
  obtain ⟨z, hz⟩ : ∃ z, ((w.alloc (.cells #[.slice (some ⟨b, o, none⟩) t.length c] 27)).alloc (.cells #[.slice none 0 0] 27)).heap.size = z := ⟨_, rfl⟩
  have hzw : w.heap.size + 1 < z := by omega
  have ea := ((Ex.refl ((w.alloc (.cells #[.slice (some ⟨b, o, none⟩) t.length c] 27)).alloc (.cells #[.slice none 0 0] 27))).alloc (.cells #[] 25)).alloc (.cells #[.slice (some ⟨z, 0, none⟩) 0 0] 27)
  have HO : Hid (Has ((((w.alloc (.cells #[.slice (some ⟨b, o, none⟩) t.length c] 27)).alloc (.cells #[.slice none 0 0] 27)).alloc (.cells #[] 25)).alloc (.cells #[.slice (some ⟨z, 0, none⟩) 0 0] 27)) (z + 1) 27 #[.slice (some ⟨z, 0, none⟩) 0 0]) := Lib.hid (Has.newAt (by rw [World.size_alloc, hz]))
  have HG : Hid (GrowT ((((w.alloc (.cells #[.slice (some ⟨b, o, none⟩) t.length c] 27)).alloc (.cells #[.slice none 0 0] 27)).alloc (.cells #[] 25)).alloc (.cells #[.slice (some ⟨z, 0, none⟩) 0 0] 27)) z (.slice (some ⟨z, 0, none⟩) 0 0) 0 K fun i j => (grV t xs i j : Int)) := Lib.hid (by
    have := GrowT.empty (lo := z) ((w.alloc (.cells #[.slice (some ⟨b, o, none⟩) t.length c] 27)).alloc (.cells #[.slice none 0 0] 27)) K (fun i j => (grV t xs i j : Int)) (by omega)
    rw [hz] at this
    exact this.ex (Ex.new _ _))
  have HE0 := Lib.hid e0
  have HB1 := Lib.hid b1
  have HXs := Lib.hid ea
  have HZ := Lib.hid hz
  have hszz : w.heap.size + 1 + 1 = z := by simpa using hz
  rw [hszz]
  clear b0 b1 e0 ea hlb hz
  obtain ⟨W1, hW1⟩ : ∃ W1, ((w.alloc (.cells #[.slice (some ⟨b, o, none⟩) t.length c] 27)).alloc (.cells #[.slice none 0 0] 27)) = W1 := ⟨_, rfl⟩
  rw [hW1] at HO HG HE0 HB1 HXs HZ HB0 ⊢
  generalize ((W1.alloc (.cells #[] 25)).alloc (.cells #[.slice (some ⟨z, 0, none⟩) 0 0] 27)) = W2 at *
  clear hW1 hszz
  go_loopw [6] (fun i wr => ∃ (k : Nat) (v : Value), k ≤ K ∧ i = .int .i64 (k : Int) ∧ Hid (Ex W1 wr) ∧ Hid (Has wr (z + 1) 27 #[v]) ∧ Hid (GrowT wr z v k K fun i j => (grV t xs i j : Int))) (fun i _ => K - (intOf i).toNat)
  case atStart => exact ⟨0, _, Nat.zero_le _, rfl, HXs, HO, HG⟩
  case round =>
    clear HXs HO HG
    obtain ⟨k, v, hk, rfl, HX, HO, HG⟩ := hrel
    obtain ⟨wo, rfl⟩ : ∃ x : World, x = wr := ⟨_, rfl⟩
    obtain ⟨A, cA, rfl, -⟩ := HG.out.own
    by_cases hlt : k < K
    · obtain ⟨G, CC, hown, hrows⟩ := HG.out
      have HOW := Lib.hid hown
      have HRO := Lib.hid hrows
      have HGZ := Lib.hid (fun i (hi : i < k) => (hrows.lt hi : G i < wo.heap.size))
      have HEs := Lib.hid (Ex.new wo (.cells #[] 2))
      have HG0 : Hid (GrowI (wo.alloc (.cells #[] 2)) wo.heap.size (.slice (some ⟨wo.heap.size, 0, none⟩) 0 0) 0 (rowP (fun y => (grV t xs k y : Int)) 0)) := Lib.hid (GrowI.empty (lo := wo.heap.size) wo (Nat.le_refl _))
      clear hown hrows HG
      go_wp2_with fail
      generalize wo.alloc (.cells #[] 2) = W4 at *
      go_loopw [7, 8] (fun rv i wr => ∃ j : Nat, j ≤ K ∧ i = .int .i64 (j : Int) ∧ Hid (Ex wo wr) ∧ Hid (GrowI wr wo.heap.size rv j (rowP (fun y => (grV t xs k y : Int)) j))) (fun _ i _ => K - (intOf i).toNat)
      case atStart => exact ⟨0, Nat.zero_le _, rfl, HEs, HG0⟩
      case round =>
        clear HEs HG0
        obtain ⟨j, hj, rfl, HEr, HGr⟩ := hrel
        by_cases hjl : j < K
        · have hx := HXN.out k hlt
          have hy := HXN.out j hjl
          have HPLX := Lib.hid (fun W (he : Ex wo W) => HPL.out k j hlt hjl W (HE0.out.trans (HX.out.trans he)))
          have HCC0 := Lib.hid (fun W (he : Ex wo W) => And.intro ((HB0.out.ex (HX.out.trans he)).cell 0) (And.intro (HXC.out k hlt W (HE0.out.trans (HX.out.trans he))) (And.intro (HXC.out j hjl W (HE0.out.trans (HX.out.trans he))) (HEN.out _ _ hx hy W (HE0.out.trans (HX.out.trans he))))))
          have HS0 : Hid (grV t xs k j = plN xs (mul t (xN xs k) (xN xs j))) := Lib.hid rfl
          obtain ⟨x, hxe⟩ : ∃ x, xN xs k = x := ⟨_, rfl⟩
          obtain ⟨y, hye⟩ : ∃ y, xN xs j = y := ⟨_, rfl⟩
          rw [hxe, hye] at HCC0 HPLX HS0
          rw [hxe] at hx
          rw [hye] at hy
          obtain ⟨m, hm⟩ : ∃ m, mul t x y = m := ⟨_, rfl⟩
          rw [hm] at HCC0 HPLX HS0
          have hmN : m < t.length := (HCC0.out wo (Ex.refl _)).2.2.2.2.2
          obtain ⟨q, hq⟩ : ∃ q, plN xs m = q := ⟨_, rfl⟩
          rw [hq] at HPLX HS0
          have HS : Hid (rowP (fun y => (grV t xs k y : Int)) (j + 1) = rowP (fun y => (grV t xs k y : Int)) j ++ [(q : Int)]) := Lib.hid (by rw [rowP_snoc, HS0.out])
          have HCC := Lib.hid (fun W (he : Ex wo W) => (by obtain ⟨h1, h2, h3, h4, h5, _⟩ := HCC0.out W he; exact ⟨h1, h2, h3, h4, h5⟩ :
            W.cell? ⟨w.heap.size, 0, none⟩ = some (.slice (some ⟨b, o, none⟩) t.length c) ∧ W.cell? ⟨bx, ox + k, none⟩ = some (.int .i64 (x : Int)) ∧ W.cell? ⟨bx, ox + j, none⟩ = some (.int .i64 (y : Int)) ∧ W.cell? ⟨b, o + x, none⟩ = some (.slice (some ⟨bb x, oo x, none⟩) t.length (C x)) ∧ W.cell? ⟨bb x, oo x + y, none⟩ = some (.int .i64 (m : Int))))
          clear HCC0 HS0 hxe hye hm hq
          go_wp2_with fail
          have HE := Lib.hid HEr.out.drew
          have HG := Lib.hid (HGr.out.ex (Ex.refl wr).drew)
          have hC0 := HCC.out _ HE.out
          refine Late.region (C := fun W => W.cell? ⟨w.heap.size, 0, none⟩ = some (.slice (some ⟨b, o, none⟩) t.length c) ∧ W.cell? ⟨bx, ox + k, none⟩ = some (.int .i64 (x : Int)) ∧ W.cell? ⟨bx, ox + j, none⟩ = some (.int .i64 (y : Int)) ∧ W.cell? ⟨b, o + x, none⟩ = some (.slice (some ⟨bb x, oo x, none⟩) t.length (C x)) ∧ W.cell? ⟨bb x, oo x + y, none⟩ = some (.int .i64 (m : Int)))
            (fun j => decide (j < 19)) (by kernel_rfl) hC0 (fun hC => ?_)
          refine Late.take (i := 0) (oi := ⟨_, _, _, _, _, _⟩) (v := ?_) rfl (by kernel_rfl) (by kernel_rfl) (by kernel_rfl) (by kernel_rfl) (fun _ _ _ h => h) (Or.inl ⟨by rfl, ?_⟩) hC ?_
          rotate_left
          · (intro w hSw; (try dsimp only at hSw); go_simp; first | done | with_reducible rfl)
          simp only [Act.put, List.setIfInBounds_toArray, List.set_cons_zero, List.set_cons_succ]
          refine Late.take (i := 1) (oi := ⟨_, _, _, _, _, _⟩) (v := ?_) rfl (by kernel_rfl) (by kernel_rfl) (by kernel_rfl) (by kernel_rfl) (fun _ _ _ h => h) (Or.inl ⟨by rfl, ?_⟩) hC ?_
          rotate_left
          · (intro w hSw; (try dsimp only at hSw); go_simp; first | done | with_reducible rfl)
          simp only [Act.put, List.setIfInBounds_toArray, List.set_cons_zero, List.set_cons_succ]
          refine Late.take (i := 2) (oi := ⟨_, _, _, _, _, _⟩) (v := ?_) rfl (by kernel_rfl) (by kernel_rfl) (by kernel_rfl) (by kernel_rfl) (fun _ _ _ h => h) (Or.inl ⟨by rfl, ?_⟩) hC ?_
          rotate_left
          · (intro w hSw; (try dsimp only at hSw); go_simp; first | done | with_reducible rfl)
          simp only [Act.put, List.setIfInBounds_toArray, List.set_cons_zero, List.set_cons_succ]
          refine Late.take (i := 3) (oi := ⟨_, _, _, _, _, _⟩) (v := ?_) rfl (by kernel_rfl) (by kernel_rfl) (by kernel_rfl) (by kernel_rfl) (fun _ _ _ h => h) (Or.inl ⟨by rfl, ?_⟩) hC ?_
          rotate_left
          · (intro w hSw; (try dsimp only at hSw); go_simp; first | done | with_reducible rfl)
          simp only [Act.put, List.setIfInBounds_toArray, List.set_cons_zero, List.set_cons_succ]
          refine Late.take (i := 4) (oi := ⟨_, _, _, _, _, _⟩) (v := ?_) rfl (by kernel_rfl) (by kernel_rfl) (by kernel_rfl) (by kernel_rfl) (fun _ _ _ h => h) (Or.inl ⟨by rfl, ?_⟩) hC ?_
          rotate_left
          · (intro w hSw; (try dsimp only at hSw); go_simp; first | done | with_reducible rfl)
          simp only [Act.put, List.setIfInBounds_toArray, List.set_cons_zero, List.set_cons_succ]
          refine Late.take (i := 5) (oi := ⟨_, _, _, _, _, _⟩) (v := ?_) rfl (by kernel_rfl) (by kernel_rfl) (by kernel_rfl) (by kernel_rfl) (fun _ _ _ h => h) (Or.inl ⟨by rfl, ?_⟩) hC ?_
          rotate_left
          · (intro w hSw; (try dsimp only at hSw); go_simp; first | done | with_reducible rfl)
          simp only [Act.put, List.setIfInBounds_toArray, List.set_cons_zero, List.set_cons_succ]
          refine Late.take (i := 6) (oi := ⟨_, _, _, _, _, _⟩) (v := ?_) rfl (by kernel_rfl) (by kernel_rfl) (by kernel_rfl) (by kernel_rfl) (fun _ _ _ h => h) (Or.inl ⟨by rfl, ?_⟩) hC ?_
          rotate_left
          · (intro w hSw; (try dsimp only at hSw); go_simp; first | done | with_reducible rfl)
          simp only [Act.put, List.setIfInBounds_toArray, List.set_cons_zero, List.set_cons_succ]
          refine Late.take (i := 7) (oi := ⟨_, _, _, _, _, _⟩) (v := ?_) rfl (by kernel_rfl) (by kernel_rfl) (by kernel_rfl) (by kernel_rfl) (fun _ _ _ h => h) (Or.inl ⟨by rfl, ?_⟩) hC ?_
          rotate_left
          · (intro w hSw; (try dsimp only at hSw); go_simp; first | done | with_reducible rfl)
          simp only [Act.put, List.setIfInBounds_toArray, List.set_cons_zero, List.set_cons_succ]
          refine Late.take (i := 8) (oi := ⟨_, _, _, _, _, _⟩) (v := ?_) rfl (by kernel_rfl) (by kernel_rfl) (by kernel_rfl) (by kernel_rfl) (fun _ _ _ h => h) (Or.inl ⟨by rfl, ?_⟩) hC ?_
          rotate_left
          · (intro w hSw; (try dsimp only at hSw); go_simp; first | done | with_reducible rfl)
          simp only [Act.put, List.setIfInBounds_toArray, List.set_cons_zero, List.set_cons_succ]
          refine Late.take (i := 9) (oi := ⟨_, _, _, _, _, _⟩) (v := ?_) rfl (by kernel_rfl) (by kernel_rfl) (by kernel_rfl) (by kernel_rfl) (fun _ _ _ h => h) (Or.inl ⟨by rfl, ?_⟩) hC ?_
          rotate_left
          · (intro w hSw; (try dsimp only at hSw); go_simp; first | done | with_reducible rfl)
          simp only [Act.put, List.setIfInBounds_toArray, List.set_cons_zero, List.set_cons_succ]
          refine Late.take (i := 10) (oi := ⟨_, _, _, _, _, _⟩) (v := ?_) rfl (by kernel_rfl) (by kernel_rfl) (by kernel_rfl) (by kernel_rfl) (fun _ _ _ h => h) (Or.inl ⟨by rfl, ?_⟩) hC ?_
          rotate_left
          · (intro w hSw; (try dsimp only at hSw); go_simp; first | done | with_reducible rfl)
          simp only [Act.put, List.setIfInBounds_toArray, List.set_cons_zero, List.set_cons_succ]
          refine Late.take (i := 11) (oi := ⟨_, _, _, _, _, _⟩) (v := ?_) rfl (by kernel_rfl) (by kernel_rfl) (by kernel_rfl) (by kernel_rfl) (fun _ _ _ h => h) (Or.inl ⟨by rfl, ?_⟩) hC ?_
          rotate_left
          · (intro w hSw; (try dsimp only at hSw); go_simp; first | done | with_reducible rfl)
          simp only [Act.put, List.setIfInBounds_toArray, List.set_cons_zero, List.set_cons_succ]
          refine Late.take (i := 12) (oi := ⟨_, _, _, _, _, _⟩) (v := ?_) rfl (by kernel_rfl) (by kernel_rfl) (by kernel_rfl) (by kernel_rfl) (fun _ _ _ h => h) (Or.inl ⟨by rfl, ?_⟩) hC ?_
          rotate_left
          · (intro w hSw; (try dsimp only at hSw); go_simp; first | done | with_reducible rfl)
          simp only [Act.put, List.setIfInBounds_toArray, List.set_cons_zero, List.set_cons_succ]
          refine Late.take (i := 13) (oi := ⟨_, _, _, _, _, _⟩) (v := ?_) rfl (by kernel_rfl) (by kernel_rfl) (by kernel_rfl) (by kernel_rfl) (fun _ _ _ h => h) (Or.inl ⟨by rfl, ?_⟩) hC ?_
          rotate_left
          · (intro w hSw; (try dsimp only at hSw); go_simp; first | done | with_reducible rfl)
          simp only [Act.put, List.setIfInBounds_toArray, List.set_cons_zero, List.set_cons_succ]
          refine Late.take (i := 14) (oi := ⟨_, _, _, _, _, _⟩) (v := ?_) rfl (by kernel_rfl) (by kernel_rfl) (by kernel_rfl) (by kernel_rfl) (fun _ _ _ h => h) (Or.inl ⟨by rfl, ?_⟩) hC ?_
          rotate_left
          · (intro w hSw; (try dsimp only at hSw); go_simp; first | done | with_reducible rfl)
          simp only [Act.put, List.setIfInBounds_toArray, List.set_cons_zero, List.set_cons_succ]
          refine Late.take (i := 15) (oi := ⟨_, _, _, _, _, _⟩) (v := ?_) rfl (by kernel_rfl) (by kernel_rfl) (by kernel_rfl) (by kernel_rfl) (fun _ _ _ h => h) (Or.inl ⟨by rfl, ?_⟩) hC ?_
          rotate_left
          · (intro w hSw; (try dsimp only at hSw); go_simp; first | done | with_reducible rfl)
          simp only [Act.put, List.setIfInBounds_toArray, List.set_cons_zero, List.set_cons_succ]
          refine Late.one (i := 16) (o := _) (by kernel_rfl) rfl (fun K' hK' => ?_)
          go_simp
          refine (HPLX.out wr.drew HE.out).mono ?_
          rintro e w' ⟨rfl, rfl⟩
          refine hK'.out _ _ (fun _ => hC) (fun _ => ?_)
          clear hK' K' hC hC0
          try simp only [Act.put, List.setIfInBounds_toArray, List.set_cons_zero, List.set_cons_succ]
          generalize wr.drew = X at *
          refine Late.one (i := 17) (o := _) (by kernel_rfl) rfl (fun K' hK' => ?_)
          go_simp
          have e1 := HE.out.alloc (.cells #[.int .i64 (q : Int)] 2)
          have g1 := HG.out.ex (Ex.new X (.cells #[.int .i64 (q : Int)] 2))
          have hn1 := cell_one_new X (.int .i64 (q : Int)) 2
          have hz1 : X.heap.size + 1 = (X.alloc (.cells #[.int .i64 (q : Int)] 2)).heap.size := by simp
          have hx1 := Ex.new X (.cells #[.int .i64 (q : Int)] 2)
          refine hK'.out _ _ (fun _ => HCC.out _ e1) (fun _ => ?_)
          clear hK' K'
          generalize X.alloc (.cells #[.int .i64 (q : Int)] 2) = w1 at *
          try simp only [Act.put, List.setIfInBounds_toArray, List.set_cons_zero, List.set_cons_succ]
          refine Late.one (i := 18) (o := _) (by kernel_rfl) rfl (fun K' hK' => ?_)
          rw [if_pos (by rfl)]
          refine wp_append_own _ _ _ 25 rfl wo.heap.size 2 i0 (.int .i64 0) 1 8 Tryd.underlying25 hi hi0 hi1 hi2 rfl (by decide) _ _ _ rfl g1.1 ⟨X.heap.size, 0, none⟩ 1 1 [.int .i64 (q : Int)] rfl rfl hn1 (by simp [Value.oneCell']) (by unfold maxLen; omega) (by omega) (by have := e1.size; omega) ?_
          intro v' w3 hown3 hgrow3 _
          have HE3 := Lib.hid (Ex.grew e1 g1 (Nat.le_refl _) hgrow3)
          have HG3 := Lib.hid (g1.snoc hown3)
          refine hK'.out _ _ (fun _ => HCC.out _ HE3.out) (fun _ => ?_)
          clear hK' K' hown3 hgrow3 g1 e1 hn1 hx1 
          try simp only [Act.put]
          refine Late.one (i := 19) (o := _) (by kernel_rfl) rfl (fun K' hK' => ?_)
          go_simp
          refine hK'.out _ _ (fun h => by cases h) (fun _ => ?_)
          clear hK' K'
          try simp only [Act.put, List.setIfInBounds_toArray, List.set_cons_zero, List.set_cons_succ]
          refine Late.done (by kernel_rfl) ?_ _
          go_wp2_with fail
          go_roundw
          case rel => exact ⟨j + 1, by omega, by go_num, HE3, by rw [HS.out]; exact HG3⟩
          case measure => simp [intOf]; omega
        · obtain rfl : j = K := by omega
          obtain ⟨g, cg, cs, rfl, hzg, hjc, hhas, hget⟩ := row_block HGr.out.1 hpos
          have HHAS := Lib.hid hhas
          have HGET := Lib.hid hget
          have HOM := Lib.hid (own_below HOW.out HEr.out)
          have HRM := Lib.hid (HRO.out.ex HEr.out)
          have HBM := Lib.hid (HO.out.ex HEr.out)
          have cO := HBM.out.cell 0
          clear hhas hget
          go_wp2_with (at_builtin; refine wpList_append_own _ rfl _ _ 22 rfl z 25 iS (.slice none 0 0) 1 24 Tryd.underlying22 gi gi0 gi1 gi2 rfl (by decide) _ _ _ rfl (HOM.out.alloc _) ⟨wr.heap.size, 0, none⟩ 1 1 [.slice (some ⟨g, 0, none⟩) j cg] rfl rfl (cell_one_new _ _ _) (by simp [Value.oneCell']) (by unfold maxLen; omega) (by omega) (by have := (HX.out.trans HEr.out).size; have := HZ.out; simp; omega) ?_; intro v' w3 hown3 hgrow3 _; have HX3 := Lib.hid (Ex.grewR ((HX.out.trans HEr.out).alloc _) (HOM.out.alloc _) (by have := HZ.out; omega) hgrow3); have HBM3 := Lib.hid (Has.grewR (HBM.out.alloc _) (by decide) (HOM.out.alloc _) hgrow3); have HGT3 := Lib.hid (GrowT.push (V := fun i j => (grV t xs i j : Int)) (HOM.out.alloc _) (HRM.out.ex (Ex.new wr _)) (by have := HX.out.size; have := HZ.out; omega) (HHAS.out.alloc _) (fun i hi => (HGET.out i hi).trans (rowP_get hi)) (fun i hi => by have := HGZ.out i hi; omega) hgrow3 hown3); obtain ⟨A3, cA3, rfl, -⟩ := HGT3.out.own; have cO3 := HBM3.out.cell 0; have fO3 := HBM3.out.free 0; clear hown3 hgrow3)
          go_roundw
          case rel => exact ⟨k + 1, _, by omega, by go_num, Lib.hid (HX3.out.setCell (p := ⟨z + 1, 0, none⟩) (by have := HZ.out; show W1.heap.size ≤ z + 1; omega) _), Lib.hid HBM3.out.put1, Lib.hid (HGT3.out.set HBM3.out (by decide) (by decide) 0 _)⟩
          case measure => simp [intOf]; omega
    · obtain rfl : k = K := by omega
      have HBR := Lib.hid (HB1.out.ex HX.out)
      have HG9 := Lib.hid HG.out
      have cO := HO.out.cell 0
      have cr := HBR.out.cell 0
      have fr := HBR.out.free 0
      go_wp2_with fail
      have H4 := HBR.out.put1 (v := .slice A k cA)
      have c4 := H4.cell 0
      obtain ⟨A', c', e', hO⟩ := (HG9.out.set HBR.out (by decide) (by decide) 0 (.slice A k cA)).own
      simp only [Value.slice.injEq] at e'
      obtain ⟨rfl, _, rfl⟩ := e'
      refine bodyPost_ret (v := .agg #[.slice A k cA]) (by simp [results, Tryd.results63, go_sem, c4]) rfl ⟨A, cA, rfl, (HE0.out.trans HX.out).setCell (p := ⟨w.heap.size + 1, 0, none⟩) (by show w.heap.size ≤ w.heap.size + 1; omega) _, by rw [HGT.out]; exact hO.mono (by have := HE0.out.size; have := HZ.out; omega) (Nat.le_refl _) (Nat.le_refl _)⟩

end Go.Proofs.YtalejhbdbclfaaaDoor
