/- Quotients: the specification's table. -/
import Derived.Test.YtalejhbdbclfaaaDoorQo
namespace Go.Proofs.YtalejhbdbclfaaaDoor
open Go.RowKit Go.Shelf

attribute [local go_sem] Oper.semAt_some

def fstA (S : Cos) (i : Nat) : Nat := S.fst[i]?.getD 0
theorem fstA_nth {S : Cos} {i : Nat} (h : i < S.fst.length) : nth (S.fst.map fun x : Nat => (x : Int)) i = (fstA S i : Int) := by simp [nth, fstA, h]
theorem fstA_mem {S : Cos} {i : Nat} (h : i < S.fst.length) : fstA S i ∈ S.fst := by simp [fstA, h]
def quoV (t : List (List Int)) (S : Cos) (i j : Nat) : Nat := S.num (mul t (fstA S i) (fstA S j))

set_option maxRecDepth 100000 in
set_option maxHeartbeats 8000000 in
theorem l01Quotient_any (A L : Option Addr) (t : List (List Int)) (xs : List Int) (c c' : Nat) (w : World) (hR : RwsW w A t) (hX : IntsW w L xs) (hg : IsGrp t) (hx : xs.length ≤ 1048576) (hr : ∀ i, i < xs.length → 0 ≤ nth xs i ∧ nth xs i < t.length) (S : Cos) (hS : cosK t (elsL xs) t.length = S) :
    Calls Tryd.prog 152 #[.agg #[.slice A t.length c], .slice L xs.length c'] w fun e w' => ∃ CC n D, e = .returned (.tuple #[.agg #[.slice CC S.fst.length n], .slice (some ⟨D, 0, none⟩) t.length t.length]) ∧ Ex w w' ∧ w.heap.size ≤ D ∧ Has w' D 2 (tab t.length fun x => .int .i64 (S.num x : Int)) ∧ OwnT w' (D + 1) w'.heap.size CC (mkT S.fst.length S.fst.length fun i j => (quoV t S i j : Int)) := by
  obtain ⟨i0, hi, hi0, hi1, hi2⟩ := info_parts infoI
  obtain ⟨iS, gi, gi0, gi1, gi2⟩ := info_parts infoS
  have hn8 := hg.n8
  have hn1 := hg.n1
  have hels : ∀ b ∈ elsL xs, b < t.length := fun b hb => by
    obtain ⟨x, hx, rfl⟩ := List.mem_map.1 hb
    obtain ⟨i, hi, rfl⟩ := List.getElem_of_mem hx
    have h := hr i hi
    rw [show nth xs i = xs[i] by simp [nth, hi]] at h
    omega
  have hcb := cosK_b hg hels t.length (Nat.le_refl _)
  have hpos := cosK_pos (t := t) (els := elsL xs) t.length hn1
  have HCO := Lib.hid (fun W (he : Ex w W) => hS ▸ l01Cosets_any A L t xs c c' W (hR.ex he) (hX.ex he) hg hx hr)
  rw [hS] at hcb hpos
  obtain ⟨b, o, bb, oo, C, rfl, hQ⟩ := hR.sq hg
  have HEN := Lib.hid (fun x y (hx : x < t.length) (hy : y < t.length) W (he : Ex w W) => (⟨(hQ.ex he).row_ hx, by rw [(hQ.ex he).ent_ hx hy, hg.ent hx hy], hg.mul_lt hx hy⟩ : W.cell? ⟨b, o + x, none⟩ = some (.slice (some ⟨bb x, oo x, none⟩) t.length (C x)) ∧ W.cell? ⟨bb x, oo x + y, none⟩ = some (.int .i64 (mul t x y : Int)) ∧ mul t x y < t.length))
  have HFL := Lib.hid (fun i (hi : i < S.fst.length) => hcb.lt _ (fstA_mem hi))
  have HFN := Lib.hid (fun i (hi : i < S.fst.length) => fstA_nth hi)
  have hK8 : S.fst.length ≤ 8 := by have := hcb.len; omega
  obtain ⟨K, hK⟩ : ∃ K, S.fst.length = K := ⟨_, rfl⟩
  rw [hK] at HCO HFL HFN hK8 hpos ⊢
  have e0 : Ex w ((w.alloc (.cells #[.slice (some ⟨b, o, none⟩) t.length c] 27)).alloc (.cells #[.slice none 0 0] 27)) := ((Ex.refl w).alloc _).alloc _
  have b0 : Has ((w.alloc (.cells #[.slice (some ⟨b, o, none⟩) t.length c] 27)).alloc (.cells #[.slice none 0 0] 27)) (w.heap.size) 27 #[.slice (some ⟨b, o, none⟩) t.length c] := ((Has.newAt (w := w) (e := 27) (cs := #[.slice (some ⟨b, o, none⟩) t.length c]) (k := w.heap.size) (by simp)).alloc _)
  have b1 : Has ((w.alloc (.cells #[.slice (some ⟨b, o, none⟩) t.length c] 27)).alloc (.cells #[.slice none 0 0] 27)) (w.heap.size + 1) 27 #[.slice none 0 0] := (Has.newAt (w := (w.alloc (.cells #[.slice (some ⟨b, o, none⟩) t.length c] 27))) (e := 27) (cs := #[.slice none 0 0]) (k := w.heap.size + 1) (by simp))
  have HE0 := Lib.hid e0
  have HB0 := Lib.hid b0
  have HB1 := Lib.hid b1
  have c0 := b0.cell 0
  have hlb := b1.lt
  clear hR hX hg hr hQ hels hcb hK hS
  go_enter Tryd.func152, Tryd.ntmps152
  go_wp2_with fail
  generalize ((w.alloc (.cells #[.slice (some ⟨b, o, none⟩) t.length c] 27)).alloc (.cells #[.slice none 0 0] 27)) = W0 at *
  refine (HCO.out _ HE0.out).mono ?_
  rintro e W1 ⟨D, v, rfl, he1, hlD, hD, hG⟩
  obtain ⟨gf, cf, rfl, hlf, hltf, hcf, -⟩ := hG.row hpos
  have HFC := Lib.hid (fun i (hi : i < K) W (he : Ex W1 W) => ((he.below.cell (p := ⟨gf, i, none⟩) hltf).trans (by rw [hcf i hi, HFN.out i hi]) : W.cell? ⟨gf, i, none⟩ = some (.int .i64 (fstA S i : Int))))
  have HDC := Lib.hid (fun z (hz : z < t.length) W (he : Ex W1 W) => (by rw [(hD.ex he).cell, tab_get hz] : W.cell? ⟨D, z, none⟩ = some (.int .i64 (S.num z : Int))))
  obtain ⟨z, hz⟩ : ∃ z, W1.heap.size = z := ⟨_, rfl⟩
  have hDz : D < z := by have := hD.lt; omega
  have hwD : w.heap.size + 1 < D := by
    have h1 := hlb
    omega
  have ea := (Ex.new W1 (.cells #[] 25)).alloc (.cells #[.slice (some ⟨z, 0, none⟩) 0 0] 27)
  have HXs := Lib.hid ea
  have HW1 := Lib.hid (HE0.out.trans he1)
  have HD1 := Lib.hid hD
  have HO : Hid (Has ((W1.alloc (.cells #[] 25)).alloc (.cells #[.slice (some ⟨z, 0, none⟩) 0 0] 27)) (z + 1) 27 #[.slice (some ⟨z, 0, none⟩) 0 0]) := Lib.hid (Has.newAt (by simp [hz]))
  have HG : Hid (GrowT ((W1.alloc (.cells #[] 25)).alloc (.cells #[.slice (some ⟨z, 0, none⟩) 0 0] 27)) z (.slice (some ⟨z, 0, none⟩) 0 0) 0 K fun i j => (quoV t S i j : Int)) := Lib.hid (by
    have := GrowT.empty (lo := z) W1 K (fun i j => (quoV t S i j : Int)) (by omega)
    rw [hz] at this
    exact this.ex (Ex.new _ _))
  have HA0 := Lib.hid (HB0.out.ex he1)
  have HA1 := Lib.hid (HB1.out.ex he1)
  have HZ := Lib.hid hz
  clear b0 b1 e0 he1 ea c0 hD hG hcf hlb
  go_wp2_with fail
  generalize ((W1.alloc (.cells #[] 25)).alloc (.cells #[.slice (some ⟨z, 0, none⟩) 0 0] 27)) = W2 at *
  clear hz
  go_loopw [9] (fun i wr => ∃ (k : Nat) (v : Value), k ≤ K ∧ i = .int .i64 (k : Int) ∧ Hid (Ex W1 wr) ∧ Hid (Has wr (z + 1) 27 #[v]) ∧ Hid (GrowT wr z v k K fun i j => (quoV t S i j : Int))) (fun i _ => K - (intOf i).toNat)
  case atStart => exact ⟨0, _, Nat.zero_le _, rfl, HXs, HO, HG⟩
  case round =>
    clear HXs HO HG
    obtain ⟨k, v, hk, rfl, HX, HO, HG⟩ := hrel
    obtain ⟨wo, rfl⟩ : ∃ x : World, x = wr := ⟨_, rfl⟩
    obtain ⟨A, cA, rfl, -⟩ := HG.out.own
    by_cases hlt : k < K
    · obtain ⟨G, CC, hown, hrows⟩ := HG.out
      have HOW := Lib.hid hown
      have HRO := Lib.hid hrows
      have HGZ := Lib.hid (fun i (hi : i < k) => (hrows.lt hi : G i < wo.heap.size))
      have HEs := Lib.hid (Ex.new wo (.cells #[] 2))
      have HG0 : Hid (GrowI (wo.alloc (.cells #[] 2)) wo.heap.size (.slice (some ⟨wo.heap.size, 0, none⟩) 0 0) 0 (rowP (fun y => (quoV t S k y : Int)) 0)) := Lib.hid (GrowI.empty (lo := wo.heap.size) wo (Nat.le_refl _))
      clear hown hrows HG
      go_wp2_with fail
      generalize wo.alloc (.cells #[] 2) = W4 at *
      go_loopw [10, 11] (fun rv i wr => ∃ j : Nat, j ≤ K ∧ i = .int .i64 (j : Int) ∧ Hid (Ex wo wr) ∧ Hid (GrowI wr wo.heap.size rv j (rowP (fun y => (quoV t S k y : Int)) j))) (fun _ i _ => K - (intOf i).toNat)
      case atStart => exact ⟨0, Nat.zero_le _, rfl, HEs, HG0⟩
      case round =>
        clear HEs HG0
        obtain ⟨j, hj, rfl, HEr, HGr⟩ := hrel
        by_cases hjl : j < K
        · have hx := HFL.out k hlt
          have hy := HFL.out j hjl
          obtain ⟨q, hq⟩ : ∃ q, quoV t S k j = q := ⟨_, rfl⟩
          have HS : Hid (rowP (fun y => (quoV t S k y : Int)) (j + 1) = rowP (fun y => (quoV t S k y : Int)) j ++ [(q : Int)]) := Lib.hid (by rw [rowP_snoc, hq])
          have HCC0 := Lib.hid (fun W (he : Ex wo W) => And.intro ((HA0.out.ex (HX.out.trans he)).cell 0) (And.intro (HFC.out k hlt W (HX.out.trans he)) (And.intro (HFC.out j hjl W (HX.out.trans he)) (HEN.out _ _ hx hy W (HW1.out.trans (HX.out.trans he))))))
          have HDZ := Lib.hid (fun W (he : Ex wo W) => HDC.out (mul t (fstA S k) (fstA S j)) (HEN.out _ _ hx hy W1 HW1.out).2.2 W (HX.out.trans he))
          rw [show S.num (mul t (fstA S k) (fstA S j)) = q from hq] at HDZ
          obtain ⟨x, hxe⟩ : ∃ x, fstA S k = x := ⟨_, rfl⟩
          obtain ⟨y, hye⟩ : ∃ y, fstA S j = y := ⟨_, rfl⟩
          rw [hxe, hye] at HCC0 HDZ
          rw [hxe] at hx
          rw [hye] at hy
          obtain ⟨m, hm⟩ : ∃ m, mul t x y = m := ⟨_, rfl⟩
          rw [hm] at HCC0 HDZ
          have hmN : m < t.length := (HCC0.out wo (Ex.refl _)).2.2.2.2.2
          have HCC := Lib.hid (fun W (he : Ex wo W) => (by obtain ⟨h1, h2, h3, h4, h5, _⟩ := HCC0.out W he; exact ⟨h1, h2, h3, h4, h5, HDZ.out W he⟩ :
            W.cell? ⟨w.heap.size, 0, none⟩ = some (.slice (some ⟨b, o, none⟩) t.length c) ∧ W.cell? ⟨gf, k, none⟩ = some (.int .i64 (x : Int)) ∧ W.cell? ⟨gf, j, none⟩ = some (.int .i64 (y : Int)) ∧ W.cell? ⟨b, o + x, none⟩ = some (.slice (some ⟨bb x, oo x, none⟩) t.length (C x)) ∧ W.cell? ⟨bb x, oo x + y, none⟩ = some (.int .i64 (m : Int)) ∧ W.cell? ⟨D, m, none⟩ = some (.int .i64 (q : Int))))
          clear HCC0 HDZ hq hxe hye hm
          go_wp2_with fail
          have HE := Lib.hid HEr.out.drew
          have HG := Lib.hid (HGr.out.ex (Ex.refl wr).drew)
          have hC0 := HCC.out _ HE.out
          refine Late.region (C := fun W => W.cell? ⟨w.heap.size, 0, none⟩ = some (.slice (some ⟨b, o, none⟩) t.length c) ∧ W.cell? ⟨gf, k, none⟩ = some (.int .i64 (x : Int)) ∧ W.cell? ⟨gf, j, none⟩ = some (.int .i64 (y : Int)) ∧ W.cell? ⟨b, o + x, none⟩ = some (.slice (some ⟨bb x, oo x, none⟩) t.length (C x)) ∧ W.cell? ⟨bb x, oo x + y, none⟩ = some (.int .i64 (m : Int)) ∧ W.cell? ⟨D, m, none⟩ = some (.int .i64 (q : Int)))
            (fun j => decide (j < 20)) (by kernel_rfl) hC0 (fun hC => ?_)
          refine Late.take (i := 0) (oi := ⟨_, _, _, _, _, _⟩) (v := ?_) rfl (by kernel_rfl) (by kernel_rfl) (by kernel_rfl) (by kernel_rfl) (fun _ _ _ h => h) (Or.inl ⟨by rfl, ?_⟩) hC ?_
          rotate_left
          · (intro w hSw; (try dsimp only at hSw); go_simp; first | done | with_reducible rfl)
          simp only [Act.put, List.setIfInBounds_toArray, List.set_cons_zero, List.set_cons_succ]
          refine Late.take (i := 1) (oi := ⟨_, _, _, _, _, _⟩) (v := ?_) rfl (by kernel_rfl) (by kernel_rfl) (by kernel_rfl) (by kernel_rfl) (fun _ _ _ h => h) (Or.inl ⟨by rfl, ?_⟩) hC ?_
          rotate_left
          · (intro w hSw; (try dsimp only at hSw); go_simp; first | done | with_reducible rfl)
          simp only [Act.put, List.setIfInBounds_toArray, List.set_cons_zero, List.set_cons_succ]
          refine Late.take (i := 2) (oi := ⟨_, _, _, _, _, _⟩) (v := ?_) rfl (by kernel_rfl) (by kernel_rfl) (by kernel_rfl) (by kernel_rfl) (fun _ _ _ h => h) (Or.inl ⟨by rfl, ?_⟩) hC ?_
          rotate_left
          · (intro w hSw; (try dsimp only at hSw); go_simp; first | done | with_reducible rfl)
          simp only [Act.put, List.setIfInBounds_toArray, List.set_cons_zero, List.set_cons_succ]
          refine Late.take (i := 3) (oi := ⟨_, _, _, _, _, _⟩) (v := ?_) rfl (by kernel_rfl) (by kernel_rfl) (by kernel_rfl) (by kernel_rfl) (fun _ _ _ h => h) (Or.inl ⟨by rfl, ?_⟩) hC ?_
          rotate_left
          · (intro w hSw; (try dsimp only at hSw); go_simp; first | done | with_reducible rfl)
          simp only [Act.put, List.setIfInBounds_toArray, List.set_cons_zero, List.set_cons_succ]
          refine Late.take (i := 4) (oi := ⟨_, _, _, _, _, _⟩) (v := ?_) rfl (by kernel_rfl) (by kernel_rfl) (by kernel_rfl) (by kernel_rfl) (fun _ _ _ h => h) (Or.inl ⟨by rfl, ?_⟩) hC ?_
          rotate_left
          · (intro w hSw; (try dsimp only at hSw); go_simp; first | done | with_reducible rfl)
          simp only [Act.put, List.setIfInBounds_toArray, List.set_cons_zero, List.set_cons_succ]
          refine Late.take (i := 5) (oi := ⟨_, _, _, _, _, _⟩) (v := ?_) rfl (by kernel_rfl) (by kernel_rfl) (by kernel_rfl) (by kernel_rfl) (fun _ _ _ h => h) (Or.inl ⟨by rfl, ?_⟩) hC ?_
          rotate_left
          · (intro w hSw; (try dsimp only at hSw); go_simp; first | done | with_reducible rfl)
          simp only [Act.put, List.setIfInBounds_toArray, List.set_cons_zero, List.set_cons_succ]
          refine Late.take (i := 6) (oi := ⟨_, _, _, _, _, _⟩) (v := ?_) rfl (by kernel_rfl) (by kernel_rfl) (by kernel_rfl) (by kernel_rfl) (fun _ _ _ h => h) (Or.inl ⟨by rfl, ?_⟩) hC ?_
          rotate_left
          · (intro w hSw; (try dsimp only at hSw); go_simp; first | done | with_reducible rfl)
          simp only [Act.put, List.setIfInBounds_toArray, List.set_cons_zero, List.set_cons_succ]
          refine Late.take (i := 7) (oi := ⟨_, _, _, _, _, _⟩) (v := ?_) rfl (by kernel_rfl) (by kernel_rfl) (by kernel_rfl) (by kernel_rfl) (fun _ _ _ h => h) (Or.inl ⟨by rfl, ?_⟩) hC ?_
          rotate_left
          · (intro w hSw; (try dsimp only at hSw); go_simp; first | done | with_reducible rfl)
          simp only [Act.put, List.setIfInBounds_toArray, List.set_cons_zero, List.set_cons_succ]
          refine Late.take (i := 8) (oi := ⟨_, _, _, _, _, _⟩) (v := ?_) rfl (by kernel_rfl) (by kernel_rfl) (by kernel_rfl) (by kernel_rfl) (fun _ _ _ h => h) (Or.inl ⟨by rfl, ?_⟩) hC ?_
          rotate_left
          · (intro w hSw; (try dsimp only at hSw); go_simp; first | done | with_reducible rfl)
          simp only [Act.put, List.setIfInBounds_toArray, List.set_cons_zero, List.set_cons_succ]
          refine Late.take (i := 9) (oi := ⟨_, _, _, _, _, _⟩) (v := ?_) rfl (by kernel_rfl) (by kernel_rfl) (by kernel_rfl) (by kernel_rfl) (fun _ _ _ h => h) (Or.inl ⟨by rfl, ?_⟩) hC ?_
          rotate_left
          · (intro w hSw; (try dsimp only at hSw); go_simp; first | done | with_reducible rfl)
          simp only [Act.put, List.setIfInBounds_toArray, List.set_cons_zero, List.set_cons_succ]
          refine Late.take (i := 10) (oi := ⟨_, _, _, _, _, _⟩) (v := ?_) rfl (by kernel_rfl) (by kernel_rfl) (by kernel_rfl) (by kernel_rfl) (fun _ _ _ h => h) (Or.inl ⟨by rfl, ?_⟩) hC ?_
          rotate_left
          · (intro w hSw; (try dsimp only at hSw); go_simp; first | done | with_reducible rfl)
          simp only [Act.put, List.setIfInBounds_toArray, List.set_cons_zero, List.set_cons_succ]
          refine Late.take (i := 11) (oi := ⟨_, _, _, _, _, _⟩) (v := ?_) rfl (by kernel_rfl) (by kernel_rfl) (by kernel_rfl) (by kernel_rfl) (fun _ _ _ h => h) (Or.inl ⟨by rfl, ?_⟩) hC ?_
          rotate_left
          · (intro w hSw; (try dsimp only at hSw); go_simp; first | done | with_reducible rfl)
          simp only [Act.put, List.setIfInBounds_toArray, List.set_cons_zero, List.set_cons_succ]
          refine Late.take (i := 12) (oi := ⟨_, _, _, _, _, _⟩) (v := ?_) rfl (by kernel_rfl) (by kernel_rfl) (by kernel_rfl) (by kernel_rfl) (fun _ _ _ h => h) (Or.inl ⟨by rfl, ?_⟩) hC ?_
          rotate_left
          · (intro w hSw; (try dsimp only at hSw); go_simp; first | done | with_reducible rfl)
          simp only [Act.put, List.setIfInBounds_toArray, List.set_cons_zero, List.set_cons_succ]
          refine Late.take (i := 13) (oi := ⟨_, _, _, _, _, _⟩) (v := ?_) rfl (by kernel_rfl) (by kernel_rfl) (by kernel_rfl) (by kernel_rfl) (fun _ _ _ h => h) (Or.inl ⟨by rfl, ?_⟩) hC ?_
          rotate_left
          · (intro w hSw; (try dsimp only at hSw); go_simp; first | done | with_reducible rfl)
          simp only [Act.put, List.setIfInBounds_toArray, List.set_cons_zero, List.set_cons_succ]
          refine Late.take (i := 14) (oi := ⟨_, _, _, _, _, _⟩) (v := ?_) rfl (by kernel_rfl) (by kernel_rfl) (by kernel_rfl) (by kernel_rfl) (fun _ _ _ h => h) (Or.inl ⟨by rfl, ?_⟩) hC ?_
          rotate_left
          · (intro w hSw; (try dsimp only at hSw); go_simp; first | done | with_reducible rfl)
          simp only [Act.put, List.setIfInBounds_toArray, List.set_cons_zero, List.set_cons_succ]
          refine Late.take (i := 15) (oi := ⟨_, _, _, _, _, _⟩) (v := ?_) rfl (by kernel_rfl) (by kernel_rfl) (by kernel_rfl) (by kernel_rfl) (fun _ _ _ h => h) (Or.inl ⟨by rfl, ?_⟩) hC ?_
          rotate_left
          · (intro w hSw; (try dsimp only at hSw); go_simp; first | done | with_reducible rfl)
          simp only [Act.put, List.setIfInBounds_toArray, List.set_cons_zero, List.set_cons_succ]
          refine Late.take (i := 16) (oi := ⟨_, _, _, _, _, _⟩) (v := ?_) rfl (by kernel_rfl) (by kernel_rfl) (by kernel_rfl) (by kernel_rfl) (fun _ _ _ h => h) (Or.inl ⟨by rfl, ?_⟩) hC ?_
          rotate_left
          · (intro w hSw; (try dsimp only at hSw); go_simp; first | done | with_reducible rfl)
          simp only [Act.put, List.setIfInBounds_toArray, List.set_cons_zero, List.set_cons_succ]
          refine Late.take (i := 17) (oi := ⟨_, _, _, _, _, _⟩) (v := ?_) rfl (by kernel_rfl) (by kernel_rfl) (by kernel_rfl) (by kernel_rfl) (fun _ _ _ h => h) (Or.inl ⟨by rfl, ?_⟩) hC ?_
          rotate_left
          · (intro w hSw; (try dsimp only at hSw); go_simp; first | done | with_reducible rfl)
          simp only [Act.put, List.setIfInBounds_toArray, List.set_cons_zero, List.set_cons_succ]
          clear hC hC0
          generalize wr.drew = X at *
          refine Late.one (i := 18) (o := _) (by kernel_rfl) rfl (fun K' hK' => ?_)
          go_simp
          have e1 := HE.out.alloc (.cells #[.int .i64 (q : Int)] 2)
          have g1 := HG.out.ex (Ex.new X (.cells #[.int .i64 (q : Int)] 2))
          have hn1 := cell_one_new X (.int .i64 (q : Int)) 2
          have hz1 : X.heap.size + 1 = (X.alloc (.cells #[.int .i64 (q : Int)] 2)).heap.size := by simp
          have hx1 := Ex.new X (.cells #[.int .i64 (q : Int)] 2)
          refine hK'.out _ _ (fun _ => HCC.out _ e1) (fun _ => ?_)
          clear hK' K'
          generalize X.alloc (.cells #[.int .i64 (q : Int)] 2) = w1 at *
          try simp only [Act.put, List.setIfInBounds_toArray, List.set_cons_zero, List.set_cons_succ]
          refine Late.one (i := 19) (o := _) (by kernel_rfl) rfl (fun K' hK' => ?_)
          rw [if_pos (by rfl)]
          refine wp_append_own _ _ _ 25 rfl wo.heap.size 2 i0 (.int .i64 0) 1 8 Tryd.underlying25 hi hi0 hi1 hi2 rfl (by decide) _ _ _ rfl g1.1 ⟨X.heap.size, 0, none⟩ 1 1 [.int .i64 (q : Int)] rfl rfl hn1 (by simp [Value.oneCell']) (by unfold maxLen; omega) (by omega) (by have := e1.size; omega) ?_
          intro v' w3 hown3 hgrow3 _
          have HE3 := Lib.hid (Ex.grew e1 g1 (Nat.le_refl _) hgrow3)
          have HG3 := Lib.hid (g1.snoc hown3)
          refine hK'.out _ _ (fun _ => HCC.out _ HE3.out) (fun _ => ?_)
          clear hK' K' hown3 hgrow3 g1 e1 hn1 hx1 
          try simp only [Act.put]
          refine Late.one (i := 20) (o := _) (by kernel_rfl) rfl (fun K' hK' => ?_)
          go_simp
          refine hK'.out _ _ (fun h => by cases h) (fun _ => ?_)
          clear hK' K'
          try simp only [Act.put, List.setIfInBounds_toArray, List.set_cons_zero, List.set_cons_succ]
          refine Late.done (by kernel_rfl) ?_ _
          go_wp2_with fail
          go_roundw
          case rel => exact ⟨j + 1, by omega, by go_num, HE3, by rw [HS.out]; exact HG3⟩
          case measure => simp [intOf]; omega
        · obtain rfl : j = K := by omega
          obtain ⟨g, cg, cs, rfl, hzg, hjc, hhas, hget⟩ := row_block HGr.out.1 hpos
          have HHAS := Lib.hid hhas
          have HGET := Lib.hid hget
          have HOM := Lib.hid (own_below HOW.out HEr.out)
          have HRM := Lib.hid (HRO.out.ex HEr.out)
          have HBM := Lib.hid (HO.out.ex HEr.out)
          have cO := HBM.out.cell 0
          clear hhas hget
          go_wp2_with (at_builtin; refine wpList_append_own _ rfl _ _ 22 rfl z 25 iS (.slice none 0 0) 1 24 Tryd.underlying22 gi gi0 gi1 gi2 rfl (by decide) _ _ _ rfl (HOM.out.alloc _) ⟨wr.heap.size, 0, none⟩ 1 1 [.slice (some ⟨g, 0, none⟩) j cg] rfl rfl (cell_one_new _ _ _) (by simp [Value.oneCell']) (by unfold maxLen; omega) (by omega) (by have := (HX.out.trans HEr.out).size; have := HZ.out; simp; omega) ?_; intro v' w3 hown3 hgrow3 _; have HX3 := Lib.hid (Ex.grewR ((HX.out.trans HEr.out).alloc _) (HOM.out.alloc _) (by have := HZ.out; omega) hgrow3); have HBM3 := Lib.hid (Has.grewR (HBM.out.alloc _) (by decide) (HOM.out.alloc _) hgrow3); have HGT := Lib.hid (GrowT.push (V := fun i j => (quoV t S i j : Int)) (HOM.out.alloc _) (HRM.out.ex (Ex.new wr _)) (by have := HX.out.size; have := HZ.out; omega) (HHAS.out.alloc _) (fun i hi => (HGET.out i hi).trans (rowP_get hi)) (fun i hi => by have := HGZ.out i hi; omega) hgrow3 hown3); obtain ⟨A3, cA3, rfl, -⟩ := HGT.out.own; have cO3 := HBM3.out.cell 0; have fO3 := HBM3.out.free 0; clear hown3 hgrow3)
          go_roundw
          case rel => exact ⟨k + 1, _, by omega, by go_num, Lib.hid (HX3.out.setCell (p := ⟨z + 1, 0, none⟩) (by have := HZ.out; show W1.heap.size ≤ z + 1; omega) _), Lib.hid HBM3.out.put1, Lib.hid (HGT.out.set HBM3.out (by decide) (by decide) 0 _)⟩
          case measure => simp [intOf]; omega
    · obtain rfl : k = K := by omega
      have HBR := Lib.hid (HA1.out.ex HX.out)
      have HG9 := Lib.hid HG.out
      have HD9 := Lib.hid (HD1.out.ex HX.out)
      have cO := HO.out.cell 0
      have cr := HBR.out.cell 0
      have fr := HBR.out.free 0
      go_wp2_with fail
      have H4 := HBR.out.put1 (v := .slice A k cA)
      have c4 := H4.cell 0
      obtain ⟨A', c', e', hO⟩ := (HG9.out.set HBR.out (by decide) (by decide) 0 (.slice A k cA)).own
      simp only [Value.slice.injEq] at e'
      obtain ⟨rfl, _, rfl⟩ := e'
      refine bodyPost_ret (v := .tuple #[.agg #[.slice A k cA], .slice (some ⟨D, 0, none⟩) t.length t.length]) (by simp [results, Tryd.results152, go_sem, c4]) rfl ⟨A, cA, D, rfl, (HW1.out.trans HX.out).setCell (p := ⟨w.heap.size + 1, 0, none⟩) (by show w.heap.size ≤ w.heap.size + 1; omega) _, by omega, HD9.out.far (p := ⟨w.heap.size + 1, 0, none⟩) (by show D ≠ w.heap.size + 1; omega) _, hO.mono (by omega) (Nat.le_refl _) (Nat.le_refl _)⟩

end Go.Proofs.YtalejhbdbclfaaaDoor
