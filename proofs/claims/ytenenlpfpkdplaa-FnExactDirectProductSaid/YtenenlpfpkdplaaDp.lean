/- DirectProduct: the model, the specification's table. -/
import Derived.Test.YtenenlpfpkdplaaGw
import Derived.Test.YtenenlpfpkdplaaLst
namespace Go.Proofs.Ytenenlpfpkdplaa
open Go.RowKit Go.Shelf

attribute [local go_sem] Oper.semAt_some

/-- The product of two pairs. -/
def prdN (t u : List (List Int)) (x y : Nat) : Nat := u.length * mul t (x / u.length) (y / u.length) + mul u (x % u.length) (y % u.length)
/-- What is wrong with two factors. -/
noncomputable def dpC (t u : List (List Int)) : Int := if grpB t = true ∧ grpB u = true then (if t.length * u.length ≤ 8 then 0 else 3) else 1
noncomputable def yDirectProduct0 (t u : List (List Int)) : List (List Int) := if dpC t u = 0 then mkT (t.length * u.length) (t.length * u.length) fun x y => (prdN t u x y : Int) else []
noncomputable def qDirectProduct1 (t u : List (List Int)) : Int := dpC t u
theorem dp_zero {t u : List (List Int)} (h : dpC t u = 0) : IsGrp t ∧ IsGrp u ∧ t.length * u.length ≤ 8 := by
  unfold dpC at h
  split at h
  · rename_i h1
    split at h
    · rename_i h2
      exact ⟨grpB_iff.1 h1.1, grpB_iff.1 h1.2, h2⟩
    · omega
  · omega
theorem directProduct_small0 (t u : List (List Int)) : SmallT (yDirectProduct0 t u) := by
  unfold yDirectProduct0
  split
  · rename_i h
    have := (dp_zero h).2.2
    exact mkT_small (by omega) (by omega)
  · exact ⟨by simp, fun i hi => by simp at hi⟩

/-- The numbers that a product is made of. -/
structure PrdF (t u : List (List Int)) (x y a b c d p q v : Nat) : Prop where
  ha : a < t.length
  hb : b < t.length
  hc : c < u.length
  hd : d < u.length
  t1 : Int.tdiv (x : Int) (u.length : Int) = (a : Int)
  t2 : Int.tdiv (y : Int) (u.length : Int) = (b : Int)
  t3 : Int.tmod (x : Int) (u.length : Int) = (c : Int)
  t4 : Int.tmod (y : Int) (u.length : Int) = (d : Int)
  w1 : IntKind.i64.wrap (a : Int) = (a : Int)
  w2 : IntKind.i64.wrap (b : Int) = (b : Int)
  q1 : IntKind.i64.wrap ((x : Int) / (u.length : Int)) = (a : Int)
  q2 : IntKind.i64.wrap ((y : Int) / (u.length : Int)) = (b : Int)
  q3 : IntKind.i64.wrap ((x : Int) % (u.length : Int)) = (c : Int)
  q4 : IntKind.i64.wrap ((y : Int) % (u.length : Int)) = (d : Int)
  hp : mul t a b = p
  hq : mul u c d = q
  hv : u.length * p + q = v
  hpv : (u.length : Int) * (p : Int) + (q : Int) = (v : Int)
  hw0 : IntKind.i64.wrap ((u.length : Int) * (p : Int)) = (u.length : Int) * (p : Int)
  hw : IntKind.i64.wrap (v : Int) = (v : Int)
  le : v ≤ 72
theorem prd_facts {t u : List (List Int)} (ht : IsGrp t) (hu : IsGrp u) {x y : Nat} (hx : x < t.length * u.length) (hy : y < t.length * u.length) : ∃ a b c d p q v, PrdF t u x y a b c d p q v ∧ prdN t u x y = v := by
  have hm := hu.n1
  have h8 := hu.n8
  have h8' := ht.n8
  have ha : x / u.length < t.length := (Nat.div_lt_iff_lt_mul hm).2 hx
  have hb : y / u.length < t.length := (Nat.div_lt_iff_lt_mul hm).2 hy
  have hc : x % u.length < u.length := Nat.mod_lt _ hm
  have hd : y % u.length < u.length := Nat.mod_lt _ hm
  have hp := ht.mul_lt ha hb
  have hq := hu.mul_lt hc hd
  have hle : u.length * mul t (x / u.length) (y / u.length) ≤ 8 * 8 := Nat.mul_le_mul h8 (by omega)
  have e : (u.length : Int) * (mul t (x / u.length) (y / u.length) : Int) = ((u.length * mul t (x / u.length) (y / u.length) : Nat) : Int) := by simp
  have hw : ∀ z : Nat, z < 9 → IntKind.i64.wrap (z : Int) = (z : Int) := fun z hz => IntWalk.i64_in _ (by omega)
  refine ⟨_, _, _, _, _, _, _, ⟨ha, hb, hc, hd, (Int.ofNat_tdiv _ _).symm, (Int.ofNat_tdiv _ _).symm, tmod_nat _ _, tmod_nat _ _, hw _ (by omega), hw _ (by omega), by rw [← Int.natCast_ediv]; exact hw _ (by omega), by rw [← Int.natCast_ediv]; exact hw _ (by omega), by rw [← Int.natCast_emod]; exact hw _ (by omega), by rw [← Int.natCast_emod]; exact hw _ (by omega), rfl, rfl, rfl, ?_, ?_, ?_, ?_⟩, rfl⟩
  · rw [e]; simp
  · rw [e]; exact IntWalk.i64_in _ (by omega)
  · exact IntWalk.i64_in _ (by omega)
  · omega

set_option maxRecDepth 100000 in
set_option maxHeartbeats 4000000 in
theorem l01Product_any (B0 B1 : Option Addr) (t u : List (List Int)) (d0 d1 : Nat) (w : World) (hR : RwsW w B0 t) (hR1 : RwsW w B1 u) (ht : IsGrp t) (hu : IsGrp u) :
    Calls Try.prog 38 #[.agg #[.slice B0 t.length d0], .agg #[.slice B1 u.length d1]] w fun e w' => ∃ C n, e = .returned (.agg #[.slice C (t.length * u.length) n]) ∧ Ex w w' ∧ OwnT w' w.heap.size w'.heap.size C (mkT (t.length * u.length) (t.length * u.length) fun x y => (prdN t u x y : Int)) := by
  obtain ⟨i0, hi, hi0, hi1, hi2⟩ := info_parts infoI
  obtain ⟨iS, gi, gi0, gi1, gi2⟩ := info_parts infoS
  obtain ⟨b, o, bb, oo, C, rfl, hQ⟩ := hR.sq ht
  obtain ⟨b', o', bb', oo', C', rfl, hQ1⟩ := hR1.sq hu
  have hn1 := ht.n1
  have hm1 := hu.n1
  have hn8 := ht.n8
  have hm8 := hu.n8
  have hK64 : t.length * u.length ≤ 64 := Nat.le_trans (Nat.mul_le_mul hn8 hm8) (by omega)
  have hK1 : 0 < t.length * u.length := Nat.mul_pos hn1 hm1
  have HPF := Lib.hid (fun x y hx hy => prd_facts ht hu (x := x) (y := y) hx hy)
  have HE1 := Lib.hid (fun x y (hx : x < t.length) (hy : y < t.length) W (he : Ex w W) => (⟨(hQ.ex he).row_ hx, by rw [(hQ.ex he).ent_ hx hy, ht.ent hx hy]⟩ : W.cell? ⟨b, o + x, none⟩ = some (.slice (some ⟨bb x, oo x, none⟩) t.length (C x)) ∧ W.cell? ⟨bb x, oo x + y, none⟩ = some (.int .i64 (mul t x y : Int))))
  have HE2 := Lib.hid (fun x y (hx : x < u.length) (hy : y < u.length) W (he : Ex w W) => (⟨(hQ1.ex he).row_ hx, by rw [(hQ1.ex he).ent_ hx hy, hu.ent hx hy]⟩ : W.cell? ⟨b', o' + x, none⟩ = some (.slice (some ⟨bb' x, oo' x, none⟩) u.length (C' x)) ∧ W.cell? ⟨bb' x, oo' x + y, none⟩ = some (.int .i64 (mul u x y : Int))))
  have e0 : Ex w (((w.alloc (.cells #[.slice (some ⟨b, o, none⟩) t.length d0] 29)).alloc (.cells #[.slice (some ⟨b', o', none⟩) u.length d1] 29)).alloc (.cells #[.slice none 0 0] 29)) := (((Ex.refl w).alloc _).alloc _).alloc _
  have b0 : Has (((w.alloc (.cells #[.slice (some ⟨b, o, none⟩) t.length d0] 29)).alloc (.cells #[.slice (some ⟨b', o', none⟩) u.length d1] 29)).alloc (.cells #[.slice none 0 0] 29)) (w.heap.size) 29 #[.slice (some ⟨b, o, none⟩) t.length d0] := (((Has.newAt (w := w) (e := 29) (cs := #[.slice (some ⟨b, o, none⟩) t.length d0]) (k := w.heap.size) (by simp)).alloc _).alloc _)
  have b1 : Has (((w.alloc (.cells #[.slice (some ⟨b, o, none⟩) t.length d0] 29)).alloc (.cells #[.slice (some ⟨b', o', none⟩) u.length d1] 29)).alloc (.cells #[.slice none 0 0] 29)) (w.heap.size + 1) 29 #[.slice (some ⟨b', o', none⟩) u.length d1] := ((Has.newAt (w := (w.alloc (.cells #[.slice (some ⟨b, o, none⟩) t.length d0] 29))) (e := 29) (cs := #[.slice (some ⟨b', o', none⟩) u.length d1]) (k := w.heap.size + 1) (by simp)).alloc _)
  have b2 : Has (((w.alloc (.cells #[.slice (some ⟨b, o, none⟩) t.length d0] 29)).alloc (.cells #[.slice (some ⟨b', o', none⟩) u.length d1] 29)).alloc (.cells #[.slice none 0 0] 29)) (w.heap.size + 1 + 1) 29 #[.slice none 0 0] := (Has.newAt (w := ((w.alloc (.cells #[.slice (some ⟨b, o, none⟩) t.length d0] 29)).alloc (.cells #[.slice (some ⟨b', o', none⟩) u.length d1] 29))) (e := 29) (cs := #[.slice none 0 0]) (k := w.heap.size + 1 + 1) (by simp))
  obtain ⟨K, hK⟩ : ∃ K, t.length * u.length = K := ⟨_, rfl⟩
  have hKi : (t.length : Int) * (u.length : Int) = (K : Int) := by rw [← hK]; simp
  rw [hK] at hK64 hK1 HPF ⊢
  have hwK : IntKind.i64.wrap (K : Int) = (K : Int) := IntWalk.i64_in _ (by omega)
  have hm0 : ¬ u.length = 0 := by omega
  clear hR hR1 hQ hQ1 ht hu hK
  go_enter Try.func38, Try.ntmps38
  go_wp2_with fail
  generalize (((w.alloc (.cells #[.slice (some ⟨b, o, none⟩) t.length d0] 29)).alloc (.cells #[.slice (some ⟨b', o', none⟩) u.length d1] 29)).alloc (.cells #[.slice none 0 0] 29)) = W0 at *
  refine (l01N_ex (some ⟨b', o', none⟩) u.length d1 W0 (by omega)).mono ?_
  rintro e W1 ⟨rfl, he1⟩
  obtain ⟨z, hz⟩ : ∃ z, W1.heap.size = z := ⟨_, rfl⟩
  have ea := (Ex.new W1 (.cells #[] 26)).alloc (.cells #[.slice (some ⟨z, 0, none⟩) 0 0] 29)
  have HA0 := Lib.hid ((b0.ex he1).ex ea)
  have HA1 := Lib.hid ((b1.ex he1).ex ea)
  have HA2 := Lib.hid ((b2.ex he1).ex ea)
  have HX := Lib.hid ((e0.trans he1).trans ea)
  have HO : Hid (Has ((W1.alloc (.cells #[] 26)).alloc (.cells #[.slice (some ⟨z, 0, none⟩) 0 0] 29)) (z + 1) 29 #[.slice (some ⟨z, 0, none⟩) 0 0]) := Lib.hid (Has.newAt (by simp [hz]))
  have HG : Hid (GrowT ((W1.alloc (.cells #[] 26)).alloc (.cells #[.slice (some ⟨z, 0, none⟩) 0 0] 29)) w.heap.size (.slice (some ⟨z, 0, none⟩) 0 0) 0 K fun x y => (prdN t u x y : Int)) := Lib.hid (by
    have := GrowT.empty (lo := w.heap.size) W1 K (fun x y => (prdN t u x y : Int)) (e0.trans he1).size
    rw [hz] at this
    exact this.ex (Ex.new _ _))
  have hz2 : w.heap.size + 1 + 1 < z := by have := (b2.ex he1).lt; omega
  clear b0 b1 b2 e0 he1 ea
  go_wp2_with fail
  simp only [hz] at *
  generalize ((W1.alloc (.cells #[] 26)).alloc (.cells #[.slice (some ⟨z, 0, none⟩) 0 0] 29)) = W2 at *
  clear hz
  go_loopw [7] (fun i wr => ∃ (k : Nat) (v : Value), k ≤ K ∧ i = .int .i64 (k : Int) ∧ Hid (Ex w wr) ∧ Hid (Has wr w.heap.size 29 #[.slice (some ⟨b, o, none⟩) t.length d0]) ∧ Hid (Has wr (w.heap.size + 1) 29 #[.slice (some ⟨b', o', none⟩) u.length d1]) ∧ Hid (Has wr (w.heap.size + 1 + 1) 29 #[.slice none 0 0]) ∧ Hid (Has wr (z + 1) 29 #[v]) ∧ Hid (GrowT wr w.heap.size v k K fun x y => (prdN t u x y : Int))) (fun i _ => K - (intOf i).toNat)
  case atStart => exact ⟨0, _, Nat.zero_le _, rfl, HX, HA0, HA1, HA2, HO, HG⟩
  case round =>
    clear HX HA0 HA1 HA2 HO HG
    obtain ⟨k, v, hk, rfl, HX, HA0, HA1, HA2, HO, HG⟩ := hrel
    have c0 := HA0.out.cell 0
    obtain ⟨A, cA, rfl, -⟩ := HG.out.own
    by_cases hlt : k < K
    · go_wp2_with (go_at_call 33; refine (l01N_ex (some ⟨b, o, none⟩) t.length d0 wr (by omega)).mono ?_; rintro e wn ⟨rfl, hen⟩)
      have HX1 := Lib.hid (HX.out.trans hen)
      have HB0 := Lib.hid (HA0.out.ex hen)
      have HB1 := Lib.hid (HA1.out.ex hen)
      have HB2 := Lib.hid (HA2.out.ex hen)
      have HO1 := Lib.hid (HO.out.ex hen)
      obtain ⟨G, CC, hown, hrows⟩ := HG.out
      have HOW := Lib.hid (own_below hown hen)
      have HRO := Lib.hid (hrows.ex hen)
      have HGZ := Lib.hid (fun i (hi : i < k) => (Nat.lt_of_lt_of_le (hrows.lt hi) hen.size : G i < wn.heap.size))
      have HE0 := Lib.hid (Ex.new wn (.cells #[] 2))
      have HG0 : Hid (GrowI (wn.alloc (.cells #[] 2)) wn.heap.size (.slice (some ⟨wn.heap.size, 0, none⟩) 0 0) 0 (rowP (fun y => (prdN t u k y : Int)) 0)) := Lib.hid (GrowI.empty (lo := wn.heap.size) wn (Nat.le_refl _))
      clear hown hrows hen HX HA0 HA1 HA2 HO HG c0
      go_wp2_with fail
      generalize wn.alloc (.cells #[] 2) = W3 at *
      go_loopw [8, 9] (fun rv i wr => ∃ j : Nat, j ≤ K ∧ i = .int .i64 (j : Int) ∧ Hid (Ex wn wr) ∧ Hid (GrowI wr wn.heap.size rv j (rowP (fun y => (prdN t u k y : Int)) j))) (fun _ i _ => K - (intOf i).toNat)
      case atStart => exact ⟨0, Nat.zero_le _, rfl, HE0, HG0⟩
      case round =>
        clear HE0 HG0
        obtain ⟨j, hj, rfl, HEr, HGr⟩ := hrel
        have c0 := (HB0.out.ex HEr.out).cell 0
        by_cases hjl : j < K
        · obtain ⟨xa, xb, xc, xd, p, q, s, hf, hfe⟩ := HPF.out k j hlt hjl
          have HS : Hid (rowP (fun y => (prdN t u k y : Int)) (j + 1) = rowP (fun y => (prdN t u k y : Int)) j ++ [(s : Int)]) := Lib.hid (by rw [rowP_snoc, hfe])
          obtain ⟨ha, hb, hc, hd, t1, t2, t3, t4, w1, w2, q1, q2, q3, q4, hp, hq, hv, hpv, hw0, hw, hle⟩ := hf
          have HCC := Lib.hid (fun W (he : Ex wn W) => (⟨(HB0.out.ex he).cell 0, (HB1.out.ex he).cell 0, (HE1.out xa xb ha hb W (HX1.out.trans he)).1, hp ▸ (HE1.out xa xb ha hb W (HX1.out.trans he)).2, (HE2.out xc xd hc hd W (HX1.out.trans he)).1, hq ▸ (HE2.out xc xd hc hd W (HX1.out.trans he)).2⟩ :
            W.cell? ⟨w.heap.size, 0, none⟩ = some (.slice (some ⟨b, o, none⟩) t.length d0) ∧ W.cell? ⟨w.heap.size + 1, 0, none⟩ = some (.slice (some ⟨b', o', none⟩) u.length d1) ∧ W.cell? ⟨b, o + xa, none⟩ = some (.slice (some ⟨bb xa, oo xa, none⟩) t.length (C xa)) ∧ W.cell? ⟨bb xa, oo xa + xb, none⟩ = some (.int .i64 (p : Int)) ∧ W.cell? ⟨b', o' + xc, none⟩ = some (.slice (some ⟨bb' xc, oo' xc, none⟩) u.length (C' xc)) ∧ W.cell? ⟨bb' xc, oo' xc + xd, none⟩ = some (.int .i64 (q : Int))))
          clear hp hq hv hfe
          go_wp2_with (go_at_call 33; refine (l01N_ex (some ⟨b, o, none⟩) t.length d0 _ (by omega)).mono ?_; rintro e wm ⟨rfl, hem⟩; have HE := Lib.hid (HEr.out.trans hem).drew; have HG := Lib.hid (HGr.out.ex (hem.trans (Ex.refl wm).drew)); clear hem c0)
          have hC0 := HCC.out _ HE.out
          refine Late.region (C := fun W => W.cell? ⟨w.heap.size, 0, none⟩ = some (.slice (some ⟨b, o, none⟩) t.length d0) ∧ W.cell? ⟨w.heap.size + 1, 0, none⟩ = some (.slice (some ⟨b', o', none⟩) u.length d1) ∧ W.cell? ⟨b, o + xa, none⟩ = some (.slice (some ⟨bb xa, oo xa, none⟩) t.length (C xa)) ∧ W.cell? ⟨bb xa, oo xa + xb, none⟩ = some (.int .i64 (p : Int)) ∧ W.cell? ⟨b', o' + xc, none⟩ = some (.slice (some ⟨bb' xc, oo' xc, none⟩) u.length (C' xc)) ∧ W.cell? ⟨bb' xc, oo' xc + xd, none⟩ = some (.int .i64 (q : Int)))
            (fun j => decide (j < 30)) (by kernel_rfl) hC0 (fun hC => ?_)
          refine Late.take (i := 0) (oi := ⟨_, _, _, _, _, _⟩) (v := ?_) rfl (by kernel_rfl) (by kernel_rfl) (by kernel_rfl) (by kernel_rfl) (fun _ _ _ h => h) (Or.inl ⟨by rfl, ?_⟩) hC ?_
          rotate_left
          · (intro w hSw; (try dsimp only at hSw); go_simp; first | done | with_reducible rfl)
          simp only [Act.put, List.setIfInBounds_toArray, List.set_cons_zero, List.set_cons_succ]
          refine Late.take (i := 1) (oi := ⟨_, _, _, _, _, _⟩) (v := ?_) rfl (by kernel_rfl) (by kernel_rfl) (by kernel_rfl) (by kernel_rfl) (fun _ _ _ h => h) (Or.inl ⟨by rfl, ?_⟩) hC ?_
          rotate_left
          · (intro w hSw; (try dsimp only at hSw); go_simp; first | done | with_reducible rfl)
          simp only [Act.put, List.setIfInBounds_toArray, List.set_cons_zero, List.set_cons_succ]
          refine Late.take (i := 2) (oi := ⟨_, _, _, _, _, _⟩) (v := ?_) rfl (by kernel_rfl) (by kernel_rfl) (by kernel_rfl) (by kernel_rfl) (fun _ _ _ h => h) (Or.inl ⟨by rfl, ?_⟩) hC ?_
          rotate_left
          · (intro w hSw; (try dsimp only at hSw); go_simp; first | done | with_reducible rfl)
          simp only [Act.put, List.setIfInBounds_toArray, List.set_cons_zero, List.set_cons_succ]
          refine Late.take (i := 3) (oi := ⟨_, _, _, _, _, _⟩) (v := ?_) rfl (by kernel_rfl) (by kernel_rfl) (by kernel_rfl) (by kernel_rfl) (fun _ _ _ h => h) (Or.inl ⟨by rfl, ?_⟩) hC ?_
          rotate_left
          · (intro w hSw; (try dsimp only at hSw); go_simp; first | done | with_reducible rfl)
          simp only [Act.put, List.setIfInBounds_toArray, List.set_cons_zero, List.set_cons_succ]
          refine Late.take (i := 4) (oi := ⟨_, _, _, _, _, _⟩) (v := ?_) rfl (by kernel_rfl) (by kernel_rfl) (by kernel_rfl) (by kernel_rfl) (fun _ _ _ h => h) (Or.inl ⟨by rfl, ?_⟩) hC ?_
          rotate_left
          · (intro w hSw; (try dsimp only at hSw); go_simp; first | done | with_reducible rfl)
          simp only [Act.put, List.setIfInBounds_toArray, List.set_cons_zero, List.set_cons_succ]
          refine Late.take (i := 5) (oi := ⟨_, _, _, _, _, _⟩) (v := ?_) rfl (by kernel_rfl) (by kernel_rfl) (by kernel_rfl) (by kernel_rfl) (fun _ _ _ h => h) (Or.inl ⟨by rfl, ?_⟩) hC ?_
          rotate_left
          · (intro w hSw; (try dsimp only at hSw); go_simp; first | done | with_reducible rfl)
          simp only [Act.put, List.setIfInBounds_toArray, List.set_cons_zero, List.set_cons_succ]
          refine Late.take (i := 6) (oi := ⟨_, _, _, _, _, _⟩) (v := ?_) rfl (by kernel_rfl) (by kernel_rfl) (by kernel_rfl) (by kernel_rfl) (fun _ _ _ h => h) (Or.inl ⟨by rfl, ?_⟩) hC ?_
          rotate_left
          · (intro w hSw; (try dsimp only at hSw); go_simp; first | done | with_reducible rfl)
          simp only [Act.put, List.setIfInBounds_toArray, List.set_cons_zero, List.set_cons_succ]
          refine Late.take (i := 7) (oi := ⟨_, _, _, _, _, _⟩) (v := ?_) rfl (by kernel_rfl) (by kernel_rfl) (by kernel_rfl) (by kernel_rfl) (fun _ _ _ h => h) (Or.inl ⟨by rfl, ?_⟩) hC ?_
          rotate_left
          · (intro w hSw; (try dsimp only at hSw); go_simp; first | done | with_reducible rfl)
          simp only [Act.put, List.setIfInBounds_toArray, List.set_cons_zero, List.set_cons_succ]
          refine Late.take (i := 8) (oi := ⟨_, _, _, _, _, _⟩) (v := ?_) rfl (by kernel_rfl) (by kernel_rfl) (by kernel_rfl) (by kernel_rfl) (fun _ _ _ h => h) (Or.inl ⟨by rfl, ?_⟩) hC ?_
          rotate_left
          · (intro w hSw; (try dsimp only at hSw); go_simp; first | done | with_reducible rfl)
          simp only [Act.put, List.setIfInBounds_toArray, List.set_cons_zero, List.set_cons_succ]
          refine Late.take (i := 9) (oi := ⟨_, _, _, _, _, _⟩) (v := ?_) rfl (by kernel_rfl) (by kernel_rfl) (by kernel_rfl) (by kernel_rfl) (fun _ _ _ h => h) (Or.inl ⟨by rfl, ?_⟩) hC ?_
          rotate_left
          · (intro w hSw; (try dsimp only at hSw); go_simp; first | done | with_reducible rfl)
          simp only [Act.put, List.setIfInBounds_toArray, List.set_cons_zero, List.set_cons_succ]
          refine Late.take (i := 10) (oi := ⟨_, _, _, _, _, _⟩) (v := ?_) rfl (by kernel_rfl) (by kernel_rfl) (by kernel_rfl) (by kernel_rfl) (fun _ _ _ h => h) (Or.inl ⟨by rfl, ?_⟩) hC ?_
          rotate_left
          · (intro w hSw; (try dsimp only at hSw); go_simp; first | done | with_reducible rfl)
          simp only [Act.put, List.setIfInBounds_toArray, List.set_cons_zero, List.set_cons_succ]
          refine Late.take (i := 11) (oi := ⟨_, _, _, _, _, _⟩) (v := ?_) rfl (by kernel_rfl) (by kernel_rfl) (by kernel_rfl) (by kernel_rfl) (fun _ _ _ h => h) (Or.inl ⟨by rfl, ?_⟩) hC ?_
          rotate_left
          · (intro w hSw; (try dsimp only at hSw); go_simp; first | done | with_reducible rfl)
          simp only [Act.put, List.setIfInBounds_toArray, List.set_cons_zero, List.set_cons_succ]
          refine Late.take (i := 12) (oi := ⟨_, _, _, _, _, _⟩) (v := ?_) rfl (by kernel_rfl) (by kernel_rfl) (by kernel_rfl) (by kernel_rfl) (fun _ _ _ h => h) (Or.inl ⟨by rfl, ?_⟩) hC ?_
          rotate_left
          · (intro w hSw; (try dsimp only at hSw); go_simp; first | done | with_reducible rfl)
          simp only [Act.put, List.setIfInBounds_toArray, List.set_cons_zero, List.set_cons_succ]
          refine Late.take (i := 13) (oi := ⟨_, _, _, _, _, _⟩) (v := ?_) rfl (by kernel_rfl) (by kernel_rfl) (by kernel_rfl) (by kernel_rfl) (fun _ _ _ h => h) (Or.inl ⟨by rfl, ?_⟩) hC ?_
          rotate_left
          · (intro w hSw; (try dsimp only at hSw); go_simp; first | done | with_reducible rfl)
          simp only [Act.put, List.setIfInBounds_toArray, List.set_cons_zero, List.set_cons_succ]
          refine Late.take (i := 14) (oi := ⟨_, _, _, _, _, _⟩) (v := ?_) rfl (by kernel_rfl) (by kernel_rfl) (by kernel_rfl) (by kernel_rfl) (fun _ _ _ h => h) (Or.inl ⟨by rfl, ?_⟩) hC ?_
          rotate_left
          · (intro w hSw; (try dsimp only at hSw); go_simp; first | done | with_reducible rfl)
          simp only [Act.put, List.setIfInBounds_toArray, List.set_cons_zero, List.set_cons_succ]
          refine Late.take (i := 15) (oi := ⟨_, _, _, _, _, _⟩) (v := ?_) rfl (by kernel_rfl) (by kernel_rfl) (by kernel_rfl) (by kernel_rfl) (fun _ _ _ h => h) (Or.inl ⟨by rfl, ?_⟩) hC ?_
          rotate_left
          · (intro w hSw; (try dsimp only at hSw); go_simp; first | done | with_reducible rfl)
          simp only [Act.put, List.setIfInBounds_toArray, List.set_cons_zero, List.set_cons_succ]
          refine Late.take (i := 16) (oi := ⟨_, _, _, _, _, _⟩) (v := ?_) rfl (by kernel_rfl) (by kernel_rfl) (by kernel_rfl) (by kernel_rfl) (fun _ _ _ h => h) (Or.inl ⟨by rfl, ?_⟩) hC ?_
          rotate_left
          · (intro w hSw; (try dsimp only at hSw); go_simp; first | done | with_reducible rfl)
          simp only [Act.put, List.setIfInBounds_toArray, List.set_cons_zero, List.set_cons_succ]
          refine Late.take (i := 17) (oi := ⟨_, _, _, _, _, _⟩) (v := ?_) rfl (by kernel_rfl) (by kernel_rfl) (by kernel_rfl) (by kernel_rfl) (fun _ _ _ h => h) (Or.inl ⟨by rfl, ?_⟩) hC ?_
          rotate_left
          · (intro w hSw; (try dsimp only at hSw); go_simp; first | done | with_reducible rfl)
          simp only [Act.put, List.setIfInBounds_toArray, List.set_cons_zero, List.set_cons_succ]
          refine Late.take (i := 18) (oi := ⟨_, _, _, _, _, _⟩) (v := ?_) rfl (by kernel_rfl) (by kernel_rfl) (by kernel_rfl) (by kernel_rfl) (fun _ _ _ h => h) (Or.inl ⟨by rfl, ?_⟩) hC ?_
          rotate_left
          · (intro w hSw; (try dsimp only at hSw); go_simp; first | done | with_reducible rfl)
          simp only [Act.put, List.setIfInBounds_toArray, List.set_cons_zero, List.set_cons_succ]
          refine Late.take (i := 19) (oi := ⟨_, _, _, _, _, _⟩) (v := ?_) rfl (by kernel_rfl) (by kernel_rfl) (by kernel_rfl) (by kernel_rfl) (fun _ _ _ h => h) (Or.inl ⟨by rfl, ?_⟩) hC ?_
          rotate_left
          · (intro w hSw; (try dsimp only at hSw); go_simp; first | done | with_reducible rfl)
          simp only [Act.put, List.setIfInBounds_toArray, List.set_cons_zero, List.set_cons_succ]
          refine Late.take (i := 20) (oi := ⟨_, _, _, _, _, _⟩) (v := ?_) rfl (by kernel_rfl) (by kernel_rfl) (by kernel_rfl) (by kernel_rfl) (fun _ _ _ h => h) (Or.inl ⟨by rfl, ?_⟩) hC ?_
          rotate_left
          · (intro w hSw; (try dsimp only at hSw); go_simp; first | done | with_reducible rfl)
          simp only [Act.put, List.setIfInBounds_toArray, List.set_cons_zero, List.set_cons_succ]
          refine Late.take (i := 21) (oi := ⟨_, _, _, _, _, _⟩) (v := ?_) rfl (by kernel_rfl) (by kernel_rfl) (by kernel_rfl) (by kernel_rfl) (fun _ _ _ h => h) (Or.inl ⟨by rfl, ?_⟩) hC ?_
          rotate_left
          · (intro w hSw; (try dsimp only at hSw); go_simp; first | done | with_reducible rfl)
          simp only [Act.put, List.setIfInBounds_toArray, List.set_cons_zero, List.set_cons_succ]
          refine Late.take (i := 22) (oi := ⟨_, _, _, _, _, _⟩) (v := ?_) rfl (by kernel_rfl) (by kernel_rfl) (by kernel_rfl) (by kernel_rfl) (fun _ _ _ h => h) (Or.inl ⟨by rfl, ?_⟩) hC ?_
          rotate_left
          · (intro w hSw; (try dsimp only at hSw); go_simp; first | done | with_reducible rfl)
          simp only [Act.put, List.setIfInBounds_toArray, List.set_cons_zero, List.set_cons_succ]
          refine Late.take (i := 23) (oi := ⟨_, _, _, _, _, _⟩) (v := ?_) rfl (by kernel_rfl) (by kernel_rfl) (by kernel_rfl) (by kernel_rfl) (fun _ _ _ h => h) (Or.inl ⟨by rfl, ?_⟩) hC ?_
          rotate_left
          · (intro w hSw; (try dsimp only at hSw); go_simp; first | done | with_reducible rfl)
          simp only [Act.put, List.setIfInBounds_toArray, List.set_cons_zero, List.set_cons_succ]
          refine Late.take (i := 24) (oi := ⟨_, _, _, _, _, _⟩) (v := ?_) rfl (by kernel_rfl) (by kernel_rfl) (by kernel_rfl) (by kernel_rfl) (fun _ _ _ h => h) (Or.inl ⟨by rfl, ?_⟩) hC ?_
          rotate_left
          · (intro w hSw; (try dsimp only at hSw); go_simp; first | done | with_reducible rfl)
          simp only [Act.put, List.setIfInBounds_toArray, List.set_cons_zero, List.set_cons_succ]
          refine Late.take (i := 25) (oi := ⟨_, _, _, _, _, _⟩) (v := ?_) rfl (by kernel_rfl) (by kernel_rfl) (by kernel_rfl) (by kernel_rfl) (fun _ _ _ h => h) (Or.inl ⟨by rfl, ?_⟩) hC ?_
          rotate_left
          · (intro w hSw; (try dsimp only at hSw); go_simp; first | done | with_reducible rfl)
          simp only [Act.put, List.setIfInBounds_toArray, List.set_cons_zero, List.set_cons_succ]
          refine Late.take (i := 26) (oi := ⟨_, _, _, _, _, _⟩) (v := ?_) rfl (by kernel_rfl) (by kernel_rfl) (by kernel_rfl) (by kernel_rfl) (fun _ _ _ h => h) (Or.inl ⟨by rfl, ?_⟩) hC ?_
          rotate_left
          · (intro w hSw; (try dsimp only at hSw); go_simp; first | done | with_reducible rfl)
          simp only [Act.put, List.setIfInBounds_toArray, List.set_cons_zero, List.set_cons_succ]
          refine Late.take (i := 27) (oi := ⟨_, _, _, _, _, _⟩) (v := ?_) rfl (by kernel_rfl) (by kernel_rfl) (by kernel_rfl) (by kernel_rfl) (fun _ _ _ h => h) (Or.inl ⟨by rfl, ?_⟩) hC ?_
          rotate_left
          · (intro w hSw; (try dsimp only at hSw); go_simp; first | done | with_reducible rfl)
          simp only [Act.put, List.setIfInBounds_toArray, List.set_cons_zero, List.set_cons_succ]
          clear hC hC0
          generalize wm.drew = X at *
          refine Late.one (i := 28) (o := _) (by kernel_rfl) rfl (fun K' hK' => ?_)
          go_simp
          have e1 := HE.out.alloc (.cells #[.int .i64 (s : Int)] 2)
          have g1 := HG.out.ex (Ex.new X (.cells #[.int .i64 (s : Int)] 2))
          have hn1 := cell_one_new X (.int .i64 (s : Int)) 2
          have hz1 : X.heap.size + 1 = (X.alloc (.cells #[.int .i64 (s : Int)] 2)).heap.size := by simp
          have hx1 := Ex.new X (.cells #[.int .i64 (s : Int)] 2)
          refine hK'.out _ _ (fun _ => HCC.out _ e1) (fun _ => ?_)
          clear hK' K'
          generalize X.alloc (.cells #[.int .i64 (s : Int)] 2) = w1 at *
          try simp only [Act.put, List.setIfInBounds_toArray, List.set_cons_zero, List.set_cons_succ]
          refine Late.one (i := 29) (o := _) (by kernel_rfl) rfl (fun K' hK' => ?_)
          rw [if_pos (by rfl)]
          refine wp_append_own _ _ _ 26 rfl wn.heap.size 2 i0 (.int .i64 0) 1 8 Try.underlying26 hi hi0 hi1 hi2 rfl (by decide) _ _ _ rfl g1.1 ⟨X.heap.size, 0, none⟩ 1 1 [.int .i64 (s : Int)] rfl rfl hn1 (by simp [Value.oneCell']) (by unfold maxLen; omega) (by omega) (by have := e1.size; omega) ?_
          intro v' w3 hown3 hgrow3 _
          have HE3 := Lib.hid (Ex.grew e1 g1 (Nat.le_refl _) hgrow3)
          have HG3 := Lib.hid (g1.snoc hown3)
          refine hK'.out _ _ (fun _ => HCC.out _ HE3.out) (fun _ => ?_)
          clear hK' K' hown3 hgrow3 g1 e1 hn1 hx1 
          try simp only [Act.put]
          refine Late.one (i := 30) (o := _) (by kernel_rfl) rfl (fun K' hK' => ?_)
          go_simp
          refine hK'.out _ _ (fun h => by cases h) (fun _ => ?_)
          clear hK' K'
          try simp only [Act.put, List.setIfInBounds_toArray, List.set_cons_zero, List.set_cons_succ]
          refine Late.done (by kernel_rfl) ?_ _
          go_wp2_with fail
          go_roundw
          case rel => exact ⟨j + 1, by omega, by go_num, HE3, by rw [HS.out]; exact HG3⟩
          case measure => simp [intOf]; omega
        · obtain rfl : j = K := by omega
          go_wp2_with fail
          refine (l01N_ex (some ⟨b, o, none⟩) t.length d0 _ (by omega)).mono ?_
          rintro e wm ⟨rfl, hem⟩
          have hE := HEr.out.trans hem
          obtain ⟨g, cg, cs, rfl, hzg, hjc, hhas, hget⟩ := row_block (HGr.out.ex hem).1 hK1
          have HHAS := Lib.hid hhas
          have HGET := Lib.hid hget
          have HEM := Lib.hid hE
          have HOM := Lib.hid (own_below HOW.out hE)
          have HRM := Lib.hid (HRO.out.ex hE)
          have HBM := Lib.hid (HO1.out.ex hE)
          have cO := HBM.out.cell 0
          clear hhas hget hE hem c0
          go_wp2_with (at_builtin; refine wpList_append_own _ rfl _ _ 22 rfl w.heap.size 26 iS (.slice none 0 0) 1 24 Try.underlying22 gi gi0 gi1 gi2 rfl (by decide) _ _ _ rfl (HOM.out.alloc _) ⟨wm.heap.size, 0, none⟩ 1 1 [.slice (some ⟨g, 0, none⟩) j cg] rfl rfl (cell_one_new _ _ _) (by simp [Value.oneCell']) (by unfold maxLen; omega) (by omega) (by have := (HX1.out.trans HEM.out).size; simp; omega) ?_; intro v' w3 hown3 hgrow3 _; have HX3 := Lib.hid (Ex.grewR ((HX1.out.trans HEM.out).alloc _) (HOM.out.alloc _) (Nat.le_refl _) hgrow3); have HB03 := Lib.hid (Has.grewR ((HB0.out.ex HEM.out).alloc _) (by decide) (HOM.out.alloc _) hgrow3); have HB13 := Lib.hid (Has.grewR ((HB1.out.ex HEM.out).alloc _) (by decide) (HOM.out.alloc _) hgrow3); have HB23 := Lib.hid (Has.grewR ((HB2.out.ex HEM.out).alloc _) (by decide) (HOM.out.alloc _) hgrow3); have HBM3 := Lib.hid (Has.grewR (HBM.out.alloc _) (by decide) (HOM.out.alloc _) hgrow3); have HGT := Lib.hid (GrowT.push (V := fun x y => (prdN t u x y : Int)) (HOM.out.alloc _) (HRM.out.ex (Ex.new wm _)) (Nat.le_trans HX1.out.size hzg) (HHAS.out.alloc _) (fun i hi => (HGET.out i hi).trans (rowP_get hi)) (fun i hi => by have := HGZ.out i hi; omega) hgrow3 hown3); obtain ⟨A3, cA3, rfl, -⟩ := HGT.out.own; have cO3 := HBM3.out.cell 0; have fO3 := HBM3.out.free 0; clear hown3 hgrow3)
          go_roundw
          case rel => exact ⟨k + 1, _, by omega, by go_num, Lib.hid (HX3.out.setCell (p := ⟨z + 1, 0, none⟩) (by show w.heap.size ≤ z + 1; omega) _), Lib.hid (HB03.out.far (p := ⟨z + 1, 0, none⟩) (by show w.heap.size ≠ z + 1; omega) _), Lib.hid (HB13.out.far (p := ⟨z + 1, 0, none⟩) (by show w.heap.size + 1 ≠ z + 1; omega) _), Lib.hid (HB23.out.far (p := ⟨z + 1, 0, none⟩) (by show w.heap.size + 1 + 1 ≠ z + 1; omega) _), Lib.hid HBM3.out.put1, Lib.hid (HGT.out.set HBM3.out (by decide) (by decide) 0 _)⟩
          case measure => simp [intOf]; omega
    · obtain rfl : k = K := by omega
      go_wp2_with fail
      refine (l01N_ex (some ⟨b, o, none⟩) t.length d0 _ (by omega)).mono ?_
      rintro e wn ⟨rfl, hen⟩
      have HBR := Lib.hid (HA2.out.ex hen)
      have HX9 := Lib.hid (HX.out.trans hen)
      have HG9 := Lib.hid (HG.out.ex hen)
      have cO := (HO.out.ex hen).cell 0
      have cr := HBR.out.cell 0
      have fr := HBR.out.free 0
      clear hen c0
      go_wp2_with fail
      have H4 := HBR.out.put1 (v := .slice A k cA)
      have c4 := H4.cell 0
      obtain ⟨A', c', e', hO⟩ := (HG9.out.set HBR.out (by decide) (by decide) 0 (.slice A k cA)).own
      simp only [Value.slice.injEq] at e'
      obtain ⟨rfl, _, rfl⟩ := e'
      refine bodyPost_ret (v := .agg #[.slice A k cA]) (by simp [results, Try.results38, go_sem, c4]) rfl ⟨A, cA, rfl, HX9.out.setCell (p := ⟨w.heap.size + 1 + 1, 0, none⟩) (by show w.heap.size ≤ w.heap.size + 1 + 1; omega) _, hO⟩

end Go.Proofs.Ytenenlpfpkdplaa
