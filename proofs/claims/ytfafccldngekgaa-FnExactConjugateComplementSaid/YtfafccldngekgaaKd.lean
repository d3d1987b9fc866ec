/- Complements: the program's test, IsComplement. -/
import Derived.Test.YtfafccldngekgaaKc
namespace Go.Proofs.Ytfafccldngekgaa
open Go.RowKit

/-- The numbers of the pairs that were looked at, 0 elsewhere. -/
def numT (N M : Nat) (ps : List Int) (k : Nat) : Array Value := tab N fun j => .int .i64 (if j < k then ((im ps j % M : Nat) : Int) else 0)
theorem numT_zero (N M : Nat) (ps : List Int) : numT N M ps 0 = tab N fun _ => .int .i64 0 := by simp [numT]
theorem numT_get (N M : Nat) (ps : List Int) {k : Nat} (h : k < N) : (numT N M ps k)[k]? = some (.int .i64 0) := by rw [numT, tab_get h]; simp
theorem numT_put (N M : Nat) (ps : List Int) {k : Nat} (h : k < N) : (numT N M ps k).setIfInBounds k (.int .i64 ((im ps k % M : Nat) : Int)) = numT N M ps (k + 1) := by
  unfold numT
  rw [tab_set h]
  refine tab_congr fun j hj => ?_
  by_cases hjk : j = k
  · subst hjk
    simp
  · by_cases hlt : j < k
    · simp [hjk, hlt, show j < k + 1 by omega]
    · simp [hjk, hlt, show ¬ j < k + 1 by omega]
theorem numT_all (N M : Nat) (ps : List Int) : numT N M ps N = tab N fun j => .int .i64 (nth (numL N M ps) j) := by
  unfold numT
  refine tab_congr fun j hj => ?_
  simp [hj, nth, numL]

set_option maxRecDepth 100000 in
set_option maxHeartbeats 4000000 in
theorem isComplement_any (B0 B1 B2 : Option Addr) (t0 : List (List Int)) (M : Nat) (us ps : List Int) (d0 d1 d2 : Nat) (w : World) (hR : RwsW w B0 t0) (hX : IntsW w B1 us) (hF : IntsW w B2 ps) (hm : ModF t0 M us) (hr : InR (M * t0.length) ps) (hx : ps.length ≤ 1048576) :
    Calls Try.prog 82 #[.agg #[.slice B0 t0.length d0], .agg #[.int .i64 (M : Int), .slice B1 us.length d1], .slice B2 ps.length d2] w fun e w' => e = .returned (.bool (cmB t0 M us ps)) ∧ Ex w w' := by
  by_cases hl : ps.length = t0.length
  · have HQ := Lib.hid (fun h2 => cmB_crs (us := us) (M := M) hl h2)
    have HQN := Lib.hid (fun x (hx : x < t0.length) h => cmB_el (us := us) (M := M) (ps := ps) hx h)
    rw [hl]
    have e0 : Ex w ((w.alloc (.cells #[.slice B0 t0.length d0] 32)).alloc (.cells #[.int .i64 (M : Int), .slice B1 us.length d1] 34)) := ((Ex.refl w).alloc _).alloc _
    have b0 : Has ((w.alloc (.cells #[.slice B0 t0.length d0] 32)).alloc (.cells #[.int .i64 (M : Int), .slice B1 us.length d1] 34)) (w.heap.size) 32 #[.slice B0 t0.length d0] := ((Has.newAt (w := w) (e := 32) (cs := #[.slice B0 t0.length d0]) (k := w.heap.size) (by simp)).alloc _)
    have b1 : Has ((w.alloc (.cells #[.slice B0 t0.length d0] 32)).alloc (.cells #[.int .i64 (M : Int), .slice B1 us.length d1] 34)) (w.heap.size + 1) 34 #[.int .i64 (M : Int), .slice B1 us.length d1] := (Has.newAt (w := (w.alloc (.cells #[.slice B0 t0.length d0] 32))) (e := 34) (cs := #[.int .i64 (M : Int), .slice B1 us.length d1]) (k := w.heap.size + 1) (by simp))
    have HE0 := Lib.hid e0
    have c0 := b0.cell 0
    have hne : ((t0.length : Int) != (t0.length : Int)) = false := by simp
    have hN1 := hm.g.n1
    have hN8 := hm.g.n8
    have hM2 := hm.m2
    have hM12 := hm.m12
    have hK96 : M * t0.length ≤ 96 := Nat.le_trans (Nat.mul_le_mul hM12 hN8) (by omega)
    obtain ⟨bf, of, rfl, hbf, -⟩ := hF.ints.at_ (j := 0) (by omega)
    have HU := Lib.hid (fun k (hk : k < t0.length) => (⟨by have := (im_eq hr (k := k) (by omega)).2; omega, by rw [← (im_eq hr (k := k) (by omega)).1]; exact ints_cell hF.ints (by omega)⟩ : im ps k ≤ 96 ∧ w.cell? ⟨bf, of + k, none⟩ = some (.int .i64 (im ps k : Int))))
    have HT := Lib.hid (fun (L : Option Addr) (e : Nat) W (he : Ex w W) (hL : IntsW W L (numL t0.length M ps)) => isCrossed_any B0 B1 L t0 M us (numL t0.length M ps) d0 d1 e W (hR.ex he) (hX.ex he) hL hm (numL_len ..) (numL_in (by omega)))
    have hmk := makeI t0.length (by omega)
    clear hR hX hF hr hm hl hx
    go_enter Try.func82, Try.ntmps82
    go_wp2_with fail
    generalize ((w.alloc (.cells #[.slice B0 t0.length d0] 32)).alloc (.cells #[.int .i64 (M : Int), .slice B1 us.length d1] 34)) = W0 at *
    refine (groupOrder_ex B0 t0.length d0 _ (by omega)).mono ?_
    rintro e W1 ⟨rfl, he1⟩
    have HB0 := Lib.hid ((b0.ex he1).alloc (.cells (tab t0.length fun _ => .int .i64 0) 2))
    have HB1 := Lib.hid ((b1.ex he1).alloc (.cells (tab t0.length fun _ => .int .i64 0) 2))
    have HE1 := Lib.hid ((HE0.out.trans he1).alloc (.cells (tab t0.length fun _ => .int .i64 0) 2))
    have HD := Lib.hid (Has.new W1 2 (tab t0.length fun _ => .int .i64 0))
    have hz1 : w.heap.size + 1 + 1 ≤ W1.heap.size := (b1.ex he1).lt
    clear b0 b1 e0 he1 c0
    go_wp2_with fail
    obtain ⟨D, hD⟩ : ∃ D, W1.heap.size = D := ⟨_, rfl⟩
    rw [hD] at HD hz1 ⊢
    generalize W1.alloc (.cells (tab t0.length fun _ => .int .i64 0) 2) = W2 at *
    clear hD
    go_loopw [22] (fun i wr => ∃ k : Nat, k ≤ t0.length ∧ i = .int .i64 (k : Int) ∧ Hid (Ex w wr) ∧ Hid (Has wr w.heap.size 32 #[.slice B0 t0.length d0]) ∧ Hid (Has wr (w.heap.size + 1) 34 #[.int .i64 (M : Int), .slice B1 us.length d1]) ∧ Hid (Has wr D 2 (numT t0.length M ps k)) ∧ Hid (∀ x, x < k → im ps x / M = x)) (fun i _ => t0.length - (intOf i).toNat)
    case atStart => exact ⟨0, Nat.zero_le _, rfl, HE1, HB0, HB1, Lib.hid (by rw [numT_zero]; exact HD.out), Lib.hid fun x hx => absurd hx (by omega)⟩
    case round =>
      obtain ⟨k, hk, rfl, HE, HA, HB, HL, HS⟩ := hrel
      by_cases hlt : k < t0.length
      · obtain ⟨hf96, hfc⟩ := HU.out k hlt
        have HNE := Lib.hid (HQN.out k hlt)
        have HSK : Hid (∀ h : im ps k / M = k, ∀ x, x < k + 1 → im ps x / M = x) := Lib.hid fun h x hx => by
          rcases Nat.lt_or_ge x k with h1 | h1
          · exact HS.out x h1
          · obtain rfl : x = k := by omega
            exact h
        have HPT := Lib.hid (numT_put t0.length M ps hlt)
        have HGT := Lib.hid (numT_get t0.length M ps hlt)
        obtain ⟨f, hfe⟩ : ∃ f, im ps k = f := ⟨_, rfl⟩
        rw [hfe] at hf96 hfc HNE HSK HPT
        have HPA := Lib.hid (fun W => partsOf_any B1 M us.length d1 f W hM2 hM12 hf96)
        obtain ⟨q, hq⟩ : ∃ q, f / M = q := ⟨_, rfl⟩
        obtain ⟨n, hn⟩ : ∃ n, f % M = n := ⟨_, rfl⟩
        rw [hq] at HNE HSK
        rw [hn] at HPT
        simp only [hq, hn] at HPA
        have hfw := (HE.out.below.cell (p := ⟨bf, of + k, none⟩) hbf).trans hfc
        have c1 := HB.out.cell 0
        have c1' := HB.out.cell 1
        have hkz : (0 : Int) ≤ (k : Int) := by omega
        have hkn : (k : Int) < (t0.length : Int) := by omega
        clear hfe hq hn hfc
        obtain ⟨bv, hbv⟩ : ∃ bv, ((q : Int) != (k : Int)) = bv := ⟨_, rfl⟩
        have HBV := Lib.hid hbv
        go_wp2_with fail
        refine (HPA.out _).mono ?_
        rintro e W6 ⟨rfl, he6⟩
        have HE6 := Lib.hid (HE.out.trans he6)
        have HA6 := Lib.hid (HA.out.ex he6)
        have HB6 := Lib.hid (HB.out.ex he6)
        have HL6 := Lib.hid (HL.out.ex he6)
        have hcell := HL6.out.cell k
        rw [HGT.out] at hcell
        have hfree := HL6.out.free k
        clear he6 c1 c1' hfw
        cases bv with
        | true =>
          go_wp2_with fail
          go_ret
          exact ⟨by rw [HNE.out (fun h => by have := HBV.out; simp at this; omega)]; rfl, HE6.out⟩
        | false =>
          go_wp2_with fail
          go_roundw
          case rel => exact ⟨k + 1, by omega, by go_num, Lib.hid (HE6.out.setCell (p := ⟨D, k, none⟩) (by show w.heap.size ≤ D; omega) _), Lib.hid (HA6.out.far (p := ⟨D, k, none⟩) (by show w.heap.size ≠ D; omega) _), Lib.hid (HB6.out.far (p := ⟨D, k, none⟩) (by show w.heap.size + 1 ≠ D; omega) _), Lib.hid (by rw [← HPT.out]; exact HL6.out.put k _), Lib.hid (HSK.out (by have := HBV.out; simp at this; omega))⟩
          case measure => simp [intOf]; omega
      · obtain rfl : k = t0.length := by omega
        have HQ2 := Lib.hid (HQ.out HS.out)
        have hL := (OwnL.of_has (lo := w.heap.size) (n := t0.length) (xs := numL t0.length M ps) (by rw [← numT_all]; exact HL.out) (by rw [numL_len]) (by omega)).ints
        have HT2 := HT.out (some ⟨D, 0, none⟩) t0.length _ HE.out hL
        rw [numL_len] at HT2
        have HT3 := Lib.hid HT2
        have c0 := HA.out.cell 0
        have c1 := HB.out.cell 0
        have c1' := HB.out.cell 1
        obtain ⟨bv, hbv⟩ : ∃ bv, crsB t0 M us (numL t0.length M ps) = bv := ⟨_, rfl⟩
        rw [hbv] at HQ2 HT3
        clear hL HT2 hbv
        go_wp2_with fail
        refine HT3.out.mono ?_
        rintro e wz ⟨rfl, hez⟩
        go_wp2_with fail
        go_ret
        exact ⟨by rw [HQ2.out]; rfl, HE.out.trans hez⟩
  · skip
    have e0 : Ex w ((w.alloc (.cells #[.slice B0 t0.length d0] 32)).alloc (.cells #[.int .i64 (M : Int), .slice B1 us.length d1] 34)) := ((Ex.refl w).alloc _).alloc _
    have b0 : Has ((w.alloc (.cells #[.slice B0 t0.length d0] 32)).alloc (.cells #[.int .i64 (M : Int), .slice B1 us.length d1] 34)) (w.heap.size) 32 #[.slice B0 t0.length d0] := ((Has.newAt (w := w) (e := 32) (cs := #[.slice B0 t0.length d0]) (k := w.heap.size) (by simp)).alloc _)
    have b1 : Has ((w.alloc (.cells #[.slice B0 t0.length d0] 32)).alloc (.cells #[.int .i64 (M : Int), .slice B1 us.length d1] 34)) (w.heap.size + 1) 34 #[.int .i64 (M : Int), .slice B1 us.length d1] := (Has.newAt (w := (w.alloc (.cells #[.slice B0 t0.length d0] 32))) (e := 34) (cs := #[.int .i64 (M : Int), .slice B1 us.length d1]) (k := w.heap.size + 1) (by simp))
    have HE0 := Lib.hid e0
    have c0 := b0.cell 0
    have hne : ((ps.length : Int) != (t0.length : Int)) = true := by simp; omega
    have HQ := Lib.hid (cmB_len (us := us) (M := M) hl)
    have hN8 := hm.g.n8
    clear hR hX hF hr hm hl
    go_enter Try.func82, Try.ntmps82
    go_wp2_with fail
    generalize ((w.alloc (.cells #[.slice B0 t0.length d0] 32)).alloc (.cells #[.int .i64 (M : Int), .slice B1 us.length d1] 34)) = W0 at *
    refine (groupOrder_ex B0 t0.length d0 _ (by omega)).mono ?_
    rintro e W1 ⟨rfl, he1⟩
    go_wp2_with fail
    go_ret
    exact ⟨by rw [HQ.out]; rfl, HE0.out.trans he1⟩


noncomputable def qIsComplement0 (t : List (List Int)) (m : Int) (us ps : List Int) : Bool := if prC t m us ps = 0 then cmB t m.toNat us ps else false
noncomputable def qIsComplement1 (t : List (List Int)) (m : Int) (us ps : List Int) : Int := prC t m us ps

set_option maxRecDepth 100000 in
set_option maxHeartbeats 4000000 in
theorem specIsComplement_ex (t0 : List (List Int)) (m1 : Int) (t1 : List Int) (t2 : List Int) : ∀ (B0 : Option Addr) (d0 : Nat) (B1 : Option Addr) (d1 : Nat) (B2 : Option Addr) (d2 : Nat) (W : World), RwsW W B0 t0 → IntsW W B1 t1 → IntsW W B2 t2 → SmallT t0 → t1.length ≤ 1048576 → t2.length ≤ 1048576 →
    Calls Try.prog 39 #[.agg #[.slice B0 t0.length d0], .agg #[.int .i64 m1, .slice B1 t1.length d1], .slice B2 t2.length d2] W fun e W' => e = .returned (.tuple #[.bool (qIsComplement0 t0 m1 t1 t2), .int .i64 (qIsComplement1 t0 m1 t1 t2)]) ∧ Ex W W' := by
  intro B0 d0 B1 d1 B2 d2 w hR hX hF hs hu hf
  have e0 : Ex w ((w.alloc (.cells #[.slice B0 t0.length d0] 32)).alloc (.cells #[.int .i64 m1, .slice B1 t1.length d1] 34)) := ((Ex.refl w).alloc _).alloc _
  have b0 : Has ((w.alloc (.cells #[.slice B0 t0.length d0] 32)).alloc (.cells #[.int .i64 m1, .slice B1 t1.length d1] 34)) (w.heap.size) 32 #[.slice B0 t0.length d0] := ((Has.newAt (w := w) (e := 32) (cs := #[.slice B0 t0.length d0]) (k := w.heap.size) (by simp)).alloc _)
  have b1 : Has ((w.alloc (.cells #[.slice B0 t0.length d0] 32)).alloc (.cells #[.int .i64 m1, .slice B1 t1.length d1] 34)) (w.heap.size + 1) 34 #[.int .i64 m1, .slice B1 t1.length d1] := (Has.newAt (w := (w.alloc (.cells #[.slice B0 t0.length d0] 32))) (e := 34) (cs := #[.int .i64 m1, .slice B1 t1.length d1]) (k := w.heap.size + 1) (by simp))
  have HC := Lib.hid (l05Pairs_ex B0 B1 B2 t0 m1 t1 t2 d0 d1 d2 _ (hR.ex e0) (hX.ex e0) (hF.ex e0) hs hu hf)
  have HE0 := Lib.hid e0
  by_cases hg : prC t0 m1 t1 t2 = 0
  · obtain ⟨hg1, hg2⟩ := prC_zero hg
    rw [hg] at HC
    obtain ⟨M, rfl, hMF⟩ := gmB_f hg1
    have HT := Lib.hid (fun W (he : Ex w W) => l05Complement_any B0 B1 B2 t0 M t1 t2 d0 d1 d2 W (hR.ex he) (hX.ex he) (hF.ex he) hMF (below_pairs hg2) hf)
    have HQ : Hid (qIsComplement0 t0 (M : Int) t1 t2 = cmB t0 M t1 t2 ∧ qIsComplement1 t0 (M : Int) t1 t2 = 0) := Lib.hid ⟨by rw [qIsComplement0, if_pos hg, Int.toNat_natCast], hg⟩
    obtain ⟨bv, hbv⟩ : ∃ b, cmB t0 M t1 t2 = b := ⟨_, rfl⟩
    rw [hbv] at HT HQ
    clear hR hX hF hs hu hg hg1 hg2 hMF hbv
    go_enter Try.func39, Try.ntmps39
    go_wp2_with fail
    generalize ((w.alloc (.cells #[.slice B0 t0.length d0] 32)).alloc (.cells #[.int .i64 (M : Int), .slice B1 t1.length d1] 34)) = W0 at *
    refine HC.out.mono ?_
    rintro e W1 ⟨rfl, he1⟩
    have c0 := (b0.ex he1).cell 0
    have c1 := (b1.ex he1).cell 0
    have c1' := (b1.ex he1).cell 1
    go_wp2_with fail
    refine (HT.out W1 (HE0.out.trans he1)).mono ?_
    rintro e W2 ⟨rfl, he2⟩
    go_wp2_with fail
    go_ret2
    exact ⟨by rw [HQ.out.1, HQ.out.2]; rfl, HE0.out.trans (he1.trans he2)⟩
  · have HQ : Hid (qIsComplement0 t0 m1 t1 t2 = false ∧ qIsComplement1 t0 m1 t1 t2 = prC t0 m1 t1 t2) := Lib.hid ⟨by rw [qIsComplement0, if_neg hg], rfl⟩
    obtain ⟨z, hz⟩ : ∃ z, prC t0 m1 t1 t2 = z := ⟨_, rfl⟩
    rw [hz] at HC HQ hg
    have hzb : (z != 0) = true := by simpa using hg
    clear hR hX hF hg hz
    go_enter Try.func39, Try.ntmps39
    go_wp2_with fail
    generalize ((w.alloc (.cells #[.slice B0 t0.length d0] 32)).alloc (.cells #[.int .i64 m1, .slice B1 t1.length d1] 34)) = W0 at *
    refine HC.out.mono ?_
    rintro e W1 ⟨rfl, he1⟩
    go_wp2_with fail
    go_ret2
    exact ⟨by rw [HQ.out.1, HQ.out.2]; rfl, HE0.out.trans he1⟩

set_option maxRecDepth 100000 in
set_option maxHeartbeats 4000000 in
theorem implIsComplement_ex (t0 : List (List Int)) (m1 : Int) (t1 : List Int) (t2 : List Int) : ∀ (B0 : Option Addr) (d0 : Nat) (B1 : Option Addr) (d1 : Nat) (B2 : Option Addr) (d2 : Nat) (W : World), RwsW W B0 t0 → IntsW W B1 t1 → IntsW W B2 t2 → SmallT t0 → t1.length ≤ 1048576 → t2.length ≤ 1048576 →
    Calls Try.prog 40 #[.agg #[.slice B0 t0.length d0], .agg #[.int .i64 m1, .slice B1 t1.length d1], .slice B2 t2.length d2] W fun e W' => e = .returned (.tuple #[.bool (qIsComplement0 t0 m1 t1 t2), .int .i64 (qIsComplement1 t0 m1 t1 t2)]) ∧ Ex W W' := by
  intro B0 d0 B1 d1 B2 d2 w hR hX hF hs hu hf
  have e0 : Ex w ((w.alloc (.cells #[.slice B0 t0.length d0] 32)).alloc (.cells #[.int .i64 m1, .slice B1 t1.length d1] 34)) := ((Ex.refl w).alloc _).alloc _
  have b0 : Has ((w.alloc (.cells #[.slice B0 t0.length d0] 32)).alloc (.cells #[.int .i64 m1, .slice B1 t1.length d1] 34)) (w.heap.size) 32 #[.slice B0 t0.length d0] := ((Has.newAt (w := w) (e := 32) (cs := #[.slice B0 t0.length d0]) (k := w.heap.size) (by simp)).alloc _)
  have b1 : Has ((w.alloc (.cells #[.slice B0 t0.length d0] 32)).alloc (.cells #[.int .i64 m1, .slice B1 t1.length d1] 34)) (w.heap.size + 1) 34 #[.int .i64 m1, .slice B1 t1.length d1] := (Has.newAt (w := (w.alloc (.cells #[.slice B0 t0.length d0] 32))) (e := 34) (cs := #[.int .i64 m1, .slice B1 t1.length d1]) (k := w.heap.size + 1) (by simp))
  have HC := Lib.hid (pairsCode_ex B0 B1 B2 t0 m1 t1 t2 d0 d1 d2 _ (hR.ex e0) (hX.ex e0) (hF.ex e0) hs hu hf)
  have HE0 := Lib.hid e0
  by_cases hg : prC t0 m1 t1 t2 = 0
  · obtain ⟨hg1, hg2⟩ := prC_zero hg
    rw [hg] at HC
    obtain ⟨M, rfl, hMF⟩ := gmB_f hg1
    have HT := Lib.hid (fun W (he : Ex w W) => isComplement_any B0 B1 B2 t0 M t1 t2 d0 d1 d2 W (hR.ex he) (hX.ex he) (hF.ex he) hMF (below_pairs hg2) hf)
    have HQ : Hid (qIsComplement0 t0 (M : Int) t1 t2 = cmB t0 M t1 t2 ∧ qIsComplement1 t0 (M : Int) t1 t2 = 0) := Lib.hid ⟨by rw [qIsComplement0, if_pos hg, Int.toNat_natCast], hg⟩
    obtain ⟨bv, hbv⟩ : ∃ b, cmB t0 M t1 t2 = b := ⟨_, rfl⟩
    rw [hbv] at HT HQ
    clear hR hX hF hs hu hg hg1 hg2 hMF hbv
    go_enter Try.func40, Try.ntmps40
    go_wp2_with fail
    generalize ((w.alloc (.cells #[.slice B0 t0.length d0] 32)).alloc (.cells #[.int .i64 (M : Int), .slice B1 t1.length d1] 34)) = W0 at *
    refine HC.out.mono ?_
    rintro e W1 ⟨rfl, he1⟩
    have c0 := (b0.ex he1).cell 0
    have c1 := (b1.ex he1).cell 0
    have c1' := (b1.ex he1).cell 1
    go_wp2_with fail
    refine (HT.out W1 (HE0.out.trans he1)).mono ?_
    rintro e W2 ⟨rfl, he2⟩
    go_wp2_with fail
    go_ret2
    exact ⟨by rw [HQ.out.1, HQ.out.2]; rfl, HE0.out.trans (he1.trans he2)⟩
  · have HQ : Hid (qIsComplement0 t0 m1 t1 t2 = false ∧ qIsComplement1 t0 m1 t1 t2 = prC t0 m1 t1 t2) := Lib.hid ⟨by rw [qIsComplement0, if_neg hg], rfl⟩
    obtain ⟨z, hz⟩ : ∃ z, prC t0 m1 t1 t2 = z := ⟨_, rfl⟩
    rw [hz] at HC HQ hg
    have hzb : (z != 0) = true := by simpa using hg
    clear hR hX hF hg hz
    go_enter Try.func40, Try.ntmps40
    go_wp2_with fail
    generalize ((w.alloc (.cells #[.slice B0 t0.length d0] 32)).alloc (.cells #[.int .i64 m1, .slice B1 t1.length d1] 34)) = W0 at *
    refine HC.out.mono ?_
    rintro e W1 ⟨rfl, he1⟩
    go_wp2_with fail
    go_ret2
    exact ⟨by rw [HQ.out.1, HQ.out.2]; rfl, HE0.out.trans he1⟩

end Go.Proofs.Ytfafccldngekgaa
