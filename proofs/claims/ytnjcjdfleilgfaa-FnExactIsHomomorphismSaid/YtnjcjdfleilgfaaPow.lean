/- PowerOf, of the program and of the specification. -/
import Derived.Test.YtnjcjdfleilgfaaLag
import Derived.Test.YtnjcjdfleilgfaaOrd
namespace Go.Proofs.Ytnjcjdfleilgfaa
open Go.RowKit

theorem tmod_bound (x : Int) (m : Nat) (hm : 0 < m) (hm' : m ≤ 8) : -9 < Int.tmod x m ∧ Int.tmod x m < 8 := by
  have h0 := Int.emod_nonneg x (show (m : Int) ≠ 0 by omega)
  have h1 := Int.emod_lt_of_pos x (show 0 < (m : Int) by omega)
  rcases rest_if x m (by omega) with ⟨h2, h3⟩ | ⟨h2, h3⟩ <;> omega

set_option maxHeartbeats 400000 in
theorem l01Mod_any (x : Int) (m : Nat) (w : World) (hm : 0 < m) (hm' : m ≤ 8) (_ : -1000000 ≤ x) (_ : x ≤ 1000000) :
    Calls Try.prog 90 #[.int .i64 x, .int .i64 (m : Int)] w fun e w' => e = .returned (.int .i64 (x % (m : Int))) ∧ w' = w := by
  have hb := tmod_bound x m hm hm'
  have hw : wrap64 (Int.tmod x m + m) = Int.tmod x m + m := by unfold wrap64; omega
  go_enter Try.func90, Try.ntmps90
  go_wp2
  go_ret
  refine ⟨?_, rfl⟩
  simp only [hw, rest_up x m (by omega)]
  rfl

set_option maxHeartbeats 400000 in
theorem restOf_any (x : Int) (m : Nat) (w : World) (hm : 0 < m) (hm' : m ≤ 8) (_ : -1000000 ≤ x) (_ : x ≤ 1000000) :
    Calls Try.prog 91 #[.int .i64 x, .int .i64 (m : Int)] w fun e w' => e = .returned (.int .i64 (x % (m : Int))) ∧ w' = w := by
  have hb := tmod_bound x m hm hm'
  have hw : wrap64 (Int.tmod x m + m) = Int.tmod x m + m := by unfold wrap64; omega
  rcases rest_if x m (by omega) with ⟨g1, g2⟩ | ⟨g1, g2⟩
  · have g1' : decide (Int.tmod x m < 0) = true := by simp [g1]
    have G2 := Lib.hid g2
    have HW := Lib.hid hw
    clear g2 hw
    go_enter Try.func91, Try.ntmps91
    go_wp2
    go_ret
    refine ⟨?_, rfl⟩
    simp only [HW.out, G2.out]
    rfl
  · have g1' : decide (Int.tmod x m < 0) = false := by simp [g1]
    have G2 := Lib.hid g2
    clear g2 hw
    go_enter Try.func91, Try.ntmps91
    go_wp2
    go_ret
    refine ⟨?_, rfl⟩
    simp only [G2.out]
    rfl

set_option maxHeartbeats 1000000 in
theorem l01Power_any (t : List (List Int)) (c B b o a : Nat) (k : Int) (bb oo C : Nat → Nat) (w : World) (hQ : SqT w B b o bb oo C t) (hB : B ≤ w.heap.size) (hg : IsGrp t) (ha : a < t.length) (hk1 : -1000000 ≤ k) (hk2 : k ≤ 1000000) :
    Calls Try.prog 61 #[.agg #[.slice (some ⟨b, o, none⟩) t.length c], .int .i64 (a : Int), .int .i64 k] w fun e w' => e = .returned (.int .i64 (pw t a (k % (t.length : Int)).toNat : Int)) ∧ Below w.heap.size w w' := by
  rw [hg.pw_rest ha k]
  have hb0 : Below w.heap.size w (w.alloc (.cells #[.slice (some ⟨b, o, none⟩) t.length c] 27)) := (Below.refl _ _).alloc (Nat.le_refl _) _
  have h0 := Has.new w 27 #[.slice (some ⟨b, o, none⟩) t.length c]
  have hz0 : (w.alloc (.cells #[.slice (some ⟨b, o, none⟩) t.length c] 27)).heap.size = w.heap.size + 1 := by simp
  obtain ⟨g1, g2, _, _⟩ := hg.ord_spec ha
  have hn8 := hg.n8
  have hcon := fun W1 hw => l01Order_any t c B b o a bb oo C W1 (hQ.below (w' := W1) hw hB) (Nat.le_trans hB hw.size) hg ha
  have HCON := Lib.hid hcon
  have HG := Lib.hid hg
  have HQ := Lib.hid hQ
  have hbox := h0.cell 0
  clear hQ hg hcon
  go_enter Try.func61, Try.ntmps61
  go_wp2_with fail
  generalize (w.alloc (.cells #[.slice (some ⟨b, o, none⟩) t.length c] 27)) = W0 at *
  refine (HCON.out W0 hb0).mono ?_
  rintro e W1 ⟨rfl, hb1⟩
  have h1 := h0.below hb1 h0.lt
  have hQ1 := HQ.out.below (hb0.trans (hb1.mono (by omega))) hB
  have HQ1 := Lib.hid hQ1
  have hbox1 := h1.cell 0
  have hbw := hb0.trans (hb1.mono (by omega))
  clear hQ1 hbox HQ
  go_wp2_with fail
  refine (l01Mod_any k (ord t a) W1 (by omega) (by omega) hk1 hk2).mono ?_
  rintro e W2 ⟨rfl, rfl⟩
  have hK0 := Int.emod_nonneg k (show (ord t a : Int) ≠ 0 by omega)
  have hK1 := Int.emod_lt_of_pos k (show 0 < (ord t a : Int) by omega)
  obtain ⟨K, hK⟩ := Int.eq_ofNat_of_zero_le hK0
  rw [hK] at hK1 ⊢
  have HKK := Lib.hid hK
  clear hK hK0
  go_wp2_with fail
  go_loop [2, 7] (fun q p => ∃ r : Nat, r ≤ K ∧ q = .int .i64 r ∧ p = .int .i64 (pw t a (K - r) : Int)) (fun q _ => (intOf q).toNat)
  case atStart => exact ⟨K, Nat.le_refl _, rfl, by rw [Nat.sub_self]; rfl⟩
  case round =>
    obtain ⟨r, hr, rfl, rfl⟩ := hrel
    by_cases hlt : 0 < r
    · have hp := HG.out.pw_lt ha (K - r)
      have hnxt : mul t (pw t a (K - r)) a = pw t a (K - (r - 1)) := by rw [show K - (r - 1) = (K - r) + 1 by omega]; rfl
      have hrow := HQ1.out.row_ hp
      have hent := HQ1.out.mul_ HG.out hp ha
      obtain ⟨y, hy⟩ : ∃ y, pw t a (K - (r - 1)) = y := ⟨_, rfl⟩
      rw [hnxt, hy] at hent
      have HY := Lib.hid hy
      have hpos : decide ((0 : Int) < (r : Int)) = true := by simp; omega
      clear hnxt hy
      generalize pw t a (K - r) = x at *
      go_wp2
      go_round
      case rel => exact ⟨r - 1, by omega, by go_num, by rw [HY.out]⟩
      case measure => simp [intOf]; omega
    · obtain rfl : r = 0 := by omega
      go_wp2
      go_ret
      exact ⟨by rw [HKK.out]; rfl, hbw⟩

set_option maxHeartbeats 1000000 in
theorem powerOf_any (t : List (List Int)) (c B b o a : Nat) (k : Int) (bb oo C : Nat → Nat) (w : World) (hQ : SqT w B b o bb oo C t) (hB : B ≤ w.heap.size) (hg : IsGrp t) (ha : a < t.length) (hk1 : -1000000 ≤ k) (hk2 : k ≤ 1000000) :
    Calls Try.prog 62 #[.agg #[.slice (some ⟨b, o, none⟩) t.length c], .int .i64 (a : Int), .int .i64 k] w fun e w' => e = .returned (.int .i64 (pw t a (k % (t.length : Int)).toNat : Int)) ∧ Below w.heap.size w w' := by
  have hb0 : Below w.heap.size w (w.alloc (.cells #[.slice (some ⟨b, o, none⟩) t.length c] 27)) := (Below.refl _ _).alloc (Nat.le_refl _) _
  have h0 := Has.new w 27 #[.slice (some ⟨b, o, none⟩) t.length c]
  have hz0 : (w.alloc (.cells #[.slice (some ⟨b, o, none⟩) t.length c] 27)).heap.size = w.heap.size + 1 := by simp
  have hn1 := hg.n1
  have hn8 := hg.n8
  have HG := Lib.hid hg
  have HQ := Lib.hid hQ
  have hbox := h0.cell 0
  clear hQ hg
  go_enter Try.func62, Try.ntmps62
  go_wp2_with fail
  generalize (w.alloc (.cells #[.slice (some ⟨b, o, none⟩) t.length c] 27)) = W0 at *
  refine (groupOrder_any (some ⟨b, o, none⟩) t.length c W0 (by omega)).mono ?_
  rintro e W1 ⟨rfl, hW1⟩
  have hb1 : Below W0.heap.size W0 W1 := by rw [hW1]; exact (Below.refl _ _).alloc (Nat.le_refl _) _
  have h1 := h0.below hb1 h0.lt
  have hQ1 := HQ.out.below (hb0.trans (hb1.mono (by omega))) hB
  have HQ1 := Lib.hid hQ1
  have hbox1 := h1.cell 0
  have hbw := hb0.trans (hb1.mono (by omega))
  clear hQ1 hbox HQ hW1
  go_wp2_with fail
  refine (restOf_any k t.length W1 (by omega) (by omega) hk1 hk2).mono ?_
  rintro e W2 ⟨rfl, rfl⟩
  have hK0 := Int.emod_nonneg k (show (t.length : Int) ≠ 0 by omega)
  have hK1 := Int.emod_lt_of_pos k (show 0 < (t.length : Int) by omega)
  obtain ⟨K, hK⟩ := Int.eq_ofNat_of_zero_le hK0
  rw [hK] at hK1 ⊢
  have HKK := Lib.hid hK
  clear hK hK0
  go_wp2_with fail
  go_loop [12, 7] (fun i p => ∃ j : Nat, j ≤ K ∧ i = .int .i64 j ∧ p = .int .i64 (pw t a j : Int)) (fun i _ => K - (intOf i).toNat)
  case atStart => exact ⟨0, Nat.zero_le _, rfl, rfl⟩
  case round =>
    obtain ⟨j, hj, rfl, rfl⟩ := hrel
    by_cases hlt : j < K
    · have hp := HG.out.pw_lt ha j
      have hnxt : mul t (pw t a j) a = pw t a (j + 1) := rfl
      have hrow := HQ1.out.row_ hp
      have hent := HQ1.out.mul_ HG.out hp ha
      obtain ⟨y, hy⟩ : ∃ y, pw t a (j + 1) = y := ⟨_, rfl⟩
      rw [hnxt, hy] at hent
      have HY := Lib.hid hy
      clear hnxt hy
      generalize pw t a j = x at *
      go_wp2
      go_round
      case rel => exact ⟨j + 1, by omega, by go_num, by rw [HY.out]⟩
      case measure => simp [intOf]; omega
    · obtain rfl : j = K := by omega
      go_wp2
      go_ret
      exact ⟨by rw [HKK.out]; rfl, hbw⟩

/-- The power, and the code. -/
noncomputable def powerR (t : List (List Int)) (a k : Int) : Int × Int :=
  if elemR t [a] = 0 then (if -1000000 ≤ k ∧ k ≤ 1000000 then ((pw t a.toNat (k % (t.length : Int)).toNat : Int), 0) else (0, 2)) else (0, elemR t [a])

theorem elem_one {t : List (List Int)} {a : Int} (h : elemR t [a] = 0) : IsGrp t ∧ 0 ≤ a ∧ a < t.length := by
  unfold elemR at h
  split at h
  · split at h
    · rename_i h1 h2
      exact ⟨h1, h2 0 (by simp)⟩
    · omega
  · omega
theorem elem_of {t : List (List Int)} {a : Int} (hg : IsGrp t) (ha : 0 ≤ a ∧ a < t.length) : elemR t [a] = 0 := by
  rw [elemR, if_pos hg, if_pos]
  intro i hi
  match i, hi with
  | 0, _ => exact ha
theorem elem_out {t : List (List Int)} {a : Int} (hg : IsGrp t) (ha : ¬ (0 ≤ a ∧ a < t.length)) : elemR t [a] = 2 := by
  rw [elemR, if_pos hg, if_neg]
  exact fun h => ha (h 0 (by simp))
theorem elem_none {t : List (List Int)} {a : Int} (hg : ¬ IsGrp t) : elemR t [a] = 1 := by
  rw [elemR, if_neg hg]

set_option maxHeartbeats 1000000 in
theorem specPowerOf_any (A : Option Addr) (t : List (List Int)) (c B : Nat) (a k : Int) (w : World) (hR : Rws w B A t) (hB : B ≤ w.heap.size) (hn : t.length ≤ 1048576) (hl : ∀ i, i < t.length → (row t i).length ≤ 1048576) :
    Calls Try.prog 22 #[.agg #[.slice A t.length c], .int .i64 a, .int .i64 k] w fun e w' => e = .returned (.tuple #[.int .i64 (powerR t a k).1, .int .i64 (powerR t a k).2]) ∧ Below w.heap.size w w' := by
  have hb0 : Below w.heap.size w ((w.alloc (.cells #[.slice A t.length c] 27)).alloc (.cells #[.int .i64 a] 2)) := ((Below.refl _ _).alloc (Nat.le_refl _) _).alloc (by simp) _
  have h0 := (Has.new w 27 #[.slice A t.length c]).alloc (.cells #[.int .i64 a] 2)
  have h1 := Has.new (w.alloc (.cells #[.slice A t.length c] 27)) 2 #[.int .i64 a]
  have hz0 : ((w.alloc (.cells #[.slice A t.length c] 27)).alloc (.cells #[.int .i64 a] 2)).heap.size = w.heap.size + 2 := by simp
  simp only [World.size_alloc] at h1
  have hR0 := hR.below hb0 hB
  have HL := Lib.hid hl
  have HR := Lib.hid hR0
  clear hR hl hR0
  have hI0 : Ints ((w.alloc (.cells #[.slice A t.length c] 27)).alloc (.cells #[.int .i64 a] 2)) (w.heap.size + 2) (some ⟨w.heap.size + 1, 0, none⟩) [a] :=
    .inr ⟨w.heap.size + 1, 0, rfl, by omega, fun j hj => by
      rw [Nat.zero_add, h1.cell j]
      match j, hj with
      | 0, _ => rfl⟩
  have HI0 := Lib.hid hI0
  clear hI0 h1
  have hcon := l01Elements_any A (some ⟨w.heap.size + 1, 0, none⟩) t [a] c 1 B (w.heap.size + 2) _ HR.out HI0.out (by omega) (by omega) hn HL.out (by simp)
  by_cases he : elemR t [a] = 0
  · obtain ⟨hgr, ha'⟩ := elem_one he
    rw [he] at hcon
    have HCON := Lib.hid hcon
    have HP : Hid (powerR t a k = if -1000000 ≤ k ∧ k ≤ 1000000 then ((pw t a.toNat (k % (t.length : Int)).toNat : Int), 0) else (0, 2)) := by
      show powerR t a k = _
      rw [powerR, if_pos he]
    clear hcon he
    obtain ⟨ka, rfl⟩ := Int.eq_ofNat_of_zero_le ha'.1
    have hka : ka < t.length := by omega
    clear ha'
    have hS := HR.out.sq (by omega) hgr.sq
    obtain ⟨bt, ot, bb, oo, C, rfl, hQ⟩ := hS
    have HQ := Lib.hid hQ
    have HG := Lib.hid hgr
    clear hQ hgr
    by_cases hk : -1000000 ≤ k ∧ k ≤ 1000000
    · obtain ⟨hk1, hk2⟩ := hk
      go_enter Try.func22, Try.ntmps22
      go_wp2_with fail
      refine HCON.out.mono ?_
      rintro e W1 ⟨rfl, hb1⟩
      have hQ1 := Lib.hid (HQ.out.below hb1 (by rw [hz0]; omega))
      have hbox := (h0.below hb1 (by rw [hz0]; omega)).cell 0
      have hbw := hb0.trans (hb1.mono (by rw [hz0]; omega))
      clear h0 hb0 hz0 hb1
      go_wp2_with fail
      refine (l01In_yes _ _ _ _ hk1 hk2).mono ?_
      rintro e w' ⟨rfl, rfl⟩
      go_wp2_with fail
      refine (l01Power_any t c B bt ot ka k bb oo C W1 hQ1.out (by have := hbw.size; omega) HG.out hka hk1 hk2).mono ?_
      rintro e W2 ⟨rfl, hb2⟩
      go_wp2
      go_ret2
      exact ⟨by rw [HP.out, if_pos ⟨hk1, hk2⟩]; rfl, hbw.trans (hb2.mono hbw.size)⟩
    · have hk' : k < -1000000 ∨ 1000000 < k := by omega
      have HK := Lib.hid hk
      clear hk
      go_enter Try.func22, Try.ntmps22
      go_wp2_with fail
      refine HCON.out.mono ?_
      rintro e W1 ⟨rfl, hb1⟩
      have hbw := hb0.trans (hb1.mono (by rw [hz0]; omega))
      go_wp2_with fail
      refine (l01In_no _ _ _ _ hk').mono ?_
      rintro e w' ⟨rfl, rfl⟩
      go_wp2
      go_ret2
      exact ⟨by rw [HP.out, if_neg HK.out]; rfl, hbw⟩
  · have HP : Hid (powerR t a k = (0, elemR t [a])) := by
      show powerR t a k = _
      rw [powerR, if_neg he]
    have hne : (elemR t [a] != 0) = true := by simp [he]
    have hne2 : (elemR t [a] == 0) = false := by simp [he]
    have HCON := Lib.hid hcon
    clear hcon he
    generalize elemR t [a] = er at *
    go_enter Try.func22, Try.ntmps22
    go_wp2_with fail
    refine HCON.out.mono ?_
    rintro e W1 ⟨rfl, hb1⟩
    have hbw := hb0.trans (hb1.mono (by rw [hz0]; omega))
    go_wp2
    go_ret2
    exact ⟨by rw [HP.out]; rfl, hbw⟩

set_option maxHeartbeats 1000000 in
theorem implPowerOf_any (A : Option Addr) (t : List (List Int)) (c B : Nat) (a k : Int) (w : World) (hR : Rws w B A t) (hB : B ≤ w.heap.size) (hn : t.length ≤ 1048576) (hl : ∀ i, i < t.length → (row t i).length ≤ 1048576) :
    Calls Try.prog 23 #[.agg #[.slice A t.length c], .int .i64 a, .int .i64 k] w fun e w' => e = .returned (.tuple #[.int .i64 (powerR t a k).1, .int .i64 (powerR t a k).2]) ∧ Below w.heap.size w w' := by
  have hb0 : Below w.heap.size w (w.alloc (.cells #[.slice A t.length c] 27)) := (Below.refl _ _).alloc (Nat.le_refl _) _
  have h0 := Has.new w 27 #[.slice A t.length c]
  have hz0 : (w.alloc (.cells #[.slice A t.length c] 27)).heap.size = w.heap.size + 1 := by simp
  have hcon := implIsGroup_any A t c B _ (hR.below hb0 hB) (by rw [hz0]; omega) hn hl
  cases hg : grpB t with
  | false =>
    have hng : ¬ IsGrp t := fun h => by have := grpB_true h; rw [hg] at this; cases this
    have HP : Hid (powerR t a k = (0, 1)) := by
      show powerR t a k = _
      rw [powerR, if_neg (by rw [elem_none hng]; omega), elem_none hng]
    rw [hg] at hcon
    have HCON := Lib.hid hcon
    clear hR hl hcon hg hng
    go_enter Try.func23, Try.ntmps23
    go_wp2_with fail
    refine HCON.out.mono ?_
    rintro e W1 ⟨rfl, hb1⟩
    have hbw := hb0.trans (hb1.mono (by rw [hz0]; omega))
    go_wp2
    go_ret2
    exact ⟨by rw [HP.out]; rfl, hbw⟩
  | true =>
    have hgr := grpB_iff.1 hg
    have hn8 := hgr.n8
    have hR0 := hR.below hb0 hB
    obtain ⟨bt, ot, bb, oo, C, rfl, hQ⟩ := hR0.sq hgr.n1 hgr.sq
    rw [hg] at hcon
    have HCON := Lib.hid hcon
    have HQ := Lib.hid hQ
    have HG := Lib.hid hgr
    clear hR hl hcon hg hQ hgr hR0
    have hf : ∀ W1 : World, Below (w.heap.size + 1) (w.alloc (.cells #[.slice (some ⟨bt, ot, none⟩) t.length c] 27)) W1 → W1.cell? ⟨w.heap.size, 0, none⟩ = some (.slice (some ⟨bt, ot, none⟩) t.length c) := fun W1 hb => (h0.below hb (by omega)).cell 0
    have HF := Lib.hid hf
    clear hf
    by_cases ha : 0 ≤ a ∧ a < t.length
    · have HP : Hid (powerR t a k = if -1000000 ≤ k ∧ k ≤ 1000000 then ((pw t a.toNat (k % (t.length : Int)).toNat : Int), 0) else (0, 2)) := by
        show powerR t a k = _
        rw [powerR, if_pos (elem_of HG.out ha)]
      have hda : decide (0 ≤ a ∧ a < (t.length : Int)) = true := by simp [ha]
      have HDA := Lib.hid hda
      obtain ⟨ka, rfl⟩ := Int.eq_ofNat_of_zero_le ha.1
      have hka : ka < t.length := by omega
      clear ha hda
      by_cases hk1 : k < -1000000
      · go_enter Try.func23, Try.ntmps23
        go_wp2_with fail
        refine HCON.out.mono ?_
        rintro e W1 ⟨rfl, hb1⟩
        rw [hz0] at hb1
        have c1 := HF.out W1 hb1
        go_wp2_with fail
        refine (isElement_any _ _ _ _ _ hn).mono ?_
        rintro e W2 ⟨rfl, hb2⟩
        rw [HDA.out]
        have hbw := hb0.trans ((hb1.trans (hb2.mono (by have := hb1.size; omega))).mono (by omega))
        go_wp2
        go_ret2
        exact ⟨by rw [HP.out, if_neg (by omega)]; rfl, hbw⟩
      · by_cases hk2 : 1000000 < k
        · go_enter Try.func23, Try.ntmps23
          go_wp2_with fail
          refine HCON.out.mono ?_
          rintro e W1 ⟨rfl, hb1⟩
          rw [hz0] at hb1
          have c1 := HF.out W1 hb1
          go_wp2_with fail
          refine (isElement_any _ _ _ _ _ hn).mono ?_
          rintro e W2 ⟨rfl, hb2⟩
          rw [HDA.out]
          have hbw := hb0.trans ((hb1.trans (hb2.mono (by have := hb1.size; omega))).mono (by omega))
          go_wp2
          go_ret2
          exact ⟨by rw [HP.out, if_neg (by omega)]; rfl, hbw⟩
        · go_enter Try.func23, Try.ntmps23
          go_wp2_with fail
          refine HCON.out.mono ?_
          rintro e W1 ⟨rfl, hb1⟩
          rw [hz0] at hb1
          have c1 := HF.out W1 hb1
          go_wp2_with fail
          refine (isElement_any _ _ _ _ _ hn).mono ?_
          rintro e W2 ⟨rfl, hb2⟩
          rw [HDA.out]
          have hb12 := hb1.trans (hb2.mono (by have := hb1.size; omega))
          have c2 := HF.out W2 hb12
          have hQ2 := Lib.hid (HQ.out.below hb12 (by omega))
          have hbw := hb0.trans (hb12.mono (by omega))
          clear c1
          go_wp2_with fail
          refine (powerOf_any t c B bt ot ka k bb oo C W2 hQ2.out (by have := hbw.size; omega) HG.out hka (by omega) (by omega)).mono ?_
          rintro e W3 ⟨rfl, hb3⟩
          go_wp2
          go_ret2
          exact ⟨by rw [HP.out, if_pos ⟨by omega, by omega⟩]; rfl, hbw.trans (hb3.mono hbw.size)⟩
    · have HP : Hid (powerR t a k = (0, 2)) := by
        show powerR t a k = _
        rw [powerR, if_neg (by rw [elem_out HG.out ha]; omega), elem_out HG.out ha]
      have hda : decide (0 ≤ a ∧ a < (t.length : Int)) = false := by simpa using ha
      have HDA := Lib.hid hda
      clear ha hda
      go_enter Try.func23, Try.ntmps23
      go_wp2_with fail
      refine HCON.out.mono ?_
      rintro e W1 ⟨rfl, hb1⟩
      rw [hz0] at hb1
      have c1 := HF.out W1 hb1
      go_wp2_with fail
      refine (isElement_any _ _ _ _ _ hn).mono ?_
      rintro e W2 ⟨rfl, hb2⟩
      rw [HDA.out]
      have hb12 := hb1.trans (hb2.mono (by have := hb1.size; omega))
      have hbw := hb0.trans (hb12.mono (by omega))
      go_wp2
      go_ret2
      exact ⟨by rw [HP.out]; rfl, hbw⟩

end Go.Proofs.Ytnjcjdfleilgfaa
