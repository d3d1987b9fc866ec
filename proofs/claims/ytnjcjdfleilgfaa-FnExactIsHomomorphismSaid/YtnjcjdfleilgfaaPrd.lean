/- ProductOf, of the program and of the specification. -/
import Derived.Deep.RegionHeld3
import Derived.Laws.Rows
import Derived.IntWalk
import Derived.Test.YtnjcjdfleilgfaaIsG
namespace Go.Proofs.Ytnjcjdfleilgfaa
open Go.RowKit

theorem IsGrp.tab {t : List (List Int)} (h : IsGrp t) : IsTab t := (isGrp_iff.1 h).1

set_option maxHeartbeats 400000 in
theorem l01N_any (A : Option Addr) (n c : Nat) (w : World) (hn : n ≤ 1048576) :
    Calls Try.prog 63 #[.agg #[.slice A n c]] w fun e w' => e = .returned (.int .i64 n) ∧ w' = w.alloc (.cells #[.slice A n c] 27) := by
  go_enter Try.func63, Try.ntmps63
  go_wp2
  go_ret
  exact ⟨rfl, rfl⟩

/-- Are all numbers of a list elements of a group of n elements? -/
def InR (n : Nat) (xs : List Int) : Prop := ∀ i, i < xs.length → 0 ≤ nth xs i ∧ nth xs i < n

open Classical in
/-- The code of a group and elements. -/
noncomputable def elemR (t : List (List Int)) (xs : List Int) : Int := if IsGrp t then (if InR t.length xs then 0 else 2) else 1

set_option maxHeartbeats 1000000 in
theorem l01Elements_any (A L : Option Addr) (t : List (List Int)) (xs : List Int) (c c' B B' : Nat) (w : World) (hR : Rws w B A t) (hX : Ints w B' L xs) (hB : B ≤ w.heap.size) (hB' : B' ≤ w.heap.size)
    (hn : t.length ≤ 1048576) (hl : ∀ i, i < t.length → (row t i).length ≤ 1048576) (hx : xs.length ≤ 1048576) :
    Calls Try.prog 58 #[.agg #[.slice A t.length c], .slice L xs.length c'] w fun e w' => e = .returned (.int .i64 (elemR t xs)) ∧ Below w.heap.size w w' := by
  have hb0 : Below w.heap.size w (w.alloc (.cells #[.slice A t.length c] 27)) := (Below.refl _ _).alloc (Nat.le_refl _) _
  have h0 := Has.new w 27 #[.slice A t.length c]
  have hz0 : (w.alloc (.cells #[.slice A t.length c] 27)).heap.size = w.heap.size + 1 := by simp
  have hcon := l01Is_any A t c B _ (hR.below hb0 hB) (by rw [hz0]; omega) hn hl
  have hX0 := hX.below hb0 hB'
  cases hg : grpB t with
  | false =>
    have HG := Lib.hid hg
    rw [hg] at hcon
    have HCON := Lib.hid hcon
    clear hR hl hcon hX hX0 hg
    go_enter Try.func58, Try.ntmps58
    go_wp2_with fail
    refine HCON.out.mono ?_
    rintro e W1 ⟨rfl, hb1⟩
    go_wp2
    go_ret
    exact ⟨by rw [elemR, if_neg (fun h => by have := grpB_true h; rw [HG.out] at this; cases this)]; rfl, hb0.trans (hb1.mono (by omega))⟩
  | true =>
    have HG := Lib.hid (grpB_iff.1 hg)
    rw [hg] at hcon
    have HCON := Lib.hid hcon
    have HX0 := Lib.hid hX0
    clear hR hl hcon hX hX0 hg
    go_enter Try.func58, Try.ntmps58
    go_wp2_with fail
    generalize (w.alloc (.cells #[.slice A t.length c] 27)) = W0 at *
    refine HCON.out.mono ?_
    rintro e W1 ⟨rfl, hb1⟩
    clear HCON
    have hz1 := hb1.size
    have hX1 := HX0.out.below hb1 (by omega)
    have HX1 := Lib.hid hX1
    have h1 := h0.below hb1 h0.lt
    have hb01 := hb0.trans (hb1.mono (by omega))
    clear hX1 h0 hb0 hb1 HX0
    go_wp2
    go_loopw [5] (fun i wr => ∃ k : Nat, k ≤ xs.length ∧ i = .int .i64 k ∧ Below W1.heap.size W1 wr ∧ ∀ i, i < k → 0 ≤ nth xs i ∧ nth xs i < t.length) (fun i _ => xs.length - (intOf i).toNat)
    case atStart => exact ⟨0, by omega, rfl, Below.refl _ _, fun i hi => absurd hi (by omega)⟩
    case round =>
      obtain ⟨k, hk, rfl, hb, hs⟩ := hrel
      have HS := Lib.hid hs
      clear hs
      by_cases hlt : k < xs.length
      · obtain ⟨b, o, rfl, hbb, hcell⟩ := (HX1.out.below hb (by omega)).at_ hlt
        have hbox := (h1.below hb h1.lt).cell 0
        have hH : Has wr.drew w.heap.size 27 #[.slice A t.length c] := h1.below hb.drew h1.lt
        have hbt : b < wr.heap.size := by have := hb.size; omega
        have hkk : (0 : Int) ≤ k := by omega
        by_cases hrg : 0 ≤ nth xs k ∧ nth xs k ≤ t.length - 1
        · have HRG := Lib.hid hrg
          have hw1 : IntKind.i64.wrap ((t.length : Int) - 1) = (t.length : Int) - 1 := IntWalk.i64_in _ (by omega)
          clear hrg
          go_wp2_with fail
          go_region_held3 (fun w' => w'.cell? ⟨b, o + k, none⟩ = some (.int .i64 (nth xs k)) ∧ w'.cell? ⟨w.heap.size, 0, none⟩ = some (.slice A t.length c)) (go_keep)
            (first
              | (go_at_call 63; refine (l01N_any A t.length c _ hn).mono ?_; rintro e W2 ⟨rfl, rfl⟩)
              | (go_at_call 60; refine (l01In_yes _ _ _ _ HRG.out.1 HRG.out.2).mono ?_; rintro e W3 ⟨rfl, rfl⟩))
          go_wp2
          go_roundw
          case rel => exact ⟨k + 1, by omega, by go_num, hb.drew.alloc (by simp; exact hb.size) _, fun i hi => by
            rcases Nat.lt_or_ge i k with h | h
            · exact HS.out i h
            · obtain rfl : i = k := by omega
              have := HRG.out
              omega⟩
          case measure => simp [intOf]; omega
        · have HRG := Lib.hid hrg
          have hw1 : IntKind.i64.wrap ((t.length : Int) - 1) = (t.length : Int) - 1 := IntWalk.i64_in _ (by omega)
          clear hrg
          go_wp2_with fail
          go_region_held3 (fun w' => w'.cell? ⟨b, o + k, none⟩ = some (.int .i64 (nth xs k)) ∧ w'.cell? ⟨w.heap.size, 0, none⟩ = some (.slice A t.length c)) (go_keep)
            (first
              | (go_at_call 63; refine (l01N_any A t.length c _ hn).mono ?_; rintro e W2 ⟨rfl, rfl⟩)
              | (go_at_call 60; refine (l01In_no _ _ _ _ (by have := HRG.out; omega)).mono ?_; rintro e W3 ⟨rfl, rfl⟩))
          go_wp2
          go_ret
          exact ⟨by rw [elemR, if_pos HG.out, if_neg (fun h => HRG.out (by have := h k hlt; omega))]; rfl, hb01.trans ((hb.drew.alloc (by simp; exact hb.size) _).mono (by omega))⟩
      · have hkk : k = xs.length := by omega
        subst hkk
        go_wp2
        go_ret
        exact ⟨by rw [elemR, if_pos HG.out, if_pos (show InR t.length xs from HS.out)]; rfl, hb01.trans (hb.mono (by omega))⟩

/-- The product of two elements, and the code. -/
noncomputable def productR (t : List (List Int)) (a b : Int) : Int × Int :=
  if elemR t [a, b] = 0 then (nth (row t a.toNat) b.toNat, 0) else (0, elemR t [a, b])

theorem productR_grp {t : List (List Int)} {a b : Int} (h : IsGrp t) (ha : 0 ≤ a ∧ a < t.length) (hb : 0 ≤ b ∧ b < t.length) : productR t a b = (nth (row t a.toNat) b.toNat, 0) := by
  have hi : InR t.length [a, b] := fun i hi => by
    match i, hi with
    | 0, _ => exact ha
    | 1, _ => exact hb
  rw [productR, elemR, if_pos h, if_pos hi, if_pos rfl]
theorem productR_out {t : List (List Int)} {a b : Int} (h : IsGrp t) (hn : ¬ ((0 ≤ a ∧ a < t.length) ∧ (0 ≤ b ∧ b < t.length))) : productR t a b = (0, 2) := by
  have hi : ¬ InR t.length [a, b] := fun hi => hn ⟨hi 0 (by simp), hi 1 (by simp)⟩
  rw [productR, elemR, if_pos h, if_neg hi, if_neg (by omega)]
theorem productR_none {t : List (List Int)} {a b : Int} (h : ¬ IsGrp t) : productR t a b = (0, 1) := by
  rw [productR, elemR, if_neg h, if_neg (by omega)]

set_option maxHeartbeats 1000000 in
theorem specProductOf_any (A : Option Addr) (t : List (List Int)) (c B : Nat) (a b : Int) (w : World) (hR : Rws w B A t) (hB : B ≤ w.heap.size) (hn : t.length ≤ 1048576) (hl : ∀ i, i < t.length → (row t i).length ≤ 1048576) :
    Calls Try.prog 20 #[.agg #[.slice A t.length c], .int .i64 a, .int .i64 b] w fun e w' => e = .returned (.tuple #[.int .i64 (productR t a b).1, .int .i64 (productR t a b).2]) ∧ Below w.heap.size w w' := by
  have hb0 : Below w.heap.size w ((w.alloc (.cells #[.slice A t.length c] 27)).alloc (.cells #[.int .i64 a, .int .i64 b] 2)) := ((Below.refl _ _).alloc (Nat.le_refl _) _).alloc (by simp) _
  have h0 := (Has.new w 27 #[.slice A t.length c]).alloc (.cells #[.int .i64 a, .int .i64 b] 2)
  have h1 := Has.new (w.alloc (.cells #[.slice A t.length c] 27)) 2 #[.int .i64 a, .int .i64 b]
  have hz0 : ((w.alloc (.cells #[.slice A t.length c] 27)).alloc (.cells #[.int .i64 a, .int .i64 b] 2)).heap.size = w.heap.size + 2 := by simp
  simp only [World.size_alloc] at h1
  have hR0 := hR.below hb0 hB
  have HL := Lib.hid hl
  have HR := Lib.hid hR0
  clear hR hl hR0
  have hI0 : Ints ((w.alloc (.cells #[.slice A t.length c] 27)).alloc (.cells #[.int .i64 a, .int .i64 b] 2)) (w.heap.size + 2) (some ⟨w.heap.size + 1, 0, none⟩) [a, b] :=
    .inr ⟨w.heap.size + 1, 0, rfl, by omega, fun j hj => by
      rw [Nat.zero_add, h1.cell j]
      match j, hj with
      | 0, _ => rfl
      | 1, _ => rfl⟩
  have HI0 := Lib.hid hI0
  clear hI0 h1
  by_cases he : elemR t [a, b] = 0
  · have hg : IsGrp t ∧ InR t.length [a, b] := by
      unfold elemR at he
      split at he
      · split at he
        · exact ⟨‹_›, ‹_›⟩
        · omega
      · omega
    obtain ⟨hgr, hin⟩ := hg
    have ha := hin 0 (by simp)
    have hb := hin 1 (by simp)
    have ha' : 0 ≤ a ∧ a < t.length := ha
    have hb' : 0 ≤ b ∧ b < t.length := hb
    clear ha hb hin
    have HP := Lib.hid (productR_grp hgr ha' hb')
    have hcon := l01Elements_any A (some ⟨w.heap.size + 1, 0, none⟩) t [a, b] c 2 B (w.heap.size + 2) _ HR.out HI0.out (by omega) (by omega) hn HL.out (by simp)
    rw [he] at hcon
    have HCON := Lib.hid hcon
    clear hcon he
    obtain ⟨ka, rfl⟩ := Int.eq_ofNat_of_zero_le ha'.1
    obtain ⟨kb, rfl⟩ := Int.eq_ofNat_of_zero_le hb'.1
    have hka : ka < t.length := by omega
    have hkb : kb < t.length := by omega
    clear ha' hb'
    have hS := HR.out.sq (by omega) hgr.sq
    obtain ⟨bt, ot, bb, oo, C, rfl, hQ⟩ := hS
    have HQ := Lib.hid hQ
    clear hQ hgr
    go_enter Try.func20, Try.ntmps20
    go_wp2_with fail
    refine HCON.out.mono ?_
    rintro e W1 ⟨rfl, hb1⟩
    have hQ1 := HQ.out.below hb1 (by rw [hz0]; omega)
    have hbox := (h0.below hb1 (by rw [hz0]; omega)).cell 0
    have hrow := hQ1.row_ hka
    have hent := hQ1.ent_ hka hkb
    have hbw := hb0.trans (hb1.mono (by rw [hz0]; omega))
    clear hQ1 h0 hb0 hz0 hb1
    go_wp2
    go_ret2
    exact ⟨by rw [HP.out]; rfl, hbw⟩
  · have HP : Hid (productR t a b = (0, elemR t [a, b])) := by
      show productR t a b = _
      rw [productR, if_neg he]
    have hcon := l01Elements_any A (some ⟨w.heap.size + 1, 0, none⟩) t [a, b] c 2 B (w.heap.size + 2) _ HR.out HI0.out (by omega) (by omega) hn HL.out (by simp)
    have hne : (elemR t [a, b] != 0) = true := by simp [he]
    have HCON := Lib.hid hcon
    clear hcon he
    generalize elemR t [a, b] = er at *
    go_enter Try.func20, Try.ntmps20
    go_wp2_with fail
    refine HCON.out.mono ?_
    rintro e W1 ⟨rfl, hb1⟩
    have hbw := hb0.trans (hb1.mono (by rw [hz0]; omega))
    go_wp2
    go_ret2
    exact ⟨by rw [HP.out]; rfl, hbw⟩

set_option maxHeartbeats 400000 in
theorem isElement_any (A : Option Addr) (n c : Nat) (a : Int) (w : World) (hn : n ≤ 1048576) :
    Calls Try.prog 59 #[.agg #[.slice A n c], .int .i64 a] w fun e w' => e = .returned (.bool (decide (0 ≤ a ∧ a < n))) ∧ Below w.heap.size w w' := by
  have hb0 : Below w.heap.size w (w.alloc (.cells #[.slice A n c] 27)) := (Below.refl _ _).alloc (Nat.le_refl _) _
  have hb1 : Below w.heap.size w ((w.alloc (.cells #[.slice A n c] 27)).alloc (.cells #[.slice A n c] 27)) := hb0.alloc (by simp) _
  by_cases ha : 0 ≤ a
  · by_cases h : a < n
    · go_enter Try.func59, Try.ntmps59
      go_wp2_with (go_at_call 65; refine (groupOrder_any A n c _ hn).mono ?_; rintro e w' ⟨rfl, rfl⟩)
      go_ret
      exact ⟨by simp [ha, h], hb1⟩
    · go_enter Try.func59, Try.ntmps59
      go_wp2_with (go_at_call 65; refine (groupOrder_any A n c _ hn).mono ?_; rintro e w' ⟨rfl, rfl⟩)
      go_ret
      exact ⟨by simp; omega, hb1⟩
  · go_enter Try.func59, Try.ntmps59
    go_wp2
    go_ret
    exact ⟨by simp; omega, hb0⟩

set_option maxHeartbeats 1000000 in
theorem implProductOf_any (A : Option Addr) (t : List (List Int)) (c B : Nat) (a b : Int) (w : World) (hR : Rws w B A t) (hB : B ≤ w.heap.size) (hn : t.length ≤ 1048576) (hl : ∀ i, i < t.length → (row t i).length ≤ 1048576) :
    Calls Try.prog 21 #[.agg #[.slice A t.length c], .int .i64 a, .int .i64 b] w fun e w' => e = .returned (.tuple #[.int .i64 (productR t a b).1, .int .i64 (productR t a b).2]) ∧ Below w.heap.size w w' := by
  have hb0 : Below w.heap.size w (w.alloc (.cells #[.slice A t.length c] 27)) := (Below.refl _ _).alloc (Nat.le_refl _) _
  have h0 := Has.new w 27 #[.slice A t.length c]
  have hz0 : (w.alloc (.cells #[.slice A t.length c] 27)).heap.size = w.heap.size + 1 := by simp
  have hcon := implIsGroup_any A t c B _ (hR.below hb0 hB) (by rw [hz0]; omega) hn hl
  cases hg : grpB t with
  | false =>
    have HP := Lib.hid (productR_none (a := a) (b := b) (fun h => by have := grpB_true h; rw [hg] at this; cases this))
    rw [hg] at hcon
    have HCON := Lib.hid hcon
    clear hR hl hcon hg
    go_enter Try.func21, Try.ntmps21
    go_wp2_with fail
    refine HCON.out.mono ?_
    rintro e W1 ⟨rfl, hb1⟩
    have hbw := hb0.trans (hb1.mono (by rw [hz0]; omega))
    go_wp2
    go_ret2
    exact ⟨by rw [HP.out]; rfl, hbw⟩
  | true =>
    have hgr := grpB_iff.1 hg
    have hn8 := hgr.n8
    have hR0 := hR.below hb0 hB
    obtain ⟨bt, ot, bb, oo, C, rfl, hQ⟩ := hR0.sq hgr.n1 hgr.sq
    rw [hg] at hcon
    have HCON := Lib.hid hcon
    have HQ := Lib.hid hQ
    have HG := Lib.hid hgr
    clear hR hl hcon hg hQ hgr hR0
    have hf : ∀ W1 : World, Below (w.heap.size + 1) (w.alloc (.cells #[.slice (some ⟨bt, ot, none⟩) t.length c] 27)) W1 → W1.cell? ⟨w.heap.size, 0, none⟩ = some (.slice (some ⟨bt, ot, none⟩) t.length c) := fun W1 hb => (h0.below hb (by omega)).cell 0
    have HF := Lib.hid hf
    clear hf
    by_cases ha : 0 ≤ a ∧ a < t.length
    · by_cases hb : 0 ≤ b ∧ b < t.length
      · have HP := Lib.hid (productR_grp HG.out ha hb)
        have hda : decide (0 ≤ a ∧ a < (t.length : Int)) = true := by simp [ha]
        have hdb : decide (0 ≤ b ∧ b < (t.length : Int)) = true := by simp [hb]
        have HDA := Lib.hid hda
        have HDB := Lib.hid hdb
        obtain ⟨ka, rfl⟩ := Int.eq_ofNat_of_zero_le ha.1
        obtain ⟨kb, rfl⟩ := Int.eq_ofNat_of_zero_le hb.1
        have hka : ka < t.length := by omega
        have hkb : kb < t.length := by omega
        clear ha hb hda hdb
        go_enter Try.func21, Try.ntmps21
        go_wp2_with fail
        refine HCON.out.mono ?_
        rintro e W1 ⟨rfl, hb1⟩
        rw [hz0] at hb1
        have c1 := HF.out W1 hb1
        go_wp2_with fail
        refine (isElement_any _ _ _ _ _ hn).mono ?_
        rintro e W2 ⟨rfl, hb2⟩
        rw [HDA.out]
        have hb12 := hb1.trans (hb2.mono (by have := hb1.size; omega))
        have c2 := HF.out W2 hb12
        clear c1
        go_wp2_with fail
        refine (isElement_any _ _ _ _ _ hn).mono ?_
        rintro e W3 ⟨rfl, hb3⟩
        rw [HDB.out]
        have hb13 := hb12.trans (hb3.mono (by have := hb12.size; omega))
        have c3 := HF.out W3 hb13
        have hQ3 := HQ.out.below hb13 (by omega)
        have hrow := hQ3.row_ hka
        have hent := hQ3.ent_ hka hkb
        have hbw := hb0.trans (hb13.mono (by omega))
        clear c2 hQ3 h0 hb0 hz0 hb1 hb2 hb3 hb12 hb13
        go_wp2
        go_ret2
        exact ⟨by rw [HP.out]; rfl, hbw⟩
      · have HP := Lib.hid (productR_out HG.out (a := a) (b := b) (fun h => hb h.2))
        have hda : decide (0 ≤ a ∧ a < (t.length : Int)) = true := by simp [ha]
        have hdb : decide (0 ≤ b ∧ b < (t.length : Int)) = false := by simpa using hb
        have HDA := Lib.hid hda
        have HDB := Lib.hid hdb
        clear ha hb hda hdb
        go_enter Try.func21, Try.ntmps21
        go_wp2_with fail
        refine HCON.out.mono ?_
        rintro e W1 ⟨rfl, hb1⟩
        rw [hz0] at hb1
        have c1 := HF.out W1 hb1
        go_wp2_with fail
        refine (isElement_any _ _ _ _ _ hn).mono ?_
        rintro e W2 ⟨rfl, hb2⟩
        rw [HDA.out]
        have hb12 := hb1.trans (hb2.mono (by have := hb1.size; omega))
        have c2 := HF.out W2 hb12
        clear c1
        go_wp2_with fail
        refine (isElement_any _ _ _ _ _ hn).mono ?_
        rintro e W3 ⟨rfl, hb3⟩
        rw [HDB.out]
        have hb13 := hb12.trans (hb3.mono (by have := hb12.size; omega))
        have hbw := hb0.trans (hb13.mono (by omega))
        go_wp2
        go_ret2
        exact ⟨by rw [HP.out]; rfl, hbw⟩
    · have HP := Lib.hid (productR_out HG.out (a := a) (b := b) (fun h => ha h.1))
      have hda : decide (0 ≤ a ∧ a < (t.length : Int)) = false := by simpa using ha
      have HDA := Lib.hid hda
      clear ha hda
      go_enter Try.func21, Try.ntmps21
      go_wp2_with fail
      refine HCON.out.mono ?_
      rintro e W1 ⟨rfl, hb1⟩
      rw [hz0] at hb1
      have c1 := HF.out W1 hb1
      go_wp2_with fail
      refine (isElement_any _ _ _ _ _ hn).mono ?_
      rintro e W2 ⟨rfl, hb2⟩
      rw [HDA.out]
      have hb12 := hb1.trans (hb2.mono (by have := hb1.size; omega))
      have hbw := hb0.trans (hb12.mono (by omega))
      go_wp2
      go_ret2
      exact ⟨by rw [HP.out]; rfl, hbw⟩

end Go.Proofs.Ytnjcjdfleilgfaa
