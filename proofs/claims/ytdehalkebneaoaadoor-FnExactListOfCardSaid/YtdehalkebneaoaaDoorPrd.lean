/- ProductOf, of the program and of the specification. -/
import Derived.Deep.RegionHeld3
import Derived.Laws.Rows
import Derived.IntWalk
import Derived.Test.YtdehalkebneaoaaDoorIsG
namespace Go.Proofs.YtdehalkebneaoaaDoor
open Go.RowKit

theorem IsGrp.tab {t : List (List Int)} (h : IsGrp t) : IsTab t := (isGrp_iff.1 h).1

set_option maxHeartbeats 400000 in
theorem l01N_any (A : Option Addr) (n c : Nat) (w : World) (_ : n ≤ 1048576) :
    Calls Tryd.prog 116 #[.agg #[.slice A n c]] w fun e w' => e = .returned (.int .i64 n) ∧ w' = w.alloc (.cells #[.slice A n c] 29) := by
  go_enter Tryd.func116, Tryd.ntmps116
  go_wp2
  go_ret
  exact ⟨rfl, rfl⟩

/-- Are all numbers of a list elements of a group of n elements? -/
def InR (n : Nat) (xs : List Int) : Prop := ∀ i, i < xs.length → 0 ≤ nth xs i ∧ nth xs i < n

open Classical in
/-- The code of a group and elements. -/
noncomputable def elemR (t : List (List Int)) (xs : List Int) : Int := if IsGrp t then (if InR t.length xs then 0 else 2) else 1

set_option maxHeartbeats 1000000 in
theorem l01Elements_any (A L : Option Addr) (t : List (List Int)) (xs : List Int) (c c' B B' : Nat) (w : World) (hR : Rws w B A t) (hX : Ints w B' L xs) (hB : B ≤ w.heap.size) (hB' : B' ≤ w.heap.size)
    (hn : t.length ≤ 1048576) (hl : ∀ i, i < t.length → (row t i).length ≤ 1048576) (hx : xs.length ≤ 1048576) :
    Calls Tryd.prog 72 #[.agg #[.slice A t.length c], .slice L xs.length c'] w fun e w' => e = .returned (.int .i64 (elemR t xs)) ∧ Below w.heap.size w w' := by
  have hb0 : Below w.heap.size w (w.alloc (.cells #[.slice A t.length c] 29)) := (Below.refl _ _).alloc (Nat.le_refl _) _
  have h0 := Has.new w 29 #[.slice A t.length c]
  have hz0 : (w.alloc (.cells #[.slice A t.length c] 29)).heap.size = w.heap.size + 1 := by simp
  have hcon := l01Is_any A t c B _ (hR.below hb0 hB) (by rw [hz0]; omega) hn hl
  have hX0 := hX.below hb0 hB'
  cases hg : grpB t with
  | false =>
    have HG := Lib.hid hg
    rw [hg] at hcon
    have HCON := Lib.hid hcon
    clear hR hl hcon hX hX0 hg
    go_enter Tryd.func72, Tryd.ntmps72
    go_wp2_with fail
    refine HCON.out.mono ?_
    rintro e W1 ⟨rfl, hb1⟩
    go_wp2
    go_ret
    exact ⟨by rw [elemR, if_neg (fun h => by have := grpB_true h; rw [HG.out] at this; cases this)]; rfl, hb0.trans (hb1.mono (by omega))⟩
  | true =>
    have HG := Lib.hid (grpB_iff.1 hg)
    rw [hg] at hcon
    have HCON := Lib.hid hcon
    have HX0 := Lib.hid hX0
    clear hR hl hcon hX hX0 hg
    go_enter Tryd.func72, Tryd.ntmps72
    go_wp2_with fail
    generalize (w.alloc (.cells #[.slice A t.length c] 29)) = W0 at *
    refine HCON.out.mono ?_
    rintro e W1 ⟨rfl, hb1⟩
    clear HCON
    have hz1 := hb1.size
    have hX1 := HX0.out.below hb1 (by omega)
    have HX1 := Lib.hid hX1
    have h1 := h0.below hb1 h0.lt
    have hb01 := hb0.trans (hb1.mono (by omega))
    clear hX1 h0 hb0 hb1 HX0
    go_wp2
    go_loopw [5] (fun i wr => ∃ k : Nat, k ≤ xs.length ∧ i = .int .i64 k ∧ Below W1.heap.size W1 wr ∧ ∀ i, i < k → 0 ≤ nth xs i ∧ nth xs i < t.length) (fun i _ => xs.length - (intOf i).toNat)
    case atStart => exact ⟨0, by omega, rfl, Below.refl _ _, fun i hi => absurd hi (by omega)⟩
    case round =>
      obtain ⟨k, hk, rfl, hb, hs⟩ := hrel
      have HS := Lib.hid hs
      clear hs
      by_cases hlt : k < xs.length
      · obtain ⟨b, o, rfl, hbb, hcell⟩ := (HX1.out.below hb (by omega)).at_ hlt
        have hbox := (h1.below hb h1.lt).cell 0
        have hH : Has wr.drew w.heap.size 29 #[.slice A t.length c] := h1.below hb.drew h1.lt
        have hbt : b < wr.heap.size := by have := hb.size; omega
        have hkk : (0 : Int) ≤ k := by omega
        by_cases hrg : 0 ≤ nth xs k ∧ nth xs k ≤ t.length - 1
        · have HRG := Lib.hid hrg
          have hw1 : IntKind.i64.wrap ((t.length : Int) - 1) = (t.length : Int) - 1 := IntWalk.i64_in _ (by omega)
          clear hrg
          go_wp2_with fail
          go_region_held3 (fun w' => w'.cell? ⟨b, o + k, none⟩ = some (.int .i64 (nth xs k)) ∧ w'.cell? ⟨w.heap.size, 0, none⟩ = some (.slice A t.length c)) (go_keep)
            (first
              | (go_at_call 116; refine (l01N_any A t.length c _ hn).mono ?_; rintro e W2 ⟨rfl, rfl⟩)
              | (go_at_call 59; refine (l01In_yes _ _ _ _ HRG.out.1 HRG.out.2).mono ?_; rintro e W3 ⟨rfl, rfl⟩))
          go_wp2
          go_roundw
          case rel => exact ⟨k + 1, by omega, by go_num, hb.drew.alloc (by simp; exact hb.size) _, fun i hi => by
            rcases Nat.lt_or_ge i k with h | h
            · exact HS.out i h
            · obtain rfl : i = k := by omega
              have := HRG.out
              omega⟩
          case measure => simp [intOf]; omega
        · have HRG := Lib.hid hrg
          have hw1 : IntKind.i64.wrap ((t.length : Int) - 1) = (t.length : Int) - 1 := IntWalk.i64_in _ (by omega)
          clear hrg
          go_wp2_with fail
          go_region_held3 (fun w' => w'.cell? ⟨b, o + k, none⟩ = some (.int .i64 (nth xs k)) ∧ w'.cell? ⟨w.heap.size, 0, none⟩ = some (.slice A t.length c)) (go_keep)
            (first
              | (go_at_call 116; refine (l01N_any A t.length c _ hn).mono ?_; rintro e W2 ⟨rfl, rfl⟩)
              | (go_at_call 59; refine (l01In_no _ _ _ _ (by have := HRG.out; omega)).mono ?_; rintro e W3 ⟨rfl, rfl⟩))
          go_wp2
          go_ret
          exact ⟨by rw [elemR, if_pos HG.out, if_neg (fun h => HRG.out (by have := h k hlt; omega))]; rfl, hb01.trans ((hb.drew.alloc (by simp; exact hb.size) _).mono (by omega))⟩
      · have hkk : k = xs.length := by omega
        subst hkk
        go_wp2
        go_ret
        exact ⟨by rw [elemR, if_pos HG.out, if_pos (show InR t.length xs from HS.out)]; rfl, hb01.trans (hb.mono (by omega))⟩

/-- The product of two elements, and the code. -/
noncomputable def productR (t : List (List Int)) (a b : Int) : Int × Int :=
  if elemR t [a, b] = 0 then (nth (row t a.toNat) b.toNat, 0) else (0, elemR t [a, b])

theorem productR_grp {t : List (List Int)} {a b : Int} (h : IsGrp t) (ha : 0 ≤ a ∧ a < t.length) (hb : 0 ≤ b ∧ b < t.length) : productR t a b = (nth (row t a.toNat) b.toNat, 0) := by
  have hi : InR t.length [a, b] := fun i hi => by
    match i, hi with
    | 0, _ => exact ha
    | 1, _ => exact hb
  rw [productR, elemR, if_pos h, if_pos hi, if_pos rfl]
theorem productR_out {t : List (List Int)} {a b : Int} (h : IsGrp t) (hn : ¬ ((0 ≤ a ∧ a < t.length) ∧ (0 ≤ b ∧ b < t.length))) : productR t a b = (0, 2) := by
  have hi : ¬ InR t.length [a, b] := fun hi => hn ⟨hi 0 (by simp), hi 1 (by simp)⟩
  rw [productR, elemR, if_pos h, if_neg hi, if_neg (by omega)]
theorem productR_none {t : List (List Int)} {a b : Int} (h : ¬ IsGrp t) : productR t a b = (0, 1) := by
  rw [productR, elemR, if_neg h, if_neg (by omega)]

set_option maxHeartbeats 400000 in
theorem isElement_any (A : Option Addr) (n c : Nat) (a : Int) (w : World) (hn : n ≤ 1048576) :
    Calls Tryd.prog 94 #[.agg #[.slice A n c], .int .i64 a] w fun e w' => e = .returned (.bool (decide (0 ≤ a ∧ a < n))) ∧ Below w.heap.size w w' := by
  have hb0 : Below w.heap.size w (w.alloc (.cells #[.slice A n c] 29)) := (Below.refl _ _).alloc (Nat.le_refl _) _
  have hb1 : Below w.heap.size w ((w.alloc (.cells #[.slice A n c] 29)).alloc (.cells #[.slice A n c] 29)) := hb0.alloc (by simp) _
  by_cases ha : 0 ≤ a
  · by_cases h : a < n
    · go_enter Tryd.func94, Tryd.ntmps94
      go_wp2_with (go_at_call 109; refine (groupOrder_any A n c _ hn).mono ?_; rintro e w' ⟨rfl, rfl⟩)
      go_ret
      exact ⟨by simp [ha, h], hb1⟩
    · go_enter Tryd.func94, Tryd.ntmps94
      go_wp2_with (go_at_call 109; refine (groupOrder_any A n c _ hn).mono ?_; rintro e w' ⟨rfl, rfl⟩)
      go_ret
      exact ⟨by simp; omega, hb1⟩
  · go_enter Tryd.func94, Tryd.ntmps94
    go_wp2
    go_ret
    exact ⟨by simp; omega, hb0⟩


end Go.Proofs.YtdehalkebneaoaaDoor
