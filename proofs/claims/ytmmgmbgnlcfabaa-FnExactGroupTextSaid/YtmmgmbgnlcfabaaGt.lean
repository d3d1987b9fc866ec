/- GroupText: both contracts. -/
import Derived.Deep.RegionHeld3
import Derived.Test.YtmmgmbgnlcfabaaDe
import Derived.Test.YtmmgmbgnlcfabaaIv
import Derived.Test.YtmmgmbgnlcfabaaImC
namespace Go.Proofs.Ytmmgmbgnlcfabaa
open Go.RowKit Go.Shelf

attribute [local go_sem] Oper.semAt_some

def bts (l : List UInt8) : ByteArray := ⟨l.toArray⟩
/-- The digits of the first numbers of a row; the text of the first rows. -/
def rowL (xs : List Int) : Nat → List UInt8
  | 0 => []
  | j + 1 => rowL xs j ++ decL (nth xs j).toNat
def textL (t : List (List Int)) : Nat → List UInt8
  | 0 => []
  | k + 1 => textL t k ++ (if 0 < k then [44] else []) ++ rowL (row t k) t.length
theorem rowL_len (xs : List Int) (j : Nat) : (rowL xs j).length ≤ 2 * j := by
  induction j with
  | zero => simp [rowL]
  | succ j ih =>
    have := (decL_len (nth xs j).toNat).2
    simp only [rowL, List.length_append]
    omega
theorem textL_len {t : List (List Int)} (hn : t.length ≤ 8) (k : Nat) : (textL t k).length ≤ 17 * k := by
  induction k with
  | zero => simp [textL]
  | succ k ih =>
    have := rowL_len (row t k) t.length
    simp only [textL, List.length_append]
    split <;> simp <;> omega

set_option maxRecDepth 100000 in
set_option maxHeartbeats 2000000 in
theorem l01Text_any (A : Option Addr) (t : List (List Int)) (c : Nat) (w : World) (hR : RwsW w A t) (hg : IsGrp t) :
    Calls Try.prog 43 #[.agg #[.slice A t.length c]] w fun e w' => e = .returned (.string (bts (textL t t.length))) ∧ Ex w w' := by
  obtain ⟨b, o, bb, oo, C, rfl, hQ⟩ := hR.sq hg
  have e0 : Ex w (w.alloc (.cells #[.slice (some ⟨b, o, none⟩) t.length c] 28)) := (Ex.refl w).alloc _
  have b0 : Has (w.alloc (.cells #[.slice (some ⟨b, o, none⟩) t.length c] 28)) (w.heap.size) 28 #[.slice (some ⟨b, o, none⟩) t.length c] := (Has.newAt (w := w) (e := 28) (cs := #[.slice (some ⟨b, o, none⟩) t.length c]) (k := w.heap.size) (by simp))
  have hn8 := hg.n8
  have HG := Lib.hid hg
  have HQ := Lib.hid (hQ.exB e0 (Nat.le_refl _))
  have HE0 := Lib.hid e0
  have HB0 := Lib.hid b0
  clear hQ hg hR
  go_enter Try.func43, Try.ntmps43
  go_wp2_with fail
  generalize (w.alloc (.cells #[.slice (some ⟨b, o, none⟩) t.length c] 28)) = W0 at *
  clear e0 b0
  go_loopw [3, 4] (fun s i wr => ∃ k : Nat, k ≤ t.length ∧ i = .int .i64 (k : Int) ∧ s = .string (bts (textL t k)) ∧ Hid (Ex W0 wr)) (fun _ i _ => t.length - (intOf i).toNat)
  case atStart => exact ⟨0, Nat.zero_le _, rfl, rfl, Lib.hid (Ex.refl _)⟩
  case round =>
    obtain ⟨k, hk, rfl, rfl, HE⟩ := hrel
    have c1 := (HB0.out.ex HE.out).cell 0
    by_cases hlt : k < t.length
    · have htl := textL_len hn8 k
      by_cases h0 : 0 < k
      · have HB : Hid ((textL t k ++ [44]) ++ rowL (row t k) t.length = textL t (k + 1)) := Lib.hid (by simp [textL, h0])
        have HJ : Hid (bts (textL t k) ++ ⟨#[44]⟩ = bts ((textL t k ++ [44]) ++ rowL (row t k) 0)) := Lib.hid (by rw [rowL, List.append_nil]; exact ba_append _ [44])
        have hl0 : (textL t k ++ [44]).length ≤ 137 := by rw [List.length_append]; simp; omega
        have hs0 : (bts (textL t k)).size ≤ 136 := by show (textL t k).length ≤ 136; omega
        obtain ⟨l0, hl0e⟩ : ∃ l0, textL t k ++ [44] = l0 := ⟨_, rfl⟩
        obtain ⟨s, hs⟩ : ∃ s, bts (textL t k) = s := ⟨_, rfl⟩
        rw [hl0e, hs] at HJ
        rw [hl0e] at HB hl0
        rw [hs] at hs0 ⊢
        have hs2 : (s ++ ⟨#[44]⟩ : ByteArray).size ≤ 300 := by rw [ByteArray.size_append]; show _ + 1 ≤ _; omega
        clear hs hl0e htl
        go_wp2_with fail
        go_loopw [3, 5] (fun s i wr => ∃ j : Nat, j ≤ t.length ∧ i = .int .i64 (j : Int) ∧ s = .string (bts (l0 ++ rowL (row t k) j)) ∧ Hid (Ex W0 wr)) (fun _ i _ => t.length - (intOf i).toNat)
        case atStart => exact ⟨0, Nat.zero_le _, rfl, by rw [← HJ.out], HE⟩
        case round =>
          obtain ⟨j, hj, rfl, rfl, HE2⟩ := hrel
          have c1 := (HB0.out.ex HE2.out).cell 0
          have hq := HQ.out.below (Ex.below HE2.out) HE0.out.size
          have hrk := hq.row_ hlt
          by_cases hlt2 : j < t.length
          · have hek := hq.ent_ hlt hlt2
            have hrg := HG.out.rng k hlt j hlt2
            obtain ⟨u, hu⟩ : ∃ u : Nat, nth (row t k) j = (u : Int) := ⟨(nth (row t k) j).toNat, by have h := hrg.1; unfold ent at h; omega⟩
            have hu12 : u ≤ 12 := by have h := hrg.2; unfold ent at h; omega
            have HN : Hid (l0 ++ rowL (row t k) (j + 1) = (l0 ++ rowL (row t k) j) ++ decL u) := Lib.hid (by rw [rowL, hu, List.append_assoc]; rfl)
            have hsz := rowL_len (row t k) j
            have hszl : (l0 ++ rowL (row t k) j).length ≤ 400 := by rw [List.length_append]; omega
            have hd := decB_size u
            have hd2 := (decL_len u).2
            rw [hu] at hek
            have HNB : Hid (bts (l0 ++ rowL (row t k) j) ++ decB u = bts (l0 ++ rowL (row t k) (j + 1))) := Lib.hid (by rw [HN.out]; exact ba_append _ _)
            have hs0 : (bts (l0 ++ rowL (row t k) j)).size ≤ 400 := hszl
            have hds : (decB u).size ≤ 2 := by omega
            obtain ⟨sx, hsx⟩ : ∃ sx, bts (l0 ++ rowL (row t k) j) = sx := ⟨_, rfl⟩
            rw [hsx] at HNB hs0 ⊢
            clear hsx hq hu hrg hd hd2 hsz hszl
            go_wp2_with (go_at_call 58; refine (dec_any u _ hu12).mono ?_; rintro e w5 ⟨rfl, hg5⟩; have HE5 := Lib.hid (HE2.out.trans hg5); clear hg5)
            go_roundw
            case rel => exact ⟨j + 1, by omega, by go_num, by rw [← HNB.out], HE5⟩
            case measure => simp [intOf]; omega
          · obtain rfl : j = t.length := by omega
            clear hq
            go_wp2_with fail
            go_roundw
            case rel => exact ⟨k + 1, by omega, by go_num, by rw [HB.out], HE2⟩
            case measure => simp [intOf]; omega
      · have HB : Hid (textL t k ++ rowL (row t k) t.length = textL t (k + 1)) := Lib.hid (by simp [textL, h0])
        have h0' : decide ((0 : Int) < (k : Int)) = false := decide_eq_false (by omega)
        have HJ : Hid (bts (textL t k) = bts (textL t k ++ rowL (row t k) 0)) := Lib.hid (by rw [rowL, List.append_nil])
        have hl0 : (textL t k).length ≤ 137 := by omega
        obtain ⟨l0, hl0e⟩ : ∃ l0, textL t k = l0 := ⟨_, rfl⟩
        rw [hl0e] at HB HJ hl0 ⊢
        obtain ⟨s, hs⟩ : ∃ s, bts l0 = s := ⟨_, rfl⟩
        rw [hs] at HJ ⊢
        clear hs hl0e htl
        go_wp2_with fail
        go_loopw [3, 5] (fun s i wr => ∃ j : Nat, j ≤ t.length ∧ i = .int .i64 (j : Int) ∧ s = .string (bts (l0 ++ rowL (row t k) j)) ∧ Hid (Ex W0 wr)) (fun _ i _ => t.length - (intOf i).toNat)
        case atStart => exact ⟨0, Nat.zero_le _, rfl, by rw [HJ.out], HE⟩
        case round =>
          obtain ⟨j, hj, rfl, rfl, HE2⟩ := hrel
          have c1 := (HB0.out.ex HE2.out).cell 0
          have hq := HQ.out.below (Ex.below HE2.out) HE0.out.size
          have hrk := hq.row_ hlt
          by_cases hlt2 : j < t.length
          · have hek := hq.ent_ hlt hlt2
            have hrg := HG.out.rng k hlt j hlt2
            obtain ⟨u, hu⟩ : ∃ u : Nat, nth (row t k) j = (u : Int) := ⟨(nth (row t k) j).toNat, by have h := hrg.1; unfold ent at h; omega⟩
            have hu12 : u ≤ 12 := by have h := hrg.2; unfold ent at h; omega
            have HN : Hid (l0 ++ rowL (row t k) (j + 1) = (l0 ++ rowL (row t k) j) ++ decL u) := Lib.hid (by rw [rowL, hu, List.append_assoc]; rfl)
            have hsz := rowL_len (row t k) j
            have hszl : (l0 ++ rowL (row t k) j).length ≤ 400 := by rw [List.length_append]; omega
            have hd := decB_size u
            have hd2 := (decL_len u).2
            rw [hu] at hek
            have HNB : Hid (bts (l0 ++ rowL (row t k) j) ++ decB u = bts (l0 ++ rowL (row t k) (j + 1))) := Lib.hid (by rw [HN.out]; exact ba_append _ _)
            have hs0 : (bts (l0 ++ rowL (row t k) j)).size ≤ 400 := hszl
            have hds : (decB u).size ≤ 2 := by omega
            obtain ⟨sx, hsx⟩ : ∃ sx, bts (l0 ++ rowL (row t k) j) = sx := ⟨_, rfl⟩
            rw [hsx] at HNB hs0 ⊢
            clear hsx hq hu hrg hd hd2 hsz hszl
            go_wp2_with (go_at_call 58; refine (dec_any u _ hu12).mono ?_; rintro e w5 ⟨rfl, hg5⟩; have HE5 := Lib.hid (HE2.out.trans hg5); clear hg5)
            go_roundw
            case rel => exact ⟨j + 1, by omega, by go_num, by rw [← HNB.out], HE5⟩
            case measure => simp [intOf]; omega
          · obtain rfl : j = t.length := by omega
            clear hq
            go_wp2_with fail
            go_roundw
            case rel => exact ⟨k + 1, by omega, by go_num, by rw [HB.out], HE2⟩
            case measure => simp [intOf]; omega
    · obtain rfl : k = t.length := by omega
      go_wp2_with fail
      go_ret
      exact ⟨rfl, HE0.out.trans HE.out⟩

end Go.Proofs.Ytmmgmbgnlcfabaa
