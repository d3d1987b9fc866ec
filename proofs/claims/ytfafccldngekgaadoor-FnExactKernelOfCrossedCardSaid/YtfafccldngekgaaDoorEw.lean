/- The elements with a number. -/
import Derived.Test.YtfafccldngekgaaDoorCel
import Derived.Test.YtfafccldngekgaaDoorMnm
import Derived.Test.YtfafccldngekgaaDoorSm
namespace Go.Proofs.YtfafccldngekgaaDoor
open Go.RowKit

/-- The places of a number in a list, below k; the set of them. -/
def wthN (c : Int) (us : List Int) (k : Nat) : List Nat := (List.range k).filter fun i => nth us i == c
def wthI (c : Int) (us : List Int) (k : Nat) : List Int := (wthN c us k).map fun a : Nat => (a : Int)
def wset (c : Int) (us : List Int) : Nat → Nat
  | 0 => 0
  | k + 1 => if nth us k == c then wset c us k ||| 2 ^ k else wset c us k
section
variable {c : Int} {us : List Int} {k n : Nat}
theorem wthI_yes (h : (nth us k == c) = true) : wthI c us (k + 1) = wthI c us k ++ [(k : Int)] := by simp [wthI, wthN, List.range_succ, h]
theorem wthI_no (h : (nth us k == c) = false) : wthI c us (k + 1) = wthI c us k := by simp [wthI, wthN, List.range_succ, h]
theorem wset_yes (h : (nth us k == c) = true) : wset c us (k + 1) = wset c us k ||| 2 ^ k := by rw [wset, if_pos h]
theorem wset_no (h : (nth us k == c) = false) : wset c us (k + 1) = wset c us k := by rw [wset, h]; rfl
theorem wthI_len (c : Int) (us : List Int) (k : Nat) : (wthI c us k).length ≤ k := by
  simp only [wthI, wthN, List.length_map]
  exact Nat.le_trans (List.length_filter_le _ _) (by simp)
theorem elI_with {s : Nat} (hn : n ≤ 8) (h : ∀ a, a < 8 → s.testBit a = (decide (a < n) && (nth us a == c))) : elI s = wthI c us n := by
  unfold elI wthI
  congr 1
  unfold elN wthN
  have h8 : List.range 8 = List.range n ++ (List.range (8 - n)).map (n + ·) := by rw [← List.range_add]; congr 1; omega
  have h1 : (List.range n).filter (fun a => s.testBit a) = (List.range n).filter fun i => nth us i == c := List.filter_congr fun a ha => by
    have := List.mem_range.1 ha
    rw [h a (by omega)]
    simp [this]
  have h2 : ((List.range (8 - n)).map (n + ·)).filter (fun a => s.testBit a) = [] := List.filter_eq_nil_iff.2 fun a ha => by
    obtain ⟨b, hb, rfl⟩ := List.mem_map.1 ha
    have := List.mem_range.1 hb
    rw [h _ (by omega), decide_eq_false (by omega)]
    simp
  rw [h8, List.filter_append, h1, h2, List.append_nil]
theorem wset_bit (c : Int) (us : List Int) : ∀ k, k ≤ 8 → wset c us k < 256 ∧ ∀ a, (wset c us k).testBit a = (decide (a < k) && (nth us a == c))
  | 0, _ => ⟨by simp [wset], fun a => by simp [wset]⟩
  | k + 1, hk => by
    obtain ⟨h1, h2⟩ := wset_bit c us k (by omega)
    cases hq : (nth us k == c) with
    | true =>
      rw [wset_yes hq]
      refine ⟨with_lt _ h1 k (by omega), fun a => ?_⟩
      rw [with_bit, h2 a]
      by_cases he : k = a
      · subst he
        simp [hq]
      · by_cases hl : a < k
        · simp [he, hl, show a < k + 1 by omega]
        · simp [he, hl, show ¬ a < k + 1 by omega]
    | false =>
      rw [wset_no hq]
      refine ⟨h1, fun a => ?_⟩
      rw [h2 a]
      by_cases he : k = a
      · subst he
        simp [hq]
      · by_cases hl : a < k
        · simp [hl, show a < k + 1 by omega]
        · simp [hl, show ¬ a < k + 1 by omega]
theorem wset_all (hn : n ≤ 8) : elI (wset c us n) = wthI c us n := elI_with hn fun a _ => (wset_bit c us n hn).2 a
end

set_option maxRecDepth 100000 in
set_option maxHeartbeats 2000000 in
theorem elementsWith_any (B : Option Addr) (us : List Int) (c : Int) (d : Nat) (w : World) (hX : IntsW w B us) (hl : us.length ≤ 8) (hT : TabL w) :
    Calls Tryd.prog 27 #[.slice B us.length d, .int .i64 c] w fun e w' => ∃ A' c', e = .returned (.slice A' (wthI c us us.length).length c') ∧ Ex w w' ∧ OwnL w' w.heap.size w'.heap.size A' (wthI c us us.length) := by
  have HX := Lib.hid hX
  have HT := Lib.hid hT
  clear hX hT
  go_enter Tryd.func27, Tryd.ntmps27
  go_wp2_with fail
  go_loopw [5, 10] (fun s i wr => ∃ k : Nat, k ≤ us.length ∧ i = .int .i64 (k : Int) ∧ s = .int .u64 (wset c us k : Int) ∧ Hid (Ex w wr)) (fun _ i _ => us.length - (intOf i).toNat)
  case atStart => exact ⟨0, Nat.zero_le _, rfl, rfl, Lib.hid (Ex.refl _)⟩
  case round =>
    obtain ⟨k, hk, rfl, rfl, HE⟩ := hrel
    have hs8 := (wset_bit c us k (by omega)).1
    by_cases hlt : k < us.length
    · obtain ⟨bx, ox, rfl, hbx, hcx⟩ := (HX.out.ex HE.out).ints.at_ hlt
      cases hq : (nth us k == c) with
      | true =>
        have HWS := Lib.hid (wset_yes hq)
        generalize nth us k = z at *
        obtain ⟨s, hs⟩ : ∃ s, wset c us k = s := ⟨_, rfl⟩
        rw [hs] at HWS hs8 ⊢
        clear hs
        go_wp2_with (go_at_call 36; refine (with_any s k _ hs8 (by omega)).mono ?_; rintro e w' ⟨rfl, rfl⟩)
        go_roundw
        case rel => exact ⟨k + 1, by omega, by go_num, by rw [HWS.out], HE⟩
        case measure => simp [intOf]; omega
      | false =>
        have HWS := Lib.hid (wset_no hq)
        generalize nth us k = z at *
        obtain ⟨s, hs⟩ : ∃ s, wset c us k = s := ⟨_, rfl⟩
        rw [hs] at HWS hs8 ⊢
        clear hs
        go_wp2_with fail
        go_roundw
        case rel => exact ⟨k + 1, by omega, by go_num, by rw [HWS.out], HE⟩
        case measure => simp [intOf]; omega
    · obtain rfl : k = us.length := by omega
      have HSL := Lib.hid (setList_any (wset c us us.length) wr hs8 (HT.out.ex HE.out))
      rw [wset_all hl] at HSL
      obtain ⟨ys, hys⟩ : ∃ ys, wthI c us us.length = ys := ⟨_, rfl⟩
      rw [hys] at HSL
      have HYS := Lib.hid hys
      obtain ⟨s, hs⟩ : ∃ s, wset c us us.length = s := ⟨_, rfl⟩
      rw [hs] at HSL ⊢
      clear hs hys hs8
      go_wp2_with fail
      refine HSL.out.mono ?_
      rintro e w9 ⟨A', c', rfl, he9, ho9⟩
      have HO := Lib.hid ho9
      have HE9 := Lib.hid (HE.out.trans he9)
      clear ho9 he9
      go_wp2_with fail
      go_ret
      rw [HYS.out]
      exact ⟨A', c', rfl, HE9.out, HO.out.mono HE.out.size (Nat.le_refl _) HO.out.le⟩

end Go.Proofs.YtfafccldngekgaaDoor
