/- The laws' helpers that measure arguments: what is accepted is short. -/
import Derived.Test.YtdehalkebneaoaaDoorProg
import Derived.Test.YtdehalkebneaoaaDoorMem
namespace Go.Proofs.YtdehalkebneaoaaDoor
open Go.RowKit

/-- No more than L rows, and none longer than L. -/
def Small (t : List (List Int)) (L : Int) : Prop := (t.length : Int) ≤ L ∧ ∀ i, i < t.length → (((row t i).length : Nat) : Int) ≤ L

/-- What is left is less than 0, or the table is small. -/
def SzPost (t : List (List Int)) (left : Int) (w : World) (e : Ending) (w' : World) : Prop :=
  (∃ r : Int, e = .returned (.int .i64 r) ∧ (r = -1 ∨ (0 ≤ r ∧ r ≤ left ∧ Small t left))) ∧ w = w'

set_option maxHeartbeats 400000 in
theorem szInt64S_any (A : Option Addr) (n c : Nat) (left : Int) (w : World) (hn : n ≤ maxLen) (h0 : 0 ≤ left) (h1 : left ≤ 1048576) :
    Calls Tryd.prog 70 #[.slice A n c, .int .i64 left] w fun e w' => e = .returned (.int .i64 (if left < n then -1 else left - n)) ∧ w = w' := by
  unfold maxLen at hn
  by_cases h : left < n
  · go_enter Tryd.func70, Tryd.ntmps70
    go_wp2
    go_ret
    exact ⟨by simp, rfl⟩
  · go_enter Tryd.func70, Tryd.ntmps70
    go_wp2
    go_ret
    exact ⟨by simp, rfl⟩

set_option maxHeartbeats 400000 in
theorem szInt64SS_any (A : Option Addr) (t : List (List Int)) (c : Nat) (left : Int) (w : World) (B : Nat) (hR : Rws w B A t) (hn : t.length ≤ maxLen) (hl : ∀ i, i < t.length → (row t i).length ≤ maxLen) (h0 : 0 ≤ left) (h1 : left ≤ 1048576) :
    Calls Tryd.prog 57 #[.slice A t.length c, .int .i64 left] w (SzPost t left w) := by
  have hn' : t.length ≤ 9223372036854775807 := by unfold maxLen at hn; exact hn
  have HN := Lib.hid hn
  clear hn
  by_cases h : left < t.length
  · go_enter Tryd.func57, Tryd.ntmps57
    go_wp2
    go_ret
    exact ⟨⟨-1, rfl, .inl rfl⟩, rfl⟩
  · go_enter Tryd.func57, Tryd.ntmps57
    go_wp2
    go_loop [1, 5] (fun l i => ∃ (k : Nat) (r : Int), k ≤ t.length ∧ i = .int .i64 k ∧ l = .int .i64 r ∧ 0 ≤ r ∧ r ≤ left ∧ ∀ i, i < k → (((row t i).length : Nat) : Int) ≤ left) (fun _ i => t.length - (intOf i).toNat)
    case atStart => exact ⟨0, left - t.length, by omega, rfl, rfl, by omega, by omega, fun i hi => absurd hi (by omega)⟩
    case round =>
      obtain ⟨k, r, hk, rfl, rfl, hr0, hr1, hs⟩ := hrel
      by_cases hlt : k < t.length
      · have hlk := hl k hlt
        rcases hR with hR | ⟨b, o, rfl, hb, hc⟩
        · subst hR; exact absurd hlt (by simp)
        obtain ⟨R, c1, hcell, _⟩ := hc k hlt
        have HS := Lib.hid hs
        have HL := Lib.hid hl
        have HC := Lib.hid hc
        have HK := Lib.hid hlk
        clear hs hl hc hlk
        by_cases hz : r < (((row t k).length : Nat) : Int)
        · go_wp2_with (go_at_call 70; refine (szInt64S_any _ _ _ _ _ HK.out (by omega) (by omega)).mono ?_; rintro e w' ⟨rfl, rfl⟩)
          go_ret
          exact ⟨⟨-1, rfl, .inl rfl⟩, rfl⟩
        · go_wp2_with (go_at_call 70; refine (szInt64S_any _ _ _ _ _ HK.out (by omega) (by omega)).mono ?_; rintro e w' ⟨rfl, rfl⟩)
          go_round
          case rel => exact ⟨k + 1, r - (row t k).length, by omega, by go_num, by rw [if_neg (by omega)], by omega, by omega, fun i hi => by
            rcases Nat.lt_or_ge i k with h | h
            · exact HS.out i h
            · obtain rfl : i = k := by omega
              omega⟩
          case measure => simp [intOf]; omega
      · have hkk : k = t.length := by omega
        subst hkk
        go_wp2
        go_ret
        exact ⟨⟨r, rfl, .inr ⟨hr0, hr1, by omega, hs⟩⟩, rfl⟩

set_option maxHeartbeats 400000 in
theorem szGroup_any (A : Option Addr) (t : List (List Int)) (c : Nat) (left : Int) (w : World) (hR : Rws w w.heap.size A t) (hn : t.length ≤ maxLen) (hl : ∀ i, i < t.length → (row t i).length ≤ maxLen) (h0 : 0 ≤ left) (h1 : left ≤ 1048576) :
    Calls Tryd.prog 15 #[.agg #[.slice A t.length c], .int .i64 left] w fun e w' => SzPost t left (w.alloc (.cells #[.slice A t.length c] 24)) e w' := by
  go_enter Tryd.func15, Tryd.ntmps15
  go_wp2_with fail
  refine (szInt64SS_any _ _ _ _ _ w.heap.size (hR.below ((Below.refl _ _).alloc (Nat.le_refl _) _) (Nat.le_refl _)) hn hl h0 h1).mono ?_
  rintro e w' ⟨⟨r, rfl, hr⟩, rfl⟩
  rcases hr with rfl | ⟨hr0, hr1, hs⟩
  · go_wp2
    go_ret
    exact ⟨⟨-1, rfl, .inl rfl⟩, rfl⟩
  · go_wp2
    go_ret
    exact ⟨⟨r, rfl, .inr ⟨hr0, hr1, hs⟩⟩, rfl⟩

end Go.Proofs.YtdehalkebneaoaaDoor

