/- Counting cells: the powers of the order less 1. -/
import Derived.Test.YtdehalkebneaoaaDoorEx
import Derived.Test.YtdehalkebneaoaaDoorIsG
import Derived.Test.YtdehalkebneaoaaDoorPrd
namespace Go.Proofs.YtdehalkebneaoaaDoor
open Go.RowKit

/-- The number of lists of j elements other than 0. -/
def cellsN (N j : Nat) : Nat := (N - 1) ^ j
theorem cellsN_le {N j : Nat} (hN : N ≤ 8) (hj : j ≤ 4) : cellsN N j ≤ 2401 :=
  Nat.le_trans (Nat.pow_le_pow_left (show N - 1 ≤ 7 by omega) j) (Nat.le_trans (Nat.pow_le_pow_right (show 0 < 7 by omega) hj) (by decide))
theorem cellsN_zero (N : Nat) : cellsN N 0 = 1 := rfl
theorem cellsN_succ (N j : Nat) : cellsN N (j + 1) = cellsN N j * (N - 1) := Nat.pow_succ ..

theorem l01N_ex (A : Option Addr) (n c : Nat) (w : World) (hn : n ≤ 1048576) :
    Calls Tryd.prog 116 #[.agg #[.slice A n c]] w fun e w' => e = .returned (.int .i64 n) ∧ Ex w w' := (l01N_any A n c w hn).mono fun _ _ ⟨h1, h2⟩ => ⟨h1, h2 ▸ Ex.new _ _⟩
theorem groupOrder_ex (A : Option Addr) (n c : Nat) (w : World) (hn : n ≤ 1048576) :
    Calls Tryd.prog 109 #[.agg #[.slice A n c]] w fun e w' => e = .returned (.int .i64 n) ∧ Ex w w' := (groupOrder_any A n c w hn).mono fun _ _ ⟨h1, h2⟩ => ⟨h1, h2 ▸ Ex.new _ _⟩

set_option maxHeartbeats 800000 in
theorem l03Cells_any (A : Option Addr) (N c n : Nat) (w : World) (hN : N ≤ 8) (hN1 : 1 ≤ N) (hn : n ≤ 4) :
    Calls Tryd.prog 60 #[.agg #[.slice A N c], .int .i64 (n : Int)] w fun e w' => e = .returned (.int .i64 (cellsN N n : Int)) ∧ Ex w w' := by
  have e0 := Ex.new w (.cells #[.slice A N c] 29)
  have HB := Lib.hid (Has.new w 29 #[.slice A N c])
  obtain ⟨B, hB⟩ : ∃ B, N - 1 = B := ⟨_, rfl⟩
  have hB' : (N : Int) - 1 = (B : Int) := by omega
  have HBN := Lib.hid hB
  go_enter Tryd.func60, Tryd.ntmps60
  go_wp2_with fail
  generalize (w.alloc (.cells #[.slice A N c] 29)) = W at *
  go_loopw [1, 5] (fun i q wr => ∃ k p : Nat, k ≤ n ∧ i = .int .i64 (k : Int) ∧ q = .int .i64 (p : Int) ∧ Hid (p = cellsN N (n - k)) ∧ Hid (Ex W wr)) (fun i _ _ => (intOf i).toNat)
  case atStart => exact ⟨n, 1, Nat.le_refl _, rfl, rfl, Lib.hid (by rw [Nat.sub_self, cellsN_zero]), Lib.hid (Ex.refl _)⟩
  case round =>
    obtain ⟨k, p, hk, rfl, rfl, HP, HE⟩ := hrel
    have hcell := (HB.out.ex HE.out).cell 0
    by_cases hlt : 0 < k
    · have hle : p * B ≤ 2401 := by
        rw [HP.out, ← HBN.out, ← cellsN_succ]
        exact cellsN_le hN (by omega)
      have hle2 : p ≤ 2401 := by rw [HP.out]; exact cellsN_le hN (by omega)
      obtain ⟨z, hz⟩ : ∃ z, p * B = z := ⟨_, rfl⟩
      have hp : (p : Int) * (B : Int) = (z : Int) := by rw [← hz]; simp
      have HZ : Hid (z = cellsN N (n - (k - 1))) := Lib.hid (by rw [show n - (k - 1) = n - k + 1 by omega, cellsN_succ, ← HP.out, HBN.out, hz])
      rw [hz] at hle
      clear hz hB
      go_wp2_with (go_at_call 116; refine (l01N_ex A N c _ (by omega)).mono ?_; rintro e w' ⟨rfl, he⟩; have HE := Lib.hid (HE.out.trans he); clear he)
      go_roundw
      case rel => exact ⟨k - 1, z, by omega, by go_num, rfl, HZ, HE⟩
      case measure => simp [intOf]; omega
    · obtain rfl : k = 0 := by omega
      go_wp2_with fail
      go_ret
      exact ⟨by rw [HP.out]; rfl, e0.trans HE.out⟩

set_option maxHeartbeats 800000 in
theorem cellCount_any (A : Option Addr) (N c n : Nat) (w : World) (hN : N ≤ 8) (hN1 : 1 ≤ N) (hn : n ≤ 4) :
    Calls Tryd.prog 122 #[.agg #[.slice A N c], .int .i64 (n : Int)] w fun e w' => e = .returned (.int .i64 (cellsN N n : Int)) ∧ Ex w w' := by
  have e0 := Ex.new w (.cells #[.slice A N c] 29)
  have HB := Lib.hid (Has.new w 29 #[.slice A N c])
  obtain ⟨B, hB⟩ : ∃ B, N - 1 = B := ⟨_, rfl⟩
  have hB' : (N : Int) - 1 = (B : Int) := by omega
  have HBN := Lib.hid hB
  go_enter Tryd.func122, Tryd.ntmps122
  go_wp2_with fail
  generalize (w.alloc (.cells #[.slice A N c] 29)) = W at *
  go_loopw [5, 7] (fun q i wr => ∃ k p : Nat, k ≤ n ∧ i = .int .i64 (k : Int) ∧ q = .int .i64 (p : Int) ∧ Hid (p = cellsN N k) ∧ Hid (Ex W wr)) (fun _ i _ => n - (intOf i).toNat)
  case atStart => exact ⟨0, 1, Nat.zero_le _, rfl, rfl, Lib.hid rfl, Lib.hid (Ex.refl _)⟩
  case round =>
    obtain ⟨k, p, hk, rfl, rfl, HP, HE⟩ := hrel
    have hcell := (HB.out.ex HE.out).cell 0
    by_cases hlt : k < n
    · have hle : p * B ≤ 2401 := by
        rw [HP.out, ← HBN.out, ← cellsN_succ]
        exact cellsN_le hN (by omega)
      have hle2 : p ≤ 2401 := by rw [HP.out]; exact cellsN_le hN (by omega)
      obtain ⟨z, hz⟩ : ∃ z, p * B = z := ⟨_, rfl⟩
      have hp : (p : Int) * (B : Int) = (z : Int) := by rw [← hz]; simp
      have HZ : Hid (z = cellsN N (k + 1)) := Lib.hid (by rw [cellsN_succ, ← HP.out, HBN.out, hz])
      rw [hz] at hle
      clear hz hB
      go_wp2_with (go_at_call 109; refine (groupOrder_ex A N c _ (by omega)).mono ?_; rintro e w' ⟨rfl, he⟩; have HE := Lib.hid (HE.out.trans he); clear he)
      go_roundw
      case rel => exact ⟨k + 1, z, by omega, by go_num, rfl, HZ, HE⟩
      case measure => simp [intOf]; omega
    · obtain rfl : k = n := by omega
      go_wp2_with fail
      go_ret
      exact ⟨by rw [HP.out]; rfl, e0.trans HE.out⟩

/-- Is a number in a range? -/
def inB (n lo hi : Int) : Bool := decide (lo ≤ n) && decide (n ≤ hi)
theorem inB_true {n lo hi : Int} (h : inB n lo hi = true) : lo ≤ n ∧ n ≤ hi := by simpa [inB] using h
theorem inB_false {n lo hi : Int} (h : inB n lo hi = false) : n < lo ∨ hi < n := by
  have h' : ¬ (lo ≤ n ∧ n ≤ hi) := fun h2 => by simp [inB, h2.1, h2.2] at h
  omega
theorem inB_of {n lo hi : Int} (h0 : lo ≤ n) (h1 : n ≤ hi) : inB n lo hi = true := by simp [inB, h0, h1]
theorem inB_out {n lo hi : Int} (h : n < lo ∨ hi < n) : inB n lo hi = false := by
  cases hb : inB n lo hi
  · rfl
  · have := inB_true hb
    omega
theorem l01In_ex (n lo hi : Int) (w : World) : Calls Tryd.prog 59 #[.int .i64 n, .int .i64 lo, .int .i64 hi] w fun e w' => e = .returned (.bool (inB n lo hi)) ∧ w = w' := by
  cases hb : inB n lo hi
  · exact l01In_no n lo hi w (inB_false hb)
  · exact l01In_yes n lo hi w (inB_true hb).1 (inB_true hb).2

theorem l01Is_ex (A : Option Addr) (t : List (List Int)) (c : Nat) (w : World) (hR : RwsW w A t) (hs : SmallT t) :
    Calls Tryd.prog 58 #[.agg #[.slice A t.length c]] w fun e w' => e = .returned (.bool (grpB t)) ∧ Ex w w' := l01Is_any A t c w.heap.size w hR.rws (Nat.le_refl _) hs.1 hs.2
theorem implIsGroup_ex (A : Option Addr) (t : List (List Int)) (c : Nat) (w : World) (hR : RwsW w A t) (hs : SmallT t) :
    Calls Tryd.prog 63 #[.agg #[.slice A t.length c]] w fun e w' => e = .returned (.bool (grpB t)) ∧ Ex w w' := implIsGroup_any A t c w.heap.size w hR.rws (Nat.le_refl _) hs.1 hs.2

theorem isDegree_yes (n : Int) (w : World) (h0 : 0 ≤ n) (h1 : n ≤ 3) :
    Calls Tryd.prog 64 #[.int .i64 n] w fun e w' => e = .returned (.bool true) ∧ w = w' := by
  go_enter Tryd.func64, Tryd.ntmps64
  go_wp2
  go_ret
  exact ⟨rfl, rfl⟩
theorem isDegree_no (n : Int) (w : World) (h : n < 0 ∨ 3 < n) :
    Calls Tryd.prog 64 #[.int .i64 n] w fun e w' => e = .returned (.bool false) ∧ w = w' := by
  rcases h with h | h
  · have h' : ¬ 0 ≤ n := by omega
    go_enter Tryd.func64, Tryd.ntmps64
    go_wp2
    go_ret
    exact ⟨rfl, rfl⟩
  · have h' : 0 ≤ n := by omega
    have h'' : ¬ n ≤ 3 := by omega
    go_enter Tryd.func64, Tryd.ntmps64
    go_wp2
    go_ret
    exact ⟨rfl, rfl⟩

theorem isDegree_ex (n : Int) (w : World) : Calls Tryd.prog 64 #[.int .i64 n] w fun e w' => e = .returned (.bool (inB n 0 3)) ∧ w = w' := by
  cases hb : inB n 0 3
  · exact isDegree_no n w (inB_false hb)
  · exact isDegree_yes n w (inB_true hb).1 (inB_true hb).2

theorem l01In_e (n lo hi : Int) (w : World) : Calls Tryd.prog 59 #[.int .i64 n, .int .i64 lo, .int .i64 hi] w fun e w' => e = .returned (.bool (inB n lo hi)) ∧ Ex w w' := (l01In_ex n lo hi w).mono fun _ _ ⟨h1, h2⟩ => ⟨h1, Ex.of_eq' h2⟩
theorem isDegree_e (n : Int) (w : World) : Calls Tryd.prog 64 #[.int .i64 n] w fun e w' => e = .returned (.bool (inB n 0 3)) ∧ Ex w w' := (isDegree_ex n w).mono fun _ _ ⟨h1, h2⟩ => ⟨h1, Ex.of_eq' h2⟩

end Go.Proofs.YtdehalkebneaoaaDoor
