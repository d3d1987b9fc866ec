/- Counting cells: the powers of the order less 1. -/
import Derived.Test.YtmmgmbgnlcfabaaDoorEx
import Derived.Test.YtmmgmbgnlcfabaaDoorIsG
import Derived.Test.YtmmgmbgnlcfabaaDoorPrd
namespace Go.Proofs.YtmmgmbgnlcfabaaDoor
open Go.RowKit

/-- The number of lists of j elements other than 0. -/
def cellsN (N j : Nat) : Nat := (N - 1) ^ j
theorem cellsN_le {N j : Nat} (hN : N ≤ 8) (hj : j ≤ 4) : cellsN N j ≤ 2401 :=
  Nat.le_trans (Nat.pow_le_pow_left (show N - 1 ≤ 7 by omega) j) (Nat.le_trans (Nat.pow_le_pow_right (show 0 < 7 by omega) hj) (by decide))
theorem cellsN_zero (N : Nat) : cellsN N 0 = 1 := rfl
theorem cellsN_succ (N j : Nat) : cellsN N (j + 1) = cellsN N j * (N - 1) := Nat.pow_succ ..

theorem l01N_ex (A : Option Addr) (n c : Nat) (w : World) (hn : n ≤ 1048576) :
    Calls Tryd.prog 62 #[.agg #[.slice A n c]] w fun e w' => e = .returned (.int .i64 n) ∧ Ex w w' := (l01N_any A n c w hn).mono fun _ _ ⟨h1, h2⟩ => ⟨h1, h2 ▸ Ex.new _ _⟩
theorem groupOrder_ex (A : Option Addr) (n c : Nat) (w : World) (hn : n ≤ 1048576) :
    Calls Tryd.prog 51 #[.agg #[.slice A n c]] w fun e w' => e = .returned (.int .i64 n) ∧ Ex w w' := (groupOrder_any A n c w hn).mono fun _ _ ⟨h1, h2⟩ => ⟨h1, h2 ▸ Ex.new _ _⟩

/-- Is a number in a range? -/
def inB (n lo hi : Int) : Bool := decide (lo ≤ n) && decide (n ≤ hi)
theorem inB_true {n lo hi : Int} (h : inB n lo hi = true) : lo ≤ n ∧ n ≤ hi := by simpa [inB] using h
theorem inB_false {n lo hi : Int} (h : inB n lo hi = false) : n < lo ∨ hi < n := by
  have h' : ¬ (lo ≤ n ∧ n ≤ hi) := fun h2 => by simp [inB, h2.1, h2.2] at h
  omega
theorem inB_of {n lo hi : Int} (h0 : lo ≤ n) (h1 : n ≤ hi) : inB n lo hi = true := by simp [inB, h0, h1]
theorem inB_out {n lo hi : Int} (h : n < lo ∨ hi < n) : inB n lo hi = false := by
  cases hb : inB n lo hi
  · rfl
  · have := inB_true hb
    omega
theorem l01In_ex (n lo hi : Int) (w : World) : Calls Tryd.prog 72 #[.int .i64 n, .int .i64 lo, .int .i64 hi] w fun e w' => e = .returned (.bool (inB n lo hi)) ∧ w = w' := by
  cases hb : inB n lo hi
  · exact l01In_no n lo hi w (inB_false hb)
  · exact l01In_yes n lo hi w (inB_true hb).1 (inB_true hb).2

theorem l01Is_ex (A : Option Addr) (t : List (List Int)) (c : Nat) (w : World) (hR : RwsW w A t) (hs : SmallT t) :
    Calls Tryd.prog 37 #[.agg #[.slice A t.length c]] w fun e w' => e = .returned (.bool (grpB t)) ∧ Ex w w' := l01Is_any A t c w.heap.size w hR.rws (Nat.le_refl _) hs.1 hs.2
theorem implIsGroup_ex (A : Option Addr) (t : List (List Int)) (c : Nat) (w : World) (hR : RwsW w A t) (hs : SmallT t) :
    Calls Tryd.prog 40 #[.agg #[.slice A t.length c]] w fun e w' => e = .returned (.bool (grpB t)) ∧ Ex w w' := implIsGroup_any A t c w.heap.size w hR.rws (Nat.le_refl _) hs.1 hs.2

theorem l01In_e (n lo hi : Int) (w : World) : Calls Tryd.prog 72 #[.int .i64 n, .int .i64 lo, .int .i64 hi] w fun e w' => e = .returned (.bool (inB n lo hi)) ∧ Ex w w' := (l01In_ex n lo hi w).mono fun _ _ ⟨h1, h2⟩ => ⟨h1, Ex.of_eq' h2⟩
end Go.Proofs.YtmmgmbgnlcfabaaDoor
