/- Sets of elements as digits in base 2. -/
import Derived.Test.YtalejhbdbclfaaaDoorBa
namespace Go.Proofs.YtalejhbdbclfaaaDoor
open Go.RowKit

/-- The least element of a set, the set without it, all elements. -/
def tzN (s : Nat) : Nat := ((List.range 8).find? fun a => s.testBit a).getD 0
def dropN (s : Nat) : Nat := s &&& (s - 1)
def elN (s : Nat) : List Nat := (List.range 8).filter fun a => s.testBit a
/-- The place of a power of two in the library's table. -/
def placeN (k : Nat) : Nat := [0, 1, 3, 7, 15, 31, 63, 62].getD k 0

theorem elN_zero : elN 0 = [] := by decide +kernel
theorem elN_step : ∀ s : Nat, s < 256 → 0 < s → elN s = tzN s :: elN (dropN s) ∧ dropN s < s ∧ tzN s < 8 := by decide +kernel
theorem elN_len : ∀ s : Nat, s < 256 → (elN s).length ≤ 8 := by decide +kernel
theorem bits_with : ∀ s : Nat, s < 256 → ∀ a : Nat, a < 8 → bits BinOp.or IntKind.u64 (s : Int) (IntKind.u64.wrap (2 ^ a)) = ((s ||| 2 ^ a : Nat) : Int) := by decide +kernel
theorem with_lt : ∀ s : Nat, s < 256 → ∀ a : Nat, a < 8 → s ||| 2 ^ a < 256 := by decide +kernel
theorem bits_drop : ∀ s : Nat, s < 256 → 0 < s → bits BinOp.and IntKind.u64 (s : Int) ((s : Int) - 1) = (dropN s : Int) := by decide +kernel
theorem bits_low : ∀ s : Nat, s < 256 → 0 < s → bits BinOp.and IntKind.u64 (s : Int) (IntKind.u64.wrap (-(s : Int))) = ((2 ^ tzN s : Nat) : Int) := by decide +kernel
theorem place_low : ∀ k : Nat, k < 8 → IntKind.u64.wrap (((2 ^ k : Nat) : Int) * 285870213051353865) / 288230376151711744 = (placeN k : Int) := by decide +kernel
theorem place_lt : ∀ k : Nat, k < 8 → placeN k < 64 := by decide +kernel
theorem with_bit (s a j : Nat) : (s ||| 2 ^ a).testBit j = (s.testBit j || decide (a = j)) := by simp [Nat.testBit_two_pow]

set_option maxHeartbeats 400000 in
theorem with_any (s a : Nat) (w : World) (hs : s < 256) (ha : a < 8) :
    Calls Tryd.prog 156 #[.int .u64 (s : Int), .int .i64 (a : Int)] w fun e w' => e = .returned (.int .u64 ((s ||| 2 ^ a : Nat) : Int)) ∧ w = w' := by
  have HB := Lib.hid (bits_with s hs a ha)
  go_enter Tryd.func156, Tryd.ntmps156
  go_wp2
  go_ret
  refine ⟨?_, rfl⟩
  rw [← HB.out]
  rfl

/-- The library's table lies as its text lays it, as far as it is read. -/
def TabL (w : World) : Prop := ∀ k : Nat, k < 8 → w.cell? ⟨1, placeN k, none⟩ = some (.int .u8 (k : Int))
theorem TabL.below {w w' : World} {B : Nat} (h : TabL w) (hb : Below B w w') (hB : 1 < B) : TabL w' := fun k hk => (hb.cell (p := ⟨1, placeN k, none⟩) hB).trans (h k hk)
theorem TabL.lt {w : World} (h : TabL w) : 1 < w.heap.size := World.block_lt_of_cell? _ _ (h 0 (by decide))

set_option maxRecDepth 100000 in
set_option maxHeartbeats 400000 in
theorem tz_any (s : Nat) (w : World) (hs : s < 256) (hp : 0 < s) (hT : TabL w) :
    Calls Tryd.prog 203 #[.int .u64 (s : Int)] w fun e w' => e = .returned (.int .i64 (tzN s : Int)) ∧ w = w' := by
  have h0 : ((s : Int) == 0) = false := by simp; omega
  obtain ⟨-, -, hk⟩ := elN_step s hs hp
  have hb := bits_low s hs hp
  have hpl := place_low _ hk
  have hlt := place_lt _ hk
  have hc := hT _ hk
  obtain ⟨k, hkk⟩ : ∃ k, tzN s = k := ⟨_, rfl⟩
  rw [hkk] at hk hb hpl hlt hc ⊢
  obtain ⟨z, hz⟩ : ∃ z : Int, ((2 ^ k : Nat) : Int) = z := ⟨_, rfl⟩
  rw [hz] at hb hpl
  obtain ⟨i, hi⟩ : ∃ i, placeN k = i := ⟨_, rfl⟩
  rw [hi] at hpl hlt hc
  clear hkk hz hi hT
  go_enter Tryd.func203, Tryd.ntmps203
  go_wp2
  go_ret
  exact ⟨rfl, rfl⟩

end Go.Proofs.YtalejhbdbclfaaaDoor
