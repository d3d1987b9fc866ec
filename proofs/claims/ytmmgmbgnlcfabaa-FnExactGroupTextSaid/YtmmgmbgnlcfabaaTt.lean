/- Numbers in decimal, joined: both sides. -/
import Derived.Deep.RegionHeld3
import Derived.Lib.BufferRead
import Derived.Test.YtmmgmbgnlcfabaaBy
namespace Go.Proofs.Ytmmgmbgnlcfabaa
open Go.RowKit

theorem ba_append (a b : List UInt8) : (⟨a.toArray⟩ : ByteArray) ++ ⟨b.toArray⟩ = ⟨(a ++ b).toArray⟩ := by
  apply ByteArray.ext
  simp

/-- The first k numbers, joined. -/
def joinL (us : List Int) : Nat → List UInt8
  | 0 => []
  | k + 1 => joinL us k ++ ((if 0 < k then [44] else []) ++ decL (nth us k).toNat)
theorem joinL_len (us : List Int) (k : Nat) : (joinL us k).length ≤ 3 * k := by
  induction k with
  | zero => simp [joinL]
  | succ k ih =>
    have := (decL_len (nth us k).toNat).2
    simp only [joinL, List.length_append]
    split <;> simp <;> omega
theorem joinL_pos (us : List Int) (k : Nat) : 0 < (joinL us (k + 1)).length := by
  have := (decL_len (nth us k).toNat).1
  simp only [joinL, List.length_append]
  omega

end Go.Proofs.Ytmmgmbgnlcfabaa
