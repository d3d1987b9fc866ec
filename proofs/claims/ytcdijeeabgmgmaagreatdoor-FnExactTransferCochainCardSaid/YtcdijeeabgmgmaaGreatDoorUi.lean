/- Cochains that are pulled back along a function of the elements, by the program; cochains whose values an element leads. -/
import Derived.Test.YtcdijeeabgmgmaaGreatDoorFif
import Derived.Test.YtcdijeeabgmgmaaGreatDoorMvt
import Derived.Test.YtcdijeeabgmgmaaGreatDoorMdl
namespace Go.Proofs.YtcdijeeabgmgmaaGreatDoor
open Go.RowKit

theorem cells_posU {N d k : Nat} (h : k < cellsN N d) : d = 0 ∨ 2 ≤ N := by
  rcases Nat.eq_zero_or_pos d with h0 | h0
  · exact .inl h0
  · right
    rcases Nat.lt_or_ge N 2 with hN | hN
    · rw [cellsN, show N - 1 = 0 by omega, Nat.zero_pow h0] at h
      omega
    · exact hN
/-- The list with the number k, each element's image; the value there. -/
noncomputable def pbL (V : Nat → Int) (N d k : Nat) : List Int := (List.range d).map fun j => V (dN N d k j)
noncomputable def pbV (V : Nat → Int) (fs : List Int) (N K d k : Nat) : Int := valR K fs (pbL V N d k)
noncomputable def pbY (V : Nat → Int) (fs : List Int) (N K d : Nat) : List Int := (List.range (cellsN N d)).map fun k => pbV V fs N K d k
theorem pbL_len (V : Nat → Int) (N d k : Nat) : (pbL V N d k).length = d := by simp [pbL]
theorem pbY_len (V : Nat → Int) (fs : List Int) (N K d : Nat) : (pbY V fs N K d).length = cellsN N d := by simp [pbY]
theorem pbL_in {V : Nat → Int} {K N d k : Nat} (hV : ∀ x, x < N → 0 ≤ V x ∧ V x < K) (hd : d = 0 ∨ 2 ≤ N) : InR K (pbL V N d k) := fun i hi => by
  rw [pbL_len] at hi
  have e : nth (pbL V N d k) i = V (dN N d k i) := by simp [nth, pbL, hi]
  rw [e]
  exact hV _ (dN_in (by omega)).2
theorem pbL_congr {V U : Nat → Int} {N d k : Nat} (h : ∀ x, x < N → V x = U x) (hd : d = 0 ∨ 2 ≤ N) : pbL V N d k = pbL U N d k := by
  unfold pbL
  refine List.map_congr_left fun j hj => h _ (dN_in (by have := List.mem_range.1 hj; omega)).2
theorem pbY_congr {V U : Nat → Int} {fs : List Int} {N K d : Nat} (h : ∀ x, x < N → V x = U x) : pbY V fs N K d = pbY U fs N K d := by
  unfold pbY
  refine List.map_congr_left fun k hk => ?_
  unfold pbV
  rw [pbL_congr h (cells_posU (List.mem_range.1 hk))]

/-- The values of a cochain, led by a unit. -/
noncomputable def ledY (M : Nat) (u : Int) (fs : List Int) : List Int := (List.range fs.length).map fun k => u * nth fs k % (M : Int)
theorem ledY_len (M : Nat) (u : Int) (fs : List Int) : (ledY M u fs).length = fs.length := by simp [ledY]

end Go.Proofs.YtcdijeeabgmgmaaGreatDoor
