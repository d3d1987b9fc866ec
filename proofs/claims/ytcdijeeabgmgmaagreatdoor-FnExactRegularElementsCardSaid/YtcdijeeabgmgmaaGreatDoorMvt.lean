/- Mv Tk in one text. -/
import Derived.IntWalk
import Derived.Test.YtcdijeeabgmgmaaGreatDoorLst
import Derived.Test.YtcdijeeabgmgmaaGreatDoorCel
import Derived.Test.YtcdijeeabgmgmaaGreatDoorVal
/- MoveCochain: the program's closures. -/
namespace Go.Proofs.YtcdijeeabgmgmaaGreatDoor
open Go.RowKit

theorem inR_belowL {N : Nat} {xs : List Int} (h : InR N xs) : belowB (N : Int) xs = true := by
  refine List.all_eq_true.2 fun x hx => ?_
  obtain ⟨j, hj, rfl⟩ := List.getElem_of_mem hx
  have h1 := h j hj
  rw [show nth xs j = xs[j] by simp [nth, hj]] at h1
  exact inB_of h1.1 (by omega)
theorem dN_in {N n i p : Nat} (h : 2 ≤ N) : 1 ≤ dN N n i p ∧ dN N n i p < N := by
  have := Nat.mod_lt (i / (N - 1) ^ (n - 1 - p)) (show N - 1 > 0 by omega)
  unfold dN
  omega
/-- The list with the number k, each element conjugated. -/
noncomputable def movL (t : List (List Int)) (d k b : Nat) : List Int := (List.range d).map fun j => (con t (dN t.length d k j) b : Int)
theorem movL_len (t : List (List Int)) (d k b : Nat) : (movL t d k b).length = d := by simp [movL]
theorem movL_in {t : List (List Int)} (hg : IsGrp t) {d k b : Nat} (hb : b < t.length) (hd : d = 0 ∨ 2 ≤ t.length) : InR t.length (movL t d k b) := fun i hi => by
  rw [movL_len] at hi
  have h := con_lt hg (dN_in (n := d) (i := k) (p := i) (show 2 ≤ t.length by omega)).2 hb
  have e : nth (movL t d k b) i = (con t (dN t.length d k i) b : Int) := by simp [nth, movL, hi]
  rw [e]
  omega
/-- The value there. -/
noncomputable def movV (t : List (List Int)) (M : Nat) (us fs : List Int) (d k b c : Nat) : Int := nth us c * valR t.length fs (movL t d k b) % (M : Int)

end Go.Proofs.YtcdijeeabgmgmaaGreatDoor

/- Parts of lists, products of lists of elements, values in range. -/
namespace Go.Proofs.YtcdijeeabgmgmaaGreatDoor
open Go.RowKit

/-- The product of the first elements of a list. -/
noncomputable def plF (t : List (List Int)) (xs : List Int) : Nat → Nat
  | 0 => 0
  | k + 1 => mul t (plF t xs k) (nth xs k).toNat
theorem plF_lt {t : List (List Int)} (hg : IsGrp t) {xs : List Int} (hx : InR t.length xs) : ∀ k, k ≤ xs.length → plF t xs k < t.length
  | 0, _ => hg.pos
  | k + 1, h => by
    have h1 := hx k (by omega)
    exact hg.mul_lt (plF_lt hg hx k (by omega)) (by omega)
theorem nth_take {xs : List Int} {p k : Nat} (h : k < p) : nth (xs.take p) k = nth xs k := by simp [nth, h]
theorem nth_drop (xs : List Int) (p k : Nat) : nth (xs.drop p) k = nth xs (p + k) := by simp [nth]
theorem plF_take (t : List (List Int)) (xs : List Int) {p : Nat} : ∀ k, k ≤ p → plF t (xs.take p) k = plF t xs k
  | 0, _ => rfl
  | k + 1, h => by rw [plF, plF, plF_take t xs k (by omega), nth_take (by omega)]
theorem InR.take {N : Nat} {xs : List Int} (h : InR N xs) (p : Nat) : InR N (xs.take p) := fun i hi => by
  rw [List.length_take] at hi
  rw [nth_take (by omega)]
  exact h i (by omega)
theorem InR.drop {N : Nat} {xs : List Int} (h : InR N xs) (p : Nat) : InR N (xs.drop p) := fun i hi => by
  rw [List.length_drop] at hi
  rw [nth_drop]
  exact h _ (by omega)
theorem lsL_in {N d k : Nat} (h : d = 0 ∨ 2 ≤ N) : InR N (lsL N d k) := fun i hi => by
  rw [lsL_len] at hi
  have := dN_in (N := N) (n := d) (i := k) (p := i) (by omega)
  rw [nth_lsL hi]
  omega
theorem IntsW.take {w : World} {A : Option Addr} {xs : List Int} (h : IntsW w A xs) (p : Nat) : IntsW w A (xs.take p) := by
  rcases h with rfl | ⟨b, o, rfl, hb, hc⟩
  · exact .inl (by simp)
  · refine .inr ⟨b, o, rfl, hb, fun j hj => ?_⟩
    rw [List.length_take] at hj
    rw [nth_take (by omega)]
    exact hc j (by omega)
theorem IntsW.drop {w : World} {b o : Nat} {xs : List Int} (h : IntsW w (some ⟨b, o, none⟩) xs) (p : Nat) : IntsW w (some ⟨b, o + p, none⟩) (xs.drop p) := by
  rcases h with rfl | ⟨b', o', e, hb, hc⟩
  · exact .inl (by simp)
  · simp only [Option.some.injEq, Addr.mk.injEq, and_true] at e
    obtain ⟨rfl, rfl⟩ := e
    refine .inr ⟨_, _, rfl, hb, fun j hj => ?_⟩
    rw [List.length_drop] at hj
    rw [nth_drop, Nat.add_assoc]
    exact hc _ (by omega)
/-- A value of a cochain is in range. -/
theorem valR_in {N M d : Nat} {fs xs : List Int} (hM : 0 < M) (hx : InR N xs) (hl : xs.length = d) (hf : fs.length = cellsN N d) (hr : InR M fs) : 0 ≤ valR N fs xs ∧ valR N fs xs < (M : Int) := by
  unfold valR
  by_cases hz : xs.any (fun x => x == 0) = true
  · rw [if_pos hz]
    omega
  · rw [if_neg hz]
    refine hr _ ?_
    rw [hf]
    have h := cellF_lt (N := N) (xs := xs) xs.length (fun j hj => by
      have h1 := hx j hj
      have h2 : nth xs j ≠ 0 := fun h => hz (any_zero hj h)
      omega)
    rw [hl] at h ⊢
    exact h

end Go.Proofs.YtcdijeeabgmgmaaGreatDoor
