/- IsG Prd Ord Mg in one text. -/
import Derived.Deep.RegionHeld3
import Derived.Laws.Rows
import Derived.IntWalk
import Derived.Test.YtfnjpbjlikajbaaSpA
import Derived.Test.YtfnjpbjlikajbaaIsg
import Derived.Test.YtfnjpbjlikajbaaBa
/- IsGroup, of the program and of the specification. -/
namespace Go.Proofs.Ytfnjpbjlikajbaa
open Go.RowKit

end Go.Proofs.Ytfnjpbjlikajbaa

/- ProductOf, of the program and of the specification. -/
namespace Go.Proofs.Ytfnjpbjlikajbaa
open Go.RowKit

theorem IsGrp.tab {t : List (List Int)} (h : IsGrp t) : IsTab t := (isGrp_iff.1 h).1

/-- Are all numbers of a list elements of a group of n elements? -/
def InR (n : Nat) (xs : List Int) : Prop := ∀ i, i < xs.length → 0 ≤ nth xs i ∧ nth xs i < n

open Classical in
/-- The code of a group and elements. -/
noncomputable def elemR (t : List (List Int)) (xs : List Int) : Int := if IsGrp t then (if InR t.length xs then 0 else 2) else 1

/-- The product of two elements, and the code. -/
noncomputable def productR (t : List (List Int)) (a b : Int) : Int × Int :=
  if elemR t [a, b] = 0 then (nth (row t a.toNat) b.toNat, 0) else (0, elemR t [a, b])

theorem productR_grp {t : List (List Int)} {a b : Int} (h : IsGrp t) (ha : 0 ≤ a ∧ a < t.length) (hb : 0 ≤ b ∧ b < t.length) : productR t a b = (nth (row t a.toNat) b.toNat, 0) := by
  have hi : InR t.length [a, b] := fun i hi => by
    match i, hi with
    | 0, _ => exact ha
    | 1, _ => exact hb
  rw [productR, elemR, if_pos h, if_pos hi, if_pos rfl]
theorem productR_out {t : List (List Int)} {a b : Int} (h : IsGrp t) (hn : ¬ ((0 ≤ a ∧ a < t.length) ∧ (0 ≤ b ∧ b < t.length))) : productR t a b = (0, 2) := by
  have hi : ¬ InR t.length [a, b] := fun hi => hn ⟨hi 0 (by simp), hi 1 (by simp)⟩
  rw [productR, elemR, if_pos h, if_neg hi, if_neg (by omega)]
theorem productR_none {t : List (List Int)} {a b : Int} (h : ¬ IsGrp t) : productR t a b = (0, 1) := by
  rw [productR, elemR, if_neg h, if_neg (by omega)]

end Go.Proofs.Ytfnjpbjlikajbaa

/- Orders of elements, of the program and of the specification. -/
namespace Go.Proofs.Ytfnjpbjlikajbaa
open Go.RowKit

theorem SqT.mul_ {w : World} {B b o : Nat} {bb oo C : Nat → Nat} {t : List (List Int)} (h : SqT w B b o bb oo C t) (hg : IsGrp t) {i j : Nat} (hi : i < t.length) (hj : j < t.length) :
    w.cell? ⟨bb i, oo i + j, none⟩ = some (.int .i64 (mul t i j : Int)) := by
  rw [h.ent_ hi hj, hg.ent hi hj]

/-- The orders of all elements, none where there is no group; and the code. -/
noncomputable def ordersR (t : List (List Int)) : List Int := if grpB t then (List.range t.length).map fun a => (ord t a : Int) else []
noncomputable def codeR (t : List (List Int)) : Int := if grpB t then 0 else 1

end Go.Proofs.Ytfnjpbjlikajbaa

/- Marks in a group that was copied, and what stays of other blocks. -/
namespace Go.Proofs.Ytfnjpbjlikajbaa
open Go.RowKit

theorem FreshT.rw {w : World} {G : Nat} {eo ei : TypeId} {t : List (List Int)} (h : FreshT w G eo ei t) :
    RW w G 0 t.length (fun i => some ⟨G + 1 + i, 0, none⟩) (fun i => G + 1 + i) (fun _ => 0) (fun i => (row t i).length) (fun i => (row t i).length) where
  outer i hi := by rw [Nat.zero_add, h.outer.cell, tab_get hi]
  addr _ _ _ := rfl
  wr i hi j hj := ⟨⟨nth (row t i) j, by rw [Nat.zero_add, (h.inner i hi).cell, tab_get hj]⟩, (h.inner i hi).free _⟩
  apart i _ i' _ hne o' hh := by
    have := hh.1.1
    exact hne (by omega)
  off i _ _ := by omega

theorem psum_small {t : List (List Int)} (h1 : t.length ≤ 1048576) (h2 : ∀ i, i < t.length → (row t i).length ≤ 1048576) : psum (fun i => (row t i).length) t.length ≤ 1099511627776 :=
  Nat.le_trans (psum_le t.length h2) (Nat.le_trans (Nat.mul_le_mul_right 1048576 h1) (by omega))

theorem Marked.below {w w' : World} {B b o n k : Nat} (h : Marked w b o n k) (hb : Below B w w') (hB : b < B) : Marked w' b o n k :=
  fun j hj => (cell_of_block (hb.block b hB) _).trans (h j hj)


end Go.Proofs.Ytfnjpbjlikajbaa
