/- Elements with a property, as lists and as sets. -/
import Derived.Test.YtfnjpbjlikajbaaSl
namespace Go.Proofs.Ytfnjpbjlikajbaa
open Go.RowKit

/-- The numbers below k with a property. -/
def selN (p : Nat → Bool) (k : Nat) : List Nat := (List.range k).filter p
def selI (p : Nat → Bool) (k : Nat) : List Int := (selN p k).map fun a : Nat => (a : Int)
section
variable {p : Nat → Bool} {k : Nat}
theorem selI_zero : selI p 0 = [] := rfl
theorem selI_yes (h : p k = true) : selI p (k + 1) = selI p k ++ [(k : Int)] := by simp [selI, selN, List.range_succ, h]
theorem selI_no (h : p k = false) : selI p (k + 1) = selI p k := by simp [selI, selN, List.range_succ, h]
theorem selI_len : (selI p k).length ≤ k := by
  simp only [selI, selN, List.length_map]
  exact Nat.le_trans (List.length_filter_le _ _) (by simp)
end
/-- A set with just these elements has this list. -/
theorem elN_sel {s n : Nat} {p : Nat → Bool} (hn : n ≤ 8) (h : ∀ a, a < 8 → s.testBit a = (decide (a < n) && p a)) : elN s = selN p n := by
  unfold elN selN
  have h8 : List.range 8 = List.range n ++ (List.range (8 - n)).map (n + ·) := by rw [← List.range_add]; congr 1; omega
  have h1 : (List.range n).filter (fun a => s.testBit a) = (List.range n).filter p := List.filter_congr fun a ha => by
    have := List.mem_range.1 ha
    rw [h a (by omega)]
    simp [this]
  have h2 : ((List.range (8 - n)).map (n + ·)).filter (fun a => s.testBit a) = [] := List.filter_eq_nil_iff.2 fun a ha => by
    obtain ⟨b, hb, rfl⟩ := List.mem_map.1 ha
    have := List.mem_range.1 hb
    rw [h _ (by omega), decide_eq_false (by omega)]
    simp
  rw [h8, List.filter_append, h1, h2, List.append_nil]
theorem elI_sel {s n : Nat} {p : Nat → Bool} (hn : n ≤ 8) (h : ∀ a, a < 8 → s.testBit a = (decide (a < n) && p a)) : elI s = selI p n := by
  unfold elI selI
  rw [elN_sel hn h]

/-- The set, as far as it has come. -/
def pset (p : Nat → Bool) {n : Nat} (pre : List (Fin n)) : Nat := pre.foldl (fun s x => if p x.val then s ||| 2 ^ x.val else s) 0
theorem pset_snoc (p : Nat → Bool) {n : Nat} (pre : List (Fin n)) (x : Fin n) : pset p (pre ++ [x]) = if p x.val then pset p pre ||| 2 ^ x.val else pset p pre := by simp [pset, List.foldl_append]
theorem pset_fold (p : Nat → Bool) {n : Nat} (hn : n ≤ 8) (pre : List (Fin n)) : ∀ s, s < 256 → pre.foldl (fun s x => if p x.val then s ||| 2 ^ x.val else s) s < 256 ∧
    ∀ a, (pre.foldl (fun s x => if p x.val then s ||| 2 ^ x.val else s) s).testBit a = (s.testBit a || pre.any fun x => decide (x.val = a) && p a) := by
  induction pre with
  | nil => exact fun s hs => ⟨hs, fun a => by simp⟩
  | cons x pre ih =>
    intro s hs
    have hx : x.val < 8 := by omega
    by_cases hq : p x.val = true
    · obtain ⟨h1, h2⟩ := ih (s ||| 2 ^ x.val) (with_lt s hs x.val hx)
      simp only [List.foldl_cons, hq, if_true]
      refine ⟨h1, fun a => ?_⟩
      rw [h2 a, with_bit]
      by_cases he : x.val = a
      · subst he
        simp [hq]
      · simp [he]
    · obtain ⟨h1, h2⟩ := ih s hs
      simp only [List.foldl_cons, hq]
      refine ⟨h1, fun a => ?_⟩
      rw [if_neg (by simp), h2 a]
      by_cases he : x.val = a
      · subst he
        simp [hq]
      · simp [he]
theorem pset_lt (p : Nat → Bool) {n : Nat} (hn : n ≤ 8) (pre : List (Fin n)) : pset p pre < 256 := (pset_fold p hn pre 0 (by omega)).1
theorem pset_bits (p : Nat → Bool) {n : Nat} (hn : n ≤ 8) (a : Nat) : (pset p (List.finRange n)).testBit a = (decide (a < n) && p a) := by
  rw [pset, (pset_fold p hn (List.finRange n) 0 (by omega)).2 a]
  by_cases hq : p a = true
  · by_cases hl : a < n
    · have : ((List.finRange n).any fun x => decide (x.val = a) && p a) = true := List.any_eq_true.2 ⟨⟨a, hl⟩, List.mem_finRange _, by simp [hq]⟩
      rw [this]
      simp [hl, hq]
    · have : ((List.finRange n).any fun x => decide (x.val = a) && p a) = false := by
        rw [Bool.eq_false_iff]
        intro h
        obtain ⟨x, _, hx⟩ := List.any_eq_true.1 h
        simp at hx
        have := x.isLt
        omega
      rw [this]
      simp [hl]
  · simp [hq]
theorem pset_all (p : Nat → Bool) {n : Nat} (hn : n ≤ 8) : elI (pset p (List.finRange n)) = selI p n := elI_sel hn fun a _ => pset_bits p hn a

end Go.Proofs.Ytfnjpbjlikajbaa
