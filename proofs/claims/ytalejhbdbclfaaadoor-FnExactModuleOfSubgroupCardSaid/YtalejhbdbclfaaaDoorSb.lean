/- SubgroupOf: both contracts. -/
import Derived.Deep.RegionHeld3
import Derived.Test.YtalejhbdbclfaaaDoorCj
namespace Go.Proofs.YtalejhbdbclfaaaDoor
open Go.RowKit Go.Shelf

attribute [local go_sem] Oper.semAt_some

noncomputable def ySubgroupOf0 (t : List (List Int)) (xs : List Int) : List Int := if setC t xs = 0 then elI (clo t (bitsK xs xs.length ||| 1)) else []
noncomputable def qSubgroupOf1 (t : List (List Int)) (xs : List Int) : Int := setC t xs
theorem setC_cases (t : List (List Int)) (xs : List Int) : (grpB t = false ∧ setC t xs = 1) ∨ (grpB t = true ∧ setB t.length xs = false ∧ setC t xs = 2) ∨ (grpB t = true ∧ setB t.length xs = true ∧ setC t xs = 0) := by
  cases h : grpB t
  · exact .inl ⟨rfl, setC_no h⟩
  · cases h2 : setB t.length xs
    · exact .inr (.inl ⟨rfl, rfl, setC_out h h2⟩)
    · exact .inr (.inr ⟨rfl, rfl, setC_yes h h2⟩)
theorem sb_err {t : List (List Int)} {xs : List Int} {k : Int} (h : setC t xs = k) (hk : k ≠ 0) : ySubgroupOf0 t xs = [] ∧ qSubgroupOf1 t xs = k := by simp [ySubgroupOf0, qSubgroupOf1, h, hk]
theorem sb_yes {t : List (List Int)} {xs : List Int} (h : setC t xs = 0) : ySubgroupOf0 t xs = elI (clo t (bitsK xs xs.length ||| 1)) ∧ qSubgroupOf1 t xs = 0 := by simp [ySubgroupOf0, qSubgroupOf1, h]
theorem subgroupOf_small0 (t : List (List Int)) (xs : List Int) : (ySubgroupOf0 t xs).length ≤ 1048576 := by
  rcases setC_cases t xs with ⟨_, h⟩ | ⟨_, _, h⟩ | ⟨hg, hb, h⟩
  · rw [(sb_err h (by decide)).1]; simp
  · rw [(sb_err h (by decide)).1]; simp
  · rw [(sb_yes h).1, elI_len]
    have hgr := grpB_iff.1 hg
    have h1 := bitsK_lt (setB_true.1 hb).1 xs.length (Nat.le_refl _)
    have : (elN (clo t (bitsK xs xs.length ||| 1))).length ≤ 8 := elN_len _ (lt256 hgr.n8 (clo_lt hgr (or_lt (x := 0) h1 hgr.n1)))
    omega

end Go.Proofs.YtalejhbdbclfaaaDoor
