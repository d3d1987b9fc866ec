/- ImA ImB ImC in one text. -/
import Derived.Test.YtfnjpbjlikajbaaBa
/- The program's test for tables. -/
namespace Go.Proofs.Ytfnjpbjlikajbaa
open Go.RowKit

end Go.Proofs.Ytfnjpbjlikajbaa

/- The program's three tests behind the test for tables. -/
namespace Go.Proofs.Ytfnjpbjlikajbaa
open Go.RowKit Go.Shelf

attribute [local go_sem] Oper.semAt_some

/-- Is 0 a = a 0 = a at this element? -/
def KeepAt (t : List (List Int)) (a : Nat) : Prop := nth (row t 0) a = a ∧ nth (row t a) 0 = a

theorem keepB_true {t : List (List Int)} (h : ∀ x : Fin t.length, KeepAt t x.val) : keepB t = true := by
  simp only [keepB, decide_eq_true_eq]
  exact fun a ha => h ⟨a, ha⟩
theorem keepB_false {t : List (List Int)} (h : ∃ x : Fin t.length, ¬ KeepAt t x.val) : keepB t = false := by
  simp only [keepB, decide_eq_false_iff_not]
  obtain ⟨x, hx⟩ := h
  exact fun hk => hx (hk x.val x.isLt)

/-- The first 0 of the row of a is at an inverse. -/
def InvAt (t : List (List Int)) (a : Nat) : Prop := ∃ b, b < t.length ∧ nth (row t a) b = 0 ∧ (∀ c, c < b → nth (row t a) c ≠ 0) ∧ nth (row t b) a = 0
theorem invB_true {t : List (List Int)} (h : ∀ x : Fin t.length, InvAt t x.val) : invB t = true := by
  simp only [invB, decide_eq_true_eq]
  exact fun a ha => h ⟨a, ha⟩
theorem invB_false {t : List (List Int)} (h : ∃ x : Fin t.length, ¬ InvAt t x.val) : invB t = false := by
  simp only [invB, decide_eq_false_iff_not]
  obtain ⟨x, hx⟩ := h
  exact fun hk => hx (hk x.val x.isLt)

end Go.Proofs.Ytfnjpbjlikajbaa

/- The program's test for brackets: three loops in one another. -/
namespace Go.Proofs.Ytfnjpbjlikajbaa
open Go.RowKit Go.Shelf

attribute [local go_sem] Oper.semAt_some

/-- Do the products of three elements not depend on brackets? -/
def AssocAt (t : List (List Int)) (a b c : Nat) : Prop := nth (row t (nth (row t a) b).toNat) c = nth (row t a) (nth (row t b) c).toNat
theorem assocB_true {t : List (List Int)} (h : ∀ x y z : Fin t.length, AssocAt t x.val y.val z.val) : assocB t = true := by
  simp only [assocB, decide_eq_true_eq]
  exact fun a ha b hb c hc => h ⟨a, ha⟩ ⟨b, hb⟩ ⟨c, hc⟩
theorem assocB_false {t : List (List Int)} (h : ∃ x y z : Fin t.length, ¬ AssocAt t x.val y.val z.val) : assocB t = false := by
  simp only [assocB, decide_eq_false_iff_not]
  obtain ⟨x, y, z, hx⟩ := h
  exact fun hk => hx (hk x.val x.isLt y.val y.isLt z.val z.isLt)

end Go.Proofs.Ytfnjpbjlikajbaa
