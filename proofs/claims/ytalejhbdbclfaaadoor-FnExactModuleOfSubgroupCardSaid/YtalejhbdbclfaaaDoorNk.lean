/- IsNormal: both contracts. -/
import Derived.Test.YtalejhbdbclfaaaDoorNi
import Derived.Test.YtalejhbdbclfaaaDoorSb
namespace Go.Proofs.YtalejhbdbclfaaaDoor
open Go.RowKit Go.Shelf

attribute [local go_sem] Oper.semAt_some

noncomputable def qIsNormal0 (t : List (List Int)) (xs : List Int) : Bool := if setC t xs = 0 ∧ subB t (bitsK xs xs.length) = true then norB t (bitsK xs xs.length) else false
noncomputable def qIsNormal1 (t : List (List Int)) (xs : List Int) : Int := if setC t xs = 0 then (if subB t (bitsK xs xs.length) = true then 0 else 5) else setC t xs
section
variable {t : List (List Int)} {xs : List Int}
theorem nk_err {k : Int} (h : setC t xs = k) (hk : k ≠ 0) : qIsNormal0 t xs = false ∧ qIsNormal1 t xs = k := by simp [qIsNormal0, qIsNormal1, h, hk]
theorem nk_state (h : setC t xs = 0) (h2 : subB t (bitsK xs xs.length) = false) : qIsNormal0 t xs = false ∧ qIsNormal1 t xs = 5 := by simp [qIsNormal0, qIsNormal1, h, h2]
theorem nk_yes (h : setC t xs = 0) (h2 : subB t (bitsK xs xs.length) = true) : qIsNormal0 t xs = norB t (bitsK xs xs.length) ∧ qIsNormal1 t xs = 0 := by simp [qIsNormal0, qIsNormal1, h, h2]
end

end Go.Proofs.YtalejhbdbclfaaaDoor
