/- Orders of elements, of the program and of the specification. -/
import Derived.Test.YtdehalkebneaoaaDoorPrd
import Derived.Test.YtdehalkebneaoaaDoorAlg
import Derived.Test.YtdehalkebneaoaaDoorOwn
namespace Go.Proofs.YtdehalkebneaoaaDoor
open Go.RowKit

theorem SqT.mul_ {w : World} {B b o : Nat} {bb oo C : Nat → Nat} {t : List (List Int)} (h : SqT w B b o bb oo C t) (hg : IsGrp t) {i j : Nat} (hi : i < t.length) (hj : j < t.length) :
    w.cell? ⟨bb i, oo i + j, none⟩ = some (.int .i64 (mul t i j : Int)) := by
  rw [h.ent_ hi hj, hg.ent hi hj]

/-- The orders of all elements, none where there is no group; and the code. -/
noncomputable def ordersR (t : List (List Int)) : List Int := if grpB t then (List.range t.length).map fun a => (ord t a : Int) else []
noncomputable def codeR (t : List (List Int)) : Int := if grpB t then 0 else 1

end Go.Proofs.YtdehalkebneaoaaDoor
