/- ClassOfCrossed: both contracts. -/
import Derived.Test.YtfafccldngekgaaKr
import Derived.Test.YtfafccldngekgaaSy
namespace Go.Proofs.Ytfafccldngekgaa
open Go.RowKit Go.Shelf

theorem sortSaid : SortSaid := fun b n cap cs A R C w hn hB hcs hR hL => sortRows_any b n cap cs A R C w hn hB hcs hR hL
theorem implClassOfCrossed_ex (t0 : List (List Int)) (m1 : Int) (t1 : List Int) (t2 : List Int) : ∀ (B0 : Option Addr) (d0 : Nat) (B1 : Option Addr) (d1 : Nat) (B2 : Option Addr) (d2 : Nat) (W : World), RwsW W B0 t0 → IntsW W B1 t1 → IntsW W B2 t2 → SmallT t0 → t1.length ≤ 1048576 → t2.length ≤ 1048576 →
    Calls Try.prog 53 #[.agg #[.slice B0 t0.length d0], .agg #[.int .i64 m1, .slice B1 t1.length d1], .slice B2 t2.length d2] W fun e W' => ∃ (C0 : Option Addr) (e0 : Nat), e = .returned (.tuple #[.slice C0 (yClassOfCrossed0 t0 m1 t1 t2).length e0, .int .i64 (qClassOfCrossed1 t0 m1 t1 t2)]) ∧ Ex W W' ∧ OwnL W' W.heap.size W'.heap.size C0 (yClassOfCrossed0 t0 m1 t1 t2) :=
  implClassOfCrossed_of sortSaid t0 m1 t1 t2

end Go.Proofs.Ytfafccldngekgaa
