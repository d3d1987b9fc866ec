/- RestrictModule: the contract of the specification. -/
import Derived.Test.YtdehalkebneaoaaRs0
import Derived.Test.YtdehalkebneaoaaRs1
import Derived.Test.YtdehalkebneaoaaRs2
import Derived.Test.YtdehalkebneaoaaRs3
namespace Go.Proofs.Ytdehalkebneaoaa
open Go.RowKit

theorem specRestrictModule_ex (t0 t1 : List (List Int)) (t2 : List Int) (m3 : Int) (t3 : List Int) : ∀ (B0 : Option Addr) (d0 : Nat) (B1 : Option Addr) (d1 : Nat) (B2 : Option Addr) (d2 : Nat) (B3 : Option Addr) (d3 : Nat) (W : World), RwsW W B0 t0 → RwsW W B1 t1 → IntsW W B2 t2 → IntsW W B3 t3 → SmallT t0 → SmallT t1 → t2.length ≤ 1048576 → t3.length ≤ 1048576 →
    Calls Try.prog 40 #[.agg #[.slice B0 t0.length d0], .agg #[.slice B1 t1.length d1], .slice B2 t2.length d2, .agg #[.int .i64 m3, .slice B3 t3.length d3]] W fun e W' => ∃ (C0 : Option Addr) (e0 : Nat), e = .returned (.tuple #[.agg #[.int .i64 (qRestrictModule0 t0 t1 t2 m3 t3), .slice C0 (yRestrictModule0 t0 t1 t2 m3 t3).length e0], .int .i64 (qRestrictModule1 t0 t1 t2 m3 t3)]) ∧ Ex W W' ∧ OwnL W' W.heap.size W'.heap.size C0 (yRestrictModule0 t0 t1 t2 m3 t3) := by
  intro B0 d0 B1 d1 B2 d2 B3 d3 w hR hR' hX hY hs hs' hx hy
  cases hgt : grpB t0 with
  | false => exact specRs_t t0 t1 t2 m3 t3 B0 d0 B1 d1 B2 d2 B3 d3 w hR hR' hX hY hs hs' hx hy hgt
  | true =>
    cases hgm : gmB t1 m3 t3 with
    | false => exact specRs_m t0 t1 t2 m3 t3 B0 d0 B1 d1 B2 d2 B3 d3 w hR hR' hX hY hs hs' hx hy hgt hgm
    | true =>
      by_cases hlen : t2.length = t0.length
      · cases hin : inRB t1.length t2 with
        | false => exact specRs_r t0 t1 t2 m3 t3 B0 d0 B1 d1 B2 d2 B3 d3 w hR hR' hX hY hs hs' hx hy hgt hgm hlen hin
        | true =>
          cases hhb : homB t0 t1 t2 with
          | false => exact specRs_h t0 t1 t2 m3 t3 B0 d0 B1 d1 B2 d2 B3 d3 w hR hR' hX hY hs hs' hx hy hgt hgm hlen hin hhb
          | true => exact specRs_y t0 t1 t2 m3 t3 B0 d0 B1 d1 B2 d2 B3 d3 w hR hR' hX hY hs hs' hx hy hgt hgm hlen hin hhb
      · exact specRs_l t0 t1 t2 m3 t3 B0 d0 B1 d1 B2 d2 B3 d3 w hR hR' hX hY hs hs' hx hy hgt hgm hlen

end Go.Proofs.Ytdehalkebneaoaa
