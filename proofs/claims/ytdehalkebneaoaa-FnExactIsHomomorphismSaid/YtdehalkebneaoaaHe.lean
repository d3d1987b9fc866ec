/- IsHomomorphism: both contracts in one form. -/
import Derived.Test.YtdehalkebneaoaaHm
import Derived.Test.YtdehalkebneaoaaCv
namespace Go.Proofs.Ytdehalkebneaoaa
open Go.RowKit

noncomputable def qIsHomomorphism0 (t u : List (List Int)) (xs : List Int) : Bool := (homR t u xs).1
noncomputable def qIsHomomorphism1 (t u : List (List Int)) (xs : List Int) : Int := (homR t u xs).2

theorem specIsHomomorphism_ex (t0 t1 : List (List Int)) (t2 : List Int) : ∀ (B0 : Option Addr) (d0 : Nat) (B1 : Option Addr) (d1 : Nat) (B2 : Option Addr) (d2 : Nat) (W : World), RwsW W B0 t0 → RwsW W B1 t1 → IntsW W B2 t2 → SmallT t0 → SmallT t1 → t2.length ≤ 1048576 →
    Calls Try.prog 15 #[.agg #[.slice B0 t0.length d0], .agg #[.slice B1 t1.length d1], .slice B2 t2.length d2] W fun e W' => e = .returned (.tuple #[.bool (qIsHomomorphism0 t0 t1 t2), .int .i64 (qIsHomomorphism1 t0 t1 t2)]) ∧ Ex W W' := by
  intro B0 d0 B1 d1 B2 d2 W h0 h1 h2 s0 s1 s2
  exact specIsHom_any B0 B1 B2 t0 t1 t2 d0 d1 d2 _ _ _ W h0.rws h1.rws h2.ints (Nat.le_refl _) (Nat.le_refl _) (Nat.le_refl _) s0.1 s0.2 s1.1 s1.2 s2

theorem implIsHomomorphism_ex (t0 t1 : List (List Int)) (t2 : List Int) : ∀ (B0 : Option Addr) (d0 : Nat) (B1 : Option Addr) (d1 : Nat) (B2 : Option Addr) (d2 : Nat) (W : World), RwsW W B0 t0 → RwsW W B1 t1 → IntsW W B2 t2 → SmallT t0 → SmallT t1 → t2.length ≤ 1048576 →
    Calls Try.prog 18 #[.agg #[.slice B0 t0.length d0], .agg #[.slice B1 t1.length d1], .slice B2 t2.length d2] W fun e W' => e = .returned (.tuple #[.bool (qIsHomomorphism0 t0 t1 t2), .int .i64 (qIsHomomorphism1 t0 t1 t2)]) ∧ Ex W W' := by
  intro B0 d0 B1 d1 B2 d2 W h0 h1 h2 s0 s1 s2
  exact implIsHom_any B0 B1 B2 t0 t1 t2 d0 d1 d2 _ _ _ W h0.rws h1.rws h2.ints (Nat.le_refl _) (Nat.le_refl _) (Nat.le_refl _) s0.1 s0.2 s1.1 s1.2 s2

end Go.Proofs.Ytdehalkebneaoaa
