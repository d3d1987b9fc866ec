/- The divisor of the differences, and multiples below a number. -/
import Derived.Test.YtfnjpbjlikajbaaDoorMdl
import Derived.Test.YtfnjpbjlikajbaaDoorBa
namespace Go.Proofs.YtfnjpbjlikajbaaDoor
open Go.RowKit

/-- The greatest common divisor of M and of the first k units less 1. -/
def dvs (M : Nat) (us : List Int) : Nat → Nat
  | 0 => M
  | k + 1 => Nat.gcd (dvs M us k) (im us k - 1)
theorem dvs_pos {M : Nat} {us : List Int} (h : 0 < M) : ∀ k, 0 < dvs M us k
  | 0 => h
  | k + 1 => Nat.gcd_pos_of_pos_left _ (dvs_pos h k)
theorem dvs_le {M : Nat} {us : List Int} (h : 0 < M) : ∀ k, dvs M us k ≤ M
  | 0 => Nat.le_refl _
  | k + 1 => Nat.le_trans (Nat.gcd_le_left _ (dvs_pos h k)) (dvs_le h k)
theorem dvs_dvd {M : Nat} {us : List Int} : ∀ k, dvs M us k ∣ M
  | 0 => Nat.dvd_refl _
  | k + 1 => Nat.dvd_trans (Nat.gcd_dvd_left _ _) (dvs_dvd k)

/-- All multiples of d from 0 on that are less than M. -/
def mults (d M : Nat) : List Int := (List.range ((M + d - 1) / d)).map fun k => ((d * k : Nat) : Int)
theorem mults_lt {d M k : Nat} (hd : 0 < d) : d * k < M ↔ k < (M + d - 1) / d := by
  rw [Nat.lt_iff_add_one_le, Nat.lt_iff_add_one_le, Nat.le_div_iff_mul_le hd, Nat.add_mul, Nat.one_mul, Nat.mul_comm k d]
  omega
theorem mults_len (d M : Nat) : (mults d M).length = (M + d - 1) / d := by simp [mults]

end Go.Proofs.YtfnjpbjlikajbaaDoor
