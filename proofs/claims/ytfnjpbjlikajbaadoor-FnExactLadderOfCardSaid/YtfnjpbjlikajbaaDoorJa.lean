/- Numbers of circles: powers and their sums, kernels and images, the circles themselves. -/
import Derived.Test.YtfnjpbjlikajbaaDoorFx
namespace Go.Proofs.YtfnjpbjlikajbaaDoor
open Go.RowKit

/-- The rest of u^k by m. -/
def pwm (m u : Nat) : Nat → Nat
  | 0 => 1 % m
  | k + 1 => pwm m u k * u % m
theorem pwm_eq (m u : Nat) : ∀ k, pwm m u k = u ^ k % m
  | 0 => rfl
  | k + 1 => by rw [pwm, pwm_eq m u k, Nat.pow_succ, Nat.mod_mul_mod]
theorem pwm_lt {m : Nat} (u : Nat) (hm : 0 < m) (k : Nat) : pwm m u k < m := by rw [pwm_eq]; exact Nat.mod_lt _ hm

/-- The sum of the first k of them. -/
def pws (m u : Nat) : Nat → Nat
  | 0 => 0
  | k + 1 => pws m u k + pwm m u k
theorem pws_le {m : Nat} (u : Nat) (hm : 0 < m) : ∀ k, pws m u k ≤ k * m
  | 0 => Nat.zero_le _
  | k + 1 => by
    have h1 := pws_le u hm k
    have h2 := pwm_lt u hm k
    rw [pws, Nat.succ_mul]
    omega
/-- .. as the program makes it. -/
def hrn (m u : Nat) : Nat → Nat
  | 0 => 0
  | k + 1 => (hrn m u k * u + 1) % m
def gsm (u : Nat) : Nat → Nat
  | 0 => 0
  | k + 1 => gsm u k + u ^ k
theorem gsm_step (u : Nat) : ∀ k, gsm u (k + 1) = gsm u k * u + 1
  | 0 => by simp [gsm]
  | k + 1 => by
    show gsm u (k + 1) + u ^ (k + 1) = (gsm u k + u ^ k) * u + 1
    rw [gsm_step u k, Nat.pow_succ, Nat.add_mul]
    omega
theorem pws_mod (m u : Nat) : ∀ k, pws m u k % m = gsm u k % m
  | 0 => rfl
  | k + 1 => by rw [pws, gsm, pwm_eq, Nat.add_mod, pws_mod m u k, Nat.mod_mod, ← Nat.add_mod]
theorem hrn_mod (m u : Nat) : ∀ k, hrn m u k = gsm u k % m
  | 0 => by simp [hrn, gsm]
  | k + 1 => by
    rw [gsm_step, hrn, hrn_mod m u k, Nat.add_mod, Nat.mod_mul_mod, ← Nat.add_mod]
theorem hrn_eq (m u k : Nat) : hrn m u k = pws m u k % m := by rw [hrn_mod, pws_mod]
theorem hrn_lt {m : Nat} (u : Nat) (hm : 0 < m) (k : Nat) : hrn m u k < m := by rw [hrn_eq]; exact Nat.mod_lt _ hm

theorem bezI (a b : Nat) : ∃ x y : Int, ((Nat.gcd a b : Nat) : Int) = a * x + b * y := by
  refine Nat.gcd.induction (P := fun a b => ∃ x y : Int, ((Nat.gcd a b : Nat) : Int) = a * x + b * y) a b (fun n => ⟨0, 1, by simp⟩) (fun m n _ ih => ?_)
  obtain ⟨x, y, h⟩ := ih
  refine ⟨y - (n / m : Nat) * x, x, ?_⟩
  rw [Nat.gcd_rec m n, h]
  have hd : (n : Int) = (m : Int) * ((n / m : Nat) : Int) + ((n % m : Nat) : Int) := by
    have := Nat.div_add_mod n m
    omega
  generalize ((n / m : Nat) : Int) = q at *
  generalize ((n % m : Nat) : Int) = r at *
  rw [hd, Int.mul_sub, Int.add_mul, Int.mul_assoc]
  omega

/-- The image of c: the multiples of the greatest common divisor. -/
theorem image_iff {m c x : Nat} (hx : x < m) : (∃ y, y < m ∧ c * y % m = x) ↔ Nat.gcd m c ∣ x := by
  constructor
  · rintro ⟨y, -, rfl⟩
    exact (Nat.dvd_mod_iff (Nat.gcd_dvd_left m c)).2 (Nat.dvd_mul_right_of_dvd (Nat.gcd_dvd_right m c) y)
  · rintro ⟨t, rfl⟩
    obtain ⟨p, q, hb⟩ := bezI m c
    have hm : (0 : Int) < (m : Int) := by omega
    have hm0 : (m : Int) ≠ 0 := by omega
    have h0 := Int.emod_nonneg (q * t) hm0
    have h1 := Int.emod_lt_of_pos (q * t) hm
    refine ⟨((q * t) % (m : Int)).toNat, by omega, ?_⟩
    have hz : (((q * t) % (m : Int)).toNat : Int) = (q * t) % (m : Int) := Int.toNat_of_nonneg h0
    have e : ((c * ((q * t) % (m : Int)).toNat % m : Nat) : Int) = ((Nat.gcd m c * t : Nat) : Int) := by
      rw [Int.natCast_emod, Int.natCast_mul, hz, Int.mul_emod, Int.emod_emod, ← Int.mul_emod]
      have hs : (c : Int) * (q * t) = ((Nat.gcd m c * t : Nat) : Int) + (m : Int) * (-(p * t)) := by
        rw [Int.natCast_mul, hb, Int.add_mul, Int.mul_assoc, Int.mul_assoc, Int.mul_neg]
        omega
      rw [hs, Int.add_mul_emod_self_left]
      exact Int.emod_eq_of_lt (by omega) (by omega)
    exact Int.ofNat.inj e

/-- The kernel of c: the multiples of m by the greatest common divisor. -/
theorem kernel_iff {m c x : Nat} (hm : 0 < m) : c * x % m = 0 ↔ m / Nat.gcd m c ∣ x := by
  have hg : 0 < Nat.gcd m c := Nat.gcd_pos_of_pos_left _ hm
  obtain ⟨a, ha⟩ := Nat.gcd_dvd_left m c
  obtain ⟨b, hb⟩ := Nat.gcd_dvd_right m c
  have hda : m / Nat.gcd m c = a := by
    have := Nat.mul_div_cancel_left a hg
    rw [← ha] at this
    exact this
  have hdb : c / Nat.gcd m c = b := by
    have := Nat.mul_div_cancel_left b hg
    rw [← hb] at this
    exact this
  have hco : Nat.Coprime a b := by
    have := Nat.coprime_div_gcd_div_gcd hg
    rw [hda, hdb] at this
    exact this
  rw [hda]
  generalize Nat.gcd m c = g at *
  subst ha hb
  constructor
  · intro h
    have h1 : g * a ∣ g * b * x := Nat.dvd_of_mod_eq_zero h
    rw [Nat.mul_assoc] at h1
    exact hco.dvd_of_dvd_mul_left (Nat.dvd_of_mul_dvd_mul_left hg h1)
  · rintro ⟨t, rfl⟩
    refine Nat.mod_eq_zero_of_dvd ⟨b * t, ?_⟩
    simp only [Nat.mul_left_comm, Nat.mul_comm]

theorem mults_succ_yes {d x : Nat} (hd : 0 < d) (h : d ∣ x) : mults d (x + 1) = mults d x ++ [(x : Int)] := by
  obtain ⟨q, rfl⟩ := h
  have h1 : (d * q + 1 + d - 1) / d = q + 1 := by
    rw [show d * q + 1 + d - 1 = d * (q + 1) by rw [Nat.mul_succ]; omega, Nat.mul_div_cancel_left _ hd]
  have h2 : (d * q + d - 1) / d = q := by
    rw [show d * q + d - 1 = (d - 1) + d * q by omega, Nat.add_mul_div_left _ _ hd, Nat.div_eq_of_lt (by omega), Nat.zero_add]
  rw [mults, mults, h1, h2, List.range_succ, List.map_append]
  rfl
theorem mults_succ_no {d x : Nat} (hd : 0 < d) (h : ¬ d ∣ x) : mults d (x + 1) = mults d x := by
  have hr : 0 < x % d := Nat.pos_of_ne_zero fun h0 => h (Nat.dvd_of_mod_eq_zero h0)
  have hl := Nat.mod_lt x hd
  have hx := Nat.div_add_mod x d
  have h1 : (x + 1 + d - 1) / d = x / d + 1 := by
    rw [show x + 1 + d - 1 = x + d by omega, Nat.add_div_right _ hd]
  have h2 : (x + d - 1) / d = x / d + 1 := by
    rw [show x + d - 1 = (x - 1) + d by omega, Nat.add_div_right _ hd]
    have : (x - 1) / d = x / d := by
      have e : x - 1 = (x % d - 1) + d * (x / d) := by omega
      rw [e, Nat.add_mul_div_left _ _ hd, Nat.div_eq_of_lt (by omega), Nat.zero_add]
    rw [this]
  rw [mults, mults, h1, h2]
theorem mults_zero {d : Nat} (hd : 0 < d) : mults d 0 = [] := by
  rw [mults, show 0 + d - 1 = d - 1 by omega, Nat.div_eq_of_lt (by omega)]
  rfl

/-- Are three numbers a circle? -/
def circB (n m u : Int) : Bool := (inB n 1 60 && inB m 2 200) && (unitB m u && (pwm m.toNat u.toNat n.toNat == 1))
theorem circB_iff {n m u : Int} : circB n m u = true ↔ (1 ≤ n ∧ n ≤ 60) ∧ (2 ≤ m ∧ m ≤ 200) ∧ unitB m u = true ∧ pwm m.toNat u.toNat n.toNat = 1 := by
  simp [circB, inB, and_assoc]
theorem circB_no {n m u : Int} (h : ¬ ((1 ≤ n ∧ n ≤ 60) ∧ (2 ≤ m ∧ m ≤ 200) ∧ unitB m u = true ∧ pwm m.toNat u.toNat n.toNat = 1)) : circB n m u = false := by
  cases hq : circB n m u
  · rfl
  · exact absurd (circB_iff.1 hq) h
theorem circ_of {n m u : Int} (h : circB n m u = true) : ∃ N M U : Nat, n = (N : Int) ∧ m = (M : Int) ∧ u = (U : Int) ∧ 1 ≤ N ∧ N ≤ 60 ∧ 2 ≤ M ∧ M ≤ 200 ∧ 1 ≤ U ∧ U < M ∧ Nat.gcd M U = 1 ∧ pwm M U N = 1 := by
  obtain ⟨hn, hm, hu, hp⟩ := circB_iff.1 h
  obtain ⟨h1, h2, h3⟩ := unitB_iff.1 hu
  exact ⟨n.toNat, m.toNat, u.toNat, by omega, by omega, by omega, by omega, by omega, by omega, by omega, by omega, by omega, h3, hp⟩

end Go.Proofs.YtfnjpbjlikajbaaDoor
