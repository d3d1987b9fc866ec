/- The divisor of the differences, and multiples below a number. -/
import Derived.Test.YtfnjpbjlikajbaaMdl
import Derived.Test.YtfnjpbjlikajbaaBa
namespace Go.Proofs.Ytfnjpbjlikajbaa
open Go.RowKit

/-- The greatest common divisor of M and of the first k units less 1. -/
def dvs (M : Nat) (us : List Int) : Nat → Nat
  | 0 => M
  | k + 1 => Nat.gcd (dvs M us k) (im us k - 1)
theorem dvs_pos {M : Nat} {us : List Int} (h : 0 < M) : ∀ k, 0 < dvs M us k
  | 0 => h
  | k + 1 => Nat.gcd_pos_of_pos_left _ (dvs_pos h k)
theorem dvs_le {M : Nat} {us : List Int} (h : 0 < M) : ∀ k, dvs M us k ≤ M
  | 0 => Nat.le_refl _
  | k + 1 => Nat.le_trans (Nat.gcd_le_left _ (dvs_pos h k)) (dvs_le h k)
theorem dvs_dvd {M : Nat} {us : List Int} : ∀ k, dvs M us k ∣ M
  | 0 => Nat.dvd_refl _
  | k + 1 => Nat.dvd_trans (Nat.gcd_dvd_left _ _) (dvs_dvd k)

/-- All multiples of d from 0 on that are less than M. -/
def mults (d M : Nat) : List Int := (List.range ((M + d - 1) / d)).map fun k => ((d * k : Nat) : Int)
theorem mults_lt {d M k : Nat} (hd : 0 < d) : d * k < M ↔ k < (M + d - 1) / d := by
  rw [Nat.lt_iff_add_one_le, Nat.lt_iff_add_one_le, Nat.le_div_iff_mul_le hd, Nat.add_mul, Nat.one_mul, Nat.mul_comm k d]
  omega
theorem mults_len (d M : Nat) : (mults d M).length = (M + d - 1) / d := by simp [mults]

set_option maxRecDepth 100000 in
set_option maxHeartbeats 1000000 in
theorem multiplesBelow_any (d M : Nat) (w : World) (hd : 0 < d) (hd12 : d ≤ 12) (hM : 0 < M) (hM12 : M ≤ 12) :
    Calls Try.prog 42 #[.int .i64 (d : Int), .int .i64 (M : Int)] w fun e w' => ∃ A' c', e = .returned (.slice A' (mults d M).length c') ∧ Below w.heap.size w w' ∧ OwnI w' w.heap.size A' (mults d M) := by
  obtain ⟨i0, hi, hi0, hi1, hi2⟩ := info_parts infoI
  have hK0 : 0 < (M + d - 1) / d := Nat.div_pos (by omega) hd
  obtain ⟨K, hK⟩ : ∃ K, (M + d - 1) / d = K := ⟨_, rfl⟩
  have hKM : K ≤ 24 := by rw [← hK]; exact Nat.le_trans (Nat.div_le_self _ _) (by omega)
  have hlt : ∀ k, d * k < M ↔ k < K := fun k => by rw [← hK]; exact mults_lt hd
  have HLT := Lib.hid hlt
  have HML : Hid (mults d M = (List.range K).map fun k => ((d * k : Nat) : Int)) := by
    show mults d M = _
    rw [← hK]
    rfl
  rw [hK] at hK0
  clear hK hlt
  go_enter Try.func42, Try.ntmps42
  go_wp2_with fail
  go_loopw [5, 6] (fun out i wr => ∃ k : Nat, k ≤ K ∧ i = .int .i64 ((d * k : Nat) : Int) ∧ wr.ownsRow w.heap.size 2 1 out k (((List.range k).map fun a => ((d * a : Nat) : Int)).map fun x => .int .i64 x) ∧ Below w.heap.size w wr) (fun _ i _ => M - (intOf i).toNat)
  case atStart => exact ⟨0, by omega, by simp, ⟨rfl, .inl ⟨rfl, rfl⟩⟩, Below.refl _ _⟩
  case round =>
    obtain ⟨k, hk, rfl, hown, hb⟩ := hrel
    have HOWN := Lib.hid hown
    have HB := Lib.hid hb
    have hzr := hb.size
    have hnx : d * (k + 1) = d * k + d := Nat.mul_succ d k
    clear hown hb
    by_cases hlk : d * k < M
    · have hkK := (HLT.out k).1 hlk
      have hdc : decide (((d * k : Nat) : Int) < (M : Int)) = true := by simp only [decide_eq_true_eq]; omega
      have HNX := Lib.hid hnx
      obtain ⟨y, hy⟩ : ∃ y, d * k = y := ⟨_, rfl⟩
      have HY := Lib.hid hy
      rw [hy] at hdc hlk
      rw [hy]
      clear hy hnx
      go_wp2_with (at_builtin; refine wpList_append_own _ rfl _ _ 27 rfl w.heap.size 2 i0 (.int .i64 0) 1 8 Try.underlying27 hi hi0 hi1 hi2 rfl (by decide) _ _ _ rfl (HOWN.out.alloc _) ⟨wr.heap.size, 0, none⟩ 1 1 [.int .i64 (y : Int)] rfl rfl (cell_one_new _ _ _) (by simp [Value.oneCell']) (by unfold maxLen; omega) (by omega) (by simp; omega) ?_; intro v' w3 hown3 hgrow3 _)
      refine ⟨?rel, ?measure⟩
      case rel =>
        refine ⟨k + 1, by omega, by rw [HNX.out, HY.out]; go_num, ?_, (HB.out.alloc hzr _).grown hgrow3 (by simp; omega) (fun k' hk' => (HOWN.out.lt k' hk').1)⟩
        rw [List.range_succ, List.map_append, List.map_append]
        simp only [List.map_cons, List.map_nil, HY.out]
        exact hown3
      case measure => simp [intOf]; omega
    · have hkK : k = K := by
        have := mt (HLT.out k).2 hlk
        omega
      subst hkK
      have hdc : decide (((d * k : Nat) : Int) < (M : Int)) = false := by simp only [decide_eq_false_iff_not]; omega
      obtain ⟨y, hy⟩ : ∃ y, d * k = y := ⟨_, rfl⟩
      rw [hy] at hdc hlk
      rw [hy]
      clear hy hnx
      have hown2 := HOWN.out
      have hp : 0 < wr.heap.size := by
        rcases hown2.2 with ⟨_, h0⟩ | ⟨g, cap, cur, _, _, hh, _⟩
        · omega
        · exact Nat.lt_of_le_of_lt (Nat.zero_le _) (Array.getElem?_eq_some_iff.1 hh).1
      obtain ⟨A', c', rfl, hO⟩ := own_ints hown2 (by simp) hzr hp
      have hO' := hO (.inr (by simp; exact hK0))
      have HO := Lib.hid hO'
      clear hO hO' hown2 HOWN
      go_wp2_with fail
      go_ret
      rw [HML.out]
      exact ⟨A', c', by simp, HB.out, HO.out⟩

end Go.Proofs.Ytfnjpbjlikajbaa
