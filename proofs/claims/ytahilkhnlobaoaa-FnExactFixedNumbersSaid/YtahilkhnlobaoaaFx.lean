/- The divisor of the differences, and multiples below a number. -/
import Derived.Test.YtahilkhnlobaoaaMi
import Derived.Test.YtahilkhnlobaoaaGcd
import Derived.Test.YtahilkhnlobaoaaOwn
namespace Go.Proofs.Ytahilkhnlobaoaa
open Go.RowKit

/-- The greatest common divisor of M and of the first k units less 1. -/
def dvs (M : Nat) (us : List Int) : Nat → Nat
  | 0 => M
  | k + 1 => Nat.gcd (dvs M us k) (im us k - 1)
theorem dvs_pos {M : Nat} {us : List Int} (h : 0 < M) : ∀ k, 0 < dvs M us k
  | 0 => h
  | k + 1 => Nat.gcd_pos_of_pos_left _ (dvs_pos h k)
theorem dvs_le {M : Nat} {us : List Int} (h : 0 < M) : ∀ k, dvs M us k ≤ M
  | 0 => Nat.le_refl _
  | k + 1 => Nat.le_trans (Nat.gcd_le_left _ (dvs_pos h k)) (dvs_le h k)
theorem dvs_dvd {M : Nat} {us : List Int} : ∀ k, dvs M us k ∣ M
  | 0 => Nat.dvd_refl _
  | k + 1 => Nat.dvd_trans (Nat.gcd_dvd_left _ _) (dvs_dvd k)

/-- All multiples of d from 0 on that are less than M. -/
def mults (d M : Nat) : List Int := (List.range ((M + d - 1) / d)).map fun k => ((d * k : Nat) : Int)
theorem mults_lt {d M k : Nat} (hd : 0 < d) : d * k < M ↔ k < (M + d - 1) / d := by
  rw [Nat.lt_iff_add_one_le, Nat.lt_iff_add_one_le, Nat.le_div_iff_mul_le hd, Nat.add_mul, Nat.one_mul, Nat.mul_comm k d]
  omega
theorem mults_len (d M : Nat) : (mults d M).length = (M + d - 1) / d := by simp [mults]

set_option maxHeartbeats 1000000 in
theorem l02Step_any (M : Nat) (b o c' : Nat) (us : List Int) (w : World) (hX : ∀ k, k < us.length → w.cell? ⟨b, o + k, none⟩ = some (.int .i64 (nth us k))) (hb : b < w.heap.size) (hu : unitsB (M : Int) us = true) (hM : 0 < M) (hM12 : M ≤ 12) (hl : us.length ≤ 8) :
    Calls Try.prog 117 #[.agg #[.int .i64 (M : Int), .slice (some ⟨b, o, none⟩) us.length c']] w fun e w' => e = .returned (.int .i64 (dvs M us us.length : Int)) ∧ Below w.heap.size w w' := by
  have hb0 : Below w.heap.size w (w.alloc (.cells #[.int .i64 (M : Int), .slice (some ⟨b, o, none⟩) us.length c'] 29)) := (Below.refl _ _).alloc (Nat.le_refl _) _
  have h0 := Has.new w 29 #[.int .i64 (M : Int), .slice (some ⟨b, o, none⟩) us.length c']
  have hc0 := h0.cell 0
  have hc1 := h0.cell 1
  have hX0 : ∀ k, k < us.length → (w.alloc (.cells #[.int .i64 (M : Int), .slice (some ⟨b, o, none⟩) us.length c'] 29)).cell? ⟨b, o + k, none⟩ = some (.int .i64 (nth us k)) := fun k hk => (hb0.cell (p := ⟨b, o + k, none⟩) hb).trans (hX k hk)
  have HX := Lib.hid hX0
  have HU := Lib.hid (unitsB_iff.1 hu)
  have HIN := Lib.hid (units_inR hu (by omega))
  clear hX hX0 hu
  go_enter Try.func117, Try.ntmps117
  go_wp2_with fail
  go_loop [3, 4] (fun d i => ∃ k : Nat, k ≤ us.length ∧ d = .int .i64 (dvs M us k : Int) ∧ i = .int .i64 k) (fun _ i => us.length - (intOf i).toNat)
  case atStart => exact ⟨0, by omega, rfl, rfl⟩
  case round =>
    obtain ⟨k, hk, rfl, rfl⟩ := hrel
    by_cases hlt : k < us.length
    · obtain ⟨ek, rk⟩ := im_eq HIN.out hlt
      simp only [Int.toNat_natCast] at rk
      have hu1 := (unitB_iff.1 (HU.out k hlt)).1
      have hxk := HX.out k hlt
      rw [ek] at hxk hu1
      have hdl := dvs_le (us := us) hM k
      have hs : ((im us k : Int) - 1) = ((im us k - 1 : Nat) : Int) := by omega
      have hcon := l01Gcd_any (dvs M us k) (im us k - 1) (w.alloc (.cells #[.int .i64 (M : Int), .slice (some ⟨b, o, none⟩) us.length c'] 29)) (by omega) (by omega)
      obtain ⟨z, hz⟩ : ∃ z, dvs M us (k + 1) = z := ⟨_, rfl⟩
      have hz' : Nat.gcd (dvs M us k) (im us k - 1) = z := hz
      rw [hz', ← hs] at hcon
      have HCON := Lib.hid hcon
      have HZ := Lib.hid hz
      clear ek hz hz' hs hcon
      generalize dvs M us k = d at *
      generalize im us k = u at *
      go_wp2_with fail
      refine HCON.out.mono ?_
      rintro e w' ⟨rfl, rfl⟩
      go_wp2_with fail
      go_round
      case rel => exact ⟨k + 1, by omega, by rw [HZ.out], by go_num⟩
      case measure => simp [intOf]; omega
    · have hkk : k = us.length := by omega
      subst hkk
      go_wp2_with fail
      go_ret
      exact ⟨rfl, hb0⟩

set_option maxHeartbeats 1000000 in
theorem differenceDivisor_any (M : Nat) (b o c' : Nat) (us : List Int) (w : World) (hX : ∀ k, k < us.length → w.cell? ⟨b, o + k, none⟩ = some (.int .i64 (nth us k))) (hb : b < w.heap.size) (hu : unitsB (M : Int) us = true) (hM : 0 < M) (hM12 : M ≤ 12) (hl : us.length ≤ 8) :
    Calls Try.prog 119 #[.agg #[.int .i64 (M : Int), .slice (some ⟨b, o, none⟩) us.length c']] w fun e w' => e = .returned (.int .i64 (dvs M us us.length : Int)) ∧ Below w.heap.size w w' := by
  have hb0 : Below w.heap.size w (w.alloc (.cells #[.int .i64 (M : Int), .slice (some ⟨b, o, none⟩) us.length c'] 29)) := (Below.refl _ _).alloc (Nat.le_refl _) _
  have h0 := Has.new w 29 #[.int .i64 (M : Int), .slice (some ⟨b, o, none⟩) us.length c']
  have hc0 := h0.cell 0
  have hc1 := h0.cell 1
  have hX0 : ∀ k, k < us.length → (w.alloc (.cells #[.int .i64 (M : Int), .slice (some ⟨b, o, none⟩) us.length c'] 29)).cell? ⟨b, o + k, none⟩ = some (.int .i64 (nth us k)) := fun k hk => (hb0.cell (p := ⟨b, o + k, none⟩) hb).trans (hX k hk)
  have HX := Lib.hid hX0
  have HU := Lib.hid (unitsB_iff.1 hu)
  have HIN := Lib.hid (units_inR hu (by omega))
  clear hX hX0 hu
  go_enter Try.func119, Try.ntmps119
  go_wp2_with fail
  generalize (w.alloc (.cells #[.int .i64 (M : Int), .slice (some ⟨b, o, none⟩) us.length c'] 29)) = W at *
  go_loopw [3, 11] (fun d i wr => ∃ k : Nat, k ≤ us.length ∧ d = .int .i64 (dvs M us k : Int) ∧ i = .int .i64 k ∧ Drawn W wr) (fun _ i _ => us.length - (intOf i).toNat)
  case atStart => exact ⟨0, by omega, rfl, rfl, Drawn.refl _⟩
  case round =>
    obtain ⟨k, hk, rfl, rfl, hd⟩ := hrel
    have HD := Lib.hid hd
    by_cases hlt : k < us.length
    · obtain ⟨ek, rk⟩ := im_eq HIN.out hlt
      simp only [Int.toNat_natCast] at rk
      have hu1 := (unitB_iff.1 (HU.out k hlt)).1
      have hxk := (hd.cell ⟨b, o + k, none⟩).trans (HX.out k hlt)
      rw [ek] at hxk hu1
      have hdl := dvs_le (us := us) hM k
      have hs : ((im us k : Int) - 1) = ((im us k - 1 : Nat) : Int) := by omega
      have hcon := commonDivisor_any (dvs M us k) (im us k - 1) wr (by omega) (by omega)
      obtain ⟨z, hz⟩ : ∃ z, dvs M us (k + 1) = z := ⟨_, rfl⟩
      have hz' : Nat.gcd (dvs M us k) (im us k - 1) = z := hz
      rw [hz', ← hs] at hcon
      have HCON := Lib.hid hcon
      have HZ := Lib.hid hz
      clear ek hz hz' hs hcon hd hc0 hc1
      generalize dvs M us k = d at *
      generalize im us k = u at *
      go_wp2_with fail
      refine HCON.out.mono ?_
      rintro e w2 ⟨rfl, hd2⟩
      have HD2 := Lib.hid (HD.out.trans hd2)
      clear hd2
      go_wp2_with fail
      go_roundw
      case rel => exact ⟨k + 1, by omega, by rw [HZ.out], by go_num, HD2.out⟩
      case measure => simp [intOf]; omega
    · have hkk : k = us.length := by omega
      subst hkk
      clear hd
      go_wp2_with fail
      go_ret
      exact ⟨rfl, hb0.trans (HD.out.below _)⟩

set_option maxRecDepth 100000 in
set_option maxHeartbeats 1000000 in
theorem l02Multiples_any (d M : Nat) (w : World) (hd : 0 < d) (hd12 : d ≤ 12) (hM : 0 < M) (hM12 : M ≤ 12) :
    Calls Try.prog 116 #[.int .i64 (d : Int), .int .i64 (M : Int)] w fun e w' => ∃ A' c', e = .returned (.slice A' (mults d M).length c') ∧ Below w.heap.size w w' ∧ OwnI w' w.heap.size A' (mults d M) := by
  obtain ⟨i0, hi, hi0, hi1, hi2⟩ := info_parts infoI
  have hown0 := own_empty w w.heap.size 2 (Nat.le_refl _)
  have hb0 : Below w.heap.size w (w.alloc (.cells #[] 2)) := (Below.refl _ _).alloc (Nat.le_refl _) _
  have hK0 : 0 < (M + d - 1) / d := Nat.div_pos (by omega) hd
  obtain ⟨K, hK⟩ : ∃ K, (M + d - 1) / d = K := ⟨_, rfl⟩
  have hKM : K ≤ 24 := by rw [← hK]; exact Nat.le_trans (Nat.div_le_self _ _) (by omega)
  have hlt : ∀ k, d * k < M ↔ k < K := fun k => by rw [← hK]; exact mults_lt hd
  have HLT := Lib.hid hlt
  have HML : Hid (mults d M = (List.range K).map fun k => ((d * k : Nat) : Int)) := by
    show mults d M = _
    rw [← hK]
    rfl
  rw [hK] at hK0
  clear hK hlt
  go_enter Try.func116, Try.ntmps116
  go_wp2_with fail
  go_loopw [5, 6] (fun out i wr => ∃ k : Nat, k ≤ K ∧ i = .int .i64 ((d * k : Nat) : Int) ∧ wr.ownsRow w.heap.size 2 1 out k (((List.range k).map fun a => ((d * a : Nat) : Int)).map fun x => .int .i64 x) ∧ Below w.heap.size w wr ∧ w.heap.size < wr.heap.size) (fun _ i _ => M - (intOf i).toNat)
  case atStart => exact ⟨0, by omega, by simp, hown0, hb0, by simp⟩
  case round =>
    obtain ⟨k, hk, rfl, hown, hb, hsz⟩ := hrel
    have HOWN := Lib.hid hown
    have HB := Lib.hid hb
    have hzr := hb.size
    have hnx : d * (k + 1) = d * k + d := Nat.mul_succ d k
    clear hown hb
    by_cases hlk : d * k < M
    · have hkK := (HLT.out k).1 hlk
      have hdc : decide (((d * k : Nat) : Int) < (M : Int)) = true := by simp only [decide_eq_true_eq]; omega
      have HNX := Lib.hid hnx
      obtain ⟨y, hy⟩ : ∃ y, d * k = y := ⟨_, rfl⟩
      have HY := Lib.hid hy
      rw [hy] at hdc hlk
      rw [hy]
      clear hy hnx
      go_wp2_with (at_builtin; refine wpList_append_own _ rfl _ _ 27 rfl w.heap.size 2 i0 (.int .i64 0) 1 8 Try.underlying27 hi hi0 hi1 hi2 rfl (by decide) _ _ _ rfl (HOWN.out.alloc _) ⟨wr.heap.size, 0, none⟩ 1 1 [.int .i64 (y : Int)] rfl rfl (cell_one_new _ _ _) (by simp [Value.oneCell']) (by unfold maxLen; omega) (by omega) (by simp; omega) ?_; intro v' w3 hown3 hgrow3 _)
      refine ⟨?rel, ?measure⟩
      case rel =>
        refine ⟨k + 1, by omega, by rw [HNX.out, HY.out]; go_num, ?_, (HB.out.alloc hzr _).grown hgrow3 (by simp; omega) (fun k' hk' => (HOWN.out.lt k' hk').1), by have := hgrow3.size; simp at this; omega⟩
        rw [List.range_succ, List.map_append, List.map_append]
        simp only [List.map_cons, List.map_nil, HY.out]
        exact hown3
      case measure => simp [intOf]; omega
    · have hkK : k = K := by
        have := mt (HLT.out k).2 hlk
        omega
      subst hkK
      have hdc : decide (((d * k : Nat) : Int) < (M : Int)) = false := by simp only [decide_eq_false_iff_not]; omega
      obtain ⟨y, hy⟩ : ∃ y, d * k = y := ⟨_, rfl⟩
      rw [hy] at hdc hlk
      rw [hy]
      clear hy hnx
      have hown2 := HOWN.out
      obtain ⟨A', c', rfl, hO⟩ := own_ints hown2 (by simp) hzr (by omega)
      have hO' := hO (.inr (by simp; exact hK0))
      have HO := Lib.hid hO'
      clear hO hO' hown2 HOWN
      go_wp2_with fail
      go_ret
      rw [HML.out]
      exact ⟨A', c', by simp, HB.out, HO.out⟩

set_option maxRecDepth 100000 in
set_option maxHeartbeats 1000000 in
theorem multiplesBelow_any (d M : Nat) (w : World) (hd : 0 < d) (hd12 : d ≤ 12) (hM : 0 < M) (hM12 : M ≤ 12) :
    Calls Try.prog 118 #[.int .i64 (d : Int), .int .i64 (M : Int)] w fun e w' => ∃ A' c', e = .returned (.slice A' (mults d M).length c') ∧ Below w.heap.size w w' ∧ OwnI w' w.heap.size A' (mults d M) := by
  obtain ⟨i0, hi, hi0, hi1, hi2⟩ := info_parts infoI
  have hK0 : 0 < (M + d - 1) / d := Nat.div_pos (by omega) hd
  obtain ⟨K, hK⟩ : ∃ K, (M + d - 1) / d = K := ⟨_, rfl⟩
  have hKM : K ≤ 24 := by rw [← hK]; exact Nat.le_trans (Nat.div_le_self _ _) (by omega)
  have hlt : ∀ k, d * k < M ↔ k < K := fun k => by rw [← hK]; exact mults_lt hd
  have HLT := Lib.hid hlt
  have HML : Hid (mults d M = (List.range K).map fun k => ((d * k : Nat) : Int)) := by
    show mults d M = _
    rw [← hK]
    rfl
  rw [hK] at hK0
  clear hK hlt
  go_enter Try.func118, Try.ntmps118
  go_wp2_with fail
  go_loopw [5, 6] (fun out i wr => ∃ k : Nat, k ≤ K ∧ i = .int .i64 ((d * k : Nat) : Int) ∧ wr.ownsRow w.heap.size 2 1 out k (((List.range k).map fun a => ((d * a : Nat) : Int)).map fun x => .int .i64 x) ∧ Below w.heap.size w wr) (fun _ i _ => M - (intOf i).toNat)
  case atStart => exact ⟨0, by omega, by simp, ⟨rfl, .inl ⟨rfl, rfl⟩⟩, Below.refl _ _⟩
  case round =>
    obtain ⟨k, hk, rfl, hown, hb⟩ := hrel
    have HOWN := Lib.hid hown
    have HB := Lib.hid hb
    have hzr := hb.size
    have hnx : d * (k + 1) = d * k + d := Nat.mul_succ d k
    clear hown hb
    by_cases hlk : d * k < M
    · have hkK := (HLT.out k).1 hlk
      have hdc : decide (((d * k : Nat) : Int) < (M : Int)) = true := by simp only [decide_eq_true_eq]; omega
      have HNX := Lib.hid hnx
      obtain ⟨y, hy⟩ : ∃ y, d * k = y := ⟨_, rfl⟩
      have HY := Lib.hid hy
      rw [hy] at hdc hlk
      rw [hy]
      clear hy hnx
      go_wp2_with (at_builtin; refine wpList_append_own _ rfl _ _ 27 rfl w.heap.size 2 i0 (.int .i64 0) 1 8 Try.underlying27 hi hi0 hi1 hi2 rfl (by decide) _ _ _ rfl (HOWN.out.alloc _) ⟨wr.heap.size, 0, none⟩ 1 1 [.int .i64 (y : Int)] rfl rfl (cell_one_new _ _ _) (by simp [Value.oneCell']) (by unfold maxLen; omega) (by omega) (by simp; omega) ?_; intro v' w3 hown3 hgrow3 _)
      refine ⟨?rel, ?measure⟩
      case rel =>
        refine ⟨k + 1, by omega, by rw [HNX.out, HY.out]; go_num, ?_, (HB.out.alloc hzr _).grown hgrow3 (by simp; omega) (fun k' hk' => (HOWN.out.lt k' hk').1)⟩
        rw [List.range_succ, List.map_append, List.map_append]
        simp only [List.map_cons, List.map_nil, HY.out]
        exact hown3
      case measure => simp [intOf]; omega
    · have hkK : k = K := by
        have := mt (HLT.out k).2 hlk
        omega
      subst hkK
      have hdc : decide (((d * k : Nat) : Int) < (M : Int)) = false := by simp only [decide_eq_false_iff_not]; omega
      obtain ⟨y, hy⟩ : ∃ y, d * k = y := ⟨_, rfl⟩
      rw [hy] at hdc hlk
      rw [hy]
      clear hy hnx
      have hown2 := HOWN.out
      have hp : 0 < wr.heap.size := by
        rcases hown2.2 with ⟨_, h0⟩ | ⟨g, cap, cur, _, _, hh, _⟩
        · omega
        · exact Nat.lt_of_le_of_lt (Nat.zero_le _) (Array.getElem?_eq_some_iff.1 hh).1
      obtain ⟨A', c', rfl, hO⟩ := own_ints hown2 (by simp) hzr hp
      have hO' := hO (.inr (by simp; exact hK0))
      have HO := Lib.hid hO'
      clear hO hO' hown2 HOWN
      go_wp2_with fail
      go_ret
      rw [HML.out]
      exact ⟨A', c', by simp, HB.out, HO.out⟩

end Go.Proofs.Ytahilkhnlobaoaa
