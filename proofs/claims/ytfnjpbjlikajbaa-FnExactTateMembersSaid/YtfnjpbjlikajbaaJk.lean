/- All units of a circle, both sides; multiples below a number of at most 200. -/
import Derived.Test.YtfnjpbjlikajbaaJj
namespace Go.Proofs.Ytfnjpbjlikajbaa
open Go.RowKit

set_option maxRecDepth 100000 in
set_option maxHeartbeats 1000000 in
theorem multiplesBelow_big (d M : Nat) (w : World) (hd : 0 < d) (hd12 : d ≤ 200) (hM : 0 < M) (hM12 : M ≤ 200) :
    Calls Try.prog 42 #[.int .i64 (d : Int), .int .i64 (M : Int)] w fun e w' => ∃ A' c', e = .returned (.slice A' (mults d M).length c') ∧ Below w.heap.size w w' ∧ OwnI w' w.heap.size A' (mults d M) := by
  obtain ⟨i0, hi, hi0, hi1, hi2⟩ := info_parts infoI
  have hK0 : 0 < (M + d - 1) / d := Nat.div_pos (by omega) hd
  obtain ⟨K, hK⟩ : ∃ K, (M + d - 1) / d = K := ⟨_, rfl⟩
  have hKM : K ≤ 400 := by rw [← hK]; exact Nat.le_trans (Nat.div_le_self _ _) (by omega)
  have hlt : ∀ k, d * k < M ↔ k < K := fun k => by rw [← hK]; exact mults_lt hd
  have HLT := Lib.hid hlt
  have HML : Hid (mults d M = (List.range K).map fun k => ((d * k : Nat) : Int)) := by
    show mults d M = _
    rw [← hK]
    rfl
  rw [hK] at hK0
  clear hK hlt
  go_enter Try.func42, Try.ntmps42
  go_wp2_with fail
  go_loopw [5, 6] (fun out i wr => ∃ k : Nat, k ≤ K ∧ i = .int .i64 ((d * k : Nat) : Int) ∧ wr.ownsRow w.heap.size 2 1 out k (((List.range k).map fun a => ((d * a : Nat) : Int)).map fun x => .int .i64 x) ∧ Below w.heap.size w wr) (fun _ i _ => M - (intOf i).toNat)
  case atStart => exact ⟨0, by omega, by simp, ⟨rfl, .inl ⟨rfl, rfl⟩⟩, Below.refl _ _⟩
  case round =>
    obtain ⟨k, hk, rfl, hown, hb⟩ := hrel
    have HOWN := Lib.hid hown
    have HB := Lib.hid hb
    have hzr := hb.size
    have hnx : d * (k + 1) = d * k + d := Nat.mul_succ d k
    clear hown hb
    by_cases hlk : d * k < M
    · have hkK := (HLT.out k).1 hlk
      have hdc : decide (((d * k : Nat) : Int) < (M : Int)) = true := by simp only [decide_eq_true_eq]; omega
      have HNX := Lib.hid hnx
      obtain ⟨y, hy⟩ : ∃ y, d * k = y := ⟨_, rfl⟩
      have HY := Lib.hid hy
      rw [hy] at hdc hlk
      rw [hy]
      clear hy hnx
      go_wp2_with (at_builtin; refine wpList_append_own _ rfl _ _ 27 rfl w.heap.size 2 i0 (.int .i64 0) 1 8 Try.underlying27 hi hi0 hi1 hi2 rfl (by decide) _ _ _ rfl (HOWN.out.alloc _) ⟨wr.heap.size, 0, none⟩ 1 1 [.int .i64 (y : Int)] rfl rfl (cell_one_new _ _ _) (by simp [Value.oneCell']) (by unfold maxLen; omega) (by omega) (by simp; omega) ?_; intro v' w3 hown3 hgrow3 _)
      refine ⟨?rel, ?measure⟩
      case rel =>
        refine ⟨k + 1, by omega, by rw [HNX.out, HY.out]; go_num, ?_, (HB.out.alloc hzr _).grown hgrow3 (by simp; omega) (fun k' hk' => (HOWN.out.lt k' hk').1)⟩
        rw [List.range_succ, List.map_append, List.map_append]
        simp only [List.map_cons, List.map_nil, HY.out]
        exact hown3
      case measure => simp [intOf]; omega
    · have hkK : k = K := by
        have := mt (HLT.out k).2 hlk
        omega
      subst hkK
      have hdc : decide (((d * k : Nat) : Int) < (M : Int)) = false := by simp only [decide_eq_false_iff_not]; omega
      obtain ⟨y, hy⟩ : ∃ y, d * k = y := ⟨_, rfl⟩
      rw [hy] at hdc hlk
      rw [hy]
      clear hy hnx
      have hown2 := HOWN.out
      have hp : 0 < wr.heap.size := by
        rcases hown2.2 with ⟨_, h0⟩ | ⟨g, cap, cur, _, _, hh, _⟩
        · omega
        · exact Nat.lt_of_le_of_lt (Nat.zero_le _) (Array.getElem?_eq_some_iff.1 hh).1
      obtain ⟨A', c', rfl, hO⟩ := own_ints hown2 (by simp) hzr hp
      have hO' := hO (.inr (by simp; exact hK0))
      have HO := Lib.hid hO'
      clear hO hO' hown2 HOWN
      go_wp2_with fail
      go_ret
      rw [HML.out]
      exact ⟨A', c', by simp, HB.out, HO.out⟩

/-- The numbers below k that make a circle. -/
def unL (n m : Int) : Nat → List Int
  | 0 => []
  | k + 1 => unL n m k ++ if circB n m (k : Int) = true then [(k : Int)] else []
theorem unL_yes {n m : Int} {k : Nat} (h : circB n m (k : Int) = true) : unL n m (k + 1) = unL n m k ++ [(k : Int)] := by rw [unL, if_pos h]
theorem unL_no {n m : Int} {k : Nat} (h : circB n m (k : Int) = false) : unL n m (k + 1) = unL n m k := by rw [unL, h]; simp
theorem unL_one (n m : Int) : unL n m 1 = [] := unL_no (circB_no fun h => by have := (unitB_iff.1 h.2.2.1).1; omega)
theorem unL_len (n m : Int) : ∀ k, (unL n m k).length ≤ k
  | 0 => Nat.le_refl _
  | k + 1 => by
    have := unL_len n m k
    rw [unL, List.length_append]
    split <;> simp <;> omega
/-- May a circle have these turns and this modulus? -/
def okU (n m : Int) : Bool := inB n 1 60 && inB m 2 200
theorem pwm_one {m : Nat} (hm : 2 ≤ m) : ∀ k, pwm m 1 k = 1
  | 0 => Nat.mod_eq_of_lt (by omega)
  | k + 1 => by rw [pwm, pwm_one hm k]; exact Nat.mod_eq_of_lt (by omega)
theorem okU_eq (n m : Int) : circB n m 1 = okU n m := by
  cases h : okU n m
  · exact circB_no fun hc => by
      have : okU n m = true := by
        rw [okU, inB_of hc.1.1 hc.1.2, inB_of hc.2.1.1 hc.2.1.2]; rfl
      rw [h] at this
      cases this
  · have h2 := h
    simp only [okU, Bool.and_eq_true] at h2
    obtain ⟨a1, a2⟩ := inB_true h2.1
    obtain ⟨b1, b2⟩ := inB_true h2.2
    refine circB_iff.2 ⟨⟨a1, a2⟩, ⟨b1, b2⟩, unitB_iff.2 ⟨by omega, by omega, by simp⟩, ?_⟩
    exact pwm_one (by omega) _

noncomputable def yUnitsOfCircle0 (n m : Int) : List Int := if okU n m = true then unL n m m.toNat else []
noncomputable def qUnitsOfCircle1 (n m : Int) : Int := if okU n m = true then 0 else 2
theorem unitsOfCircle_small0 (n m : Int) : (yUnitsOfCircle0 n m).length ≤ 1048576 := by
  unfold yUnitsOfCircle0
  split
  · rename_i h
    simp only [okU, Bool.and_eq_true] at h
    have := inB_true h.2
    have := unL_len n m m.toNat
    omega
  · simp

set_option maxRecDepth 100000 in
set_option maxHeartbeats 2000000 in
theorem implUnitsOfCircle_ex (m0 m1 : Int) : ∀ (W : World), Calls Try.prog 25 #[.int .i64 m0, .int .i64 m1] W fun e W' => ∃ (C0 : Option Addr) (e0 : Nat), e = .returned (.tuple #[.slice C0 (yUnitsOfCircle0 m0 m1).length e0, .int .i64 (qUnitsOfCircle1 m0 m1)]) ∧ Ex W W' ∧ OwnL W' W.heap.size W'.heap.size C0 (yUnitsOfCircle0 m0 m1) := by
  intro w
  have hi1 := implIsCircle_ex m0 m1 1 w
  have hq : qIsCircle0 m0 m1 1 = okU m0 m1 := okU_eq m0 m1
  rw [hq] at hi1
  have H1 := Lib.hid hi1
  clear hi1 hq
  cases hc : okU m0 m1 with
  | false =>
    have HQ : Hid (yUnitsOfCircle0 m0 m1 = [] ∧ qUnitsOfCircle1 m0 m1 = 2) := Lib.hid (by simp [yUnitsOfCircle0, qUnitsOfCircle1, hc])
    rw [hc] at H1
    clear hc
    go_enter Try.func25, Try.ntmps25
    go_wp2_with fail
    refine H1.out.mono ?_
    rintro e w1 ⟨rfl, he⟩
    go_wp2_with fail
    go_ret2
    refine ⟨none, 0, by rw [HQ.out.1, HQ.out.2]; rfl, he, ?_⟩
    rw [HQ.out.1]
    exact OwnL.nil _ _ _ (Nat.le_refl _)
  | true =>
    obtain ⟨i0, hi, hz0, hz1, hz2⟩ := info_parts infoI
    have hcm := hc
    simp only [okU, Bool.and_eq_true] at hcm
    obtain ⟨b1, b2⟩ := inB_true hcm.2
    obtain ⟨M, rfl⟩ : ∃ M : Nat, m1 = (M : Int) := ⟨m1.toNat, by omega⟩
    have HQ : Hid (yUnitsOfCircle0 m0 (M : Int) = unL m0 (M : Int) M ∧ qUnitsOfCircle1 m0 (M : Int) = 0) := Lib.hid (by simp [yUnitsOfCircle0, qUnitsOfCircle1, hc])
    have HCON := Lib.hid (fun (k : Nat) W => implIsCircle_ex m0 (M : Int) (k : Int) W)
    rw [hc] at H1
    clear hc hcm
    go_enter Try.func25, Try.ntmps25
    go_wp2_with fail
    refine H1.out.mono ?_
    rintro e w1 ⟨rfl, he1⟩
    have HE1 := Lib.hid he1
    clear he1
    go_wp2_with fail
    go_loopw [6, 13] (fun out i wr => ∃ k : Nat, k ≤ M ∧ i = .int .i64 (k : Int) ∧ Hid (GrowI wr w.heap.size out (unL m0 (M : Int) k).length (unL m0 (M : Int) k)) ∧ Hid (Ex w wr)) (fun _ i _ => M - (intOf i).toNat)
    case atStart => exact ⟨0, by omega, rfl, Lib.hid (GrowI.nil _ _), HE1⟩
    case round =>
      obtain ⟨k, hk, rfl, HG, HE⟩ := hrel
      by_cases hlt : k < M
      · have hcon := HCON.out k wr
        cases hcb : circB m0 (M : Int) (k : Int) with
        | false =>
          have hcon2 : Calls Try.prog 12 #[.int .i64 m0, .int .i64 (M : Int), .int .i64 (k : Int)] wr fun e W' => e = .returned (.bool false) ∧ Ex wr W' := hcb ▸ hcon
          have HU := Lib.hid (unL_no hcb)
          have HC2 := Lib.hid hcon2
          clear hcon hcon2 hcb
          go_wp2_with fail
          refine HC2.out.mono ?_
          rintro e w2 ⟨rfl, he2⟩
          go_wp2_with fail
          go_roundw
          case rel => exact ⟨k + 1, by omega, by go_num, by rw [HU.out]; exact Lib.hid (HG.out.ex he2), Lib.hid (HE.out.trans he2)⟩
          case measure => simp [intOf]; omega
        | true =>
          have hcon2 : Calls Try.prog 12 #[.int .i64 m0, .int .i64 (M : Int), .int .i64 (k : Int)] wr fun e W' => e = .returned (.bool true) ∧ Ex wr W' := hcb ▸ hcon
          have HU := Lib.hid (unL_yes hcb)
          have HC2 := Lib.hid hcon2
          have hln := unL_len m0 (M : Int) k
          clear hcon hcon2 hcb
          go_wp2_with fail
          refine HC2.out.mono ?_
          rintro e w2 ⟨rfl, he2⟩
          have HE2 := Lib.hid (HE.out.trans he2)
          have HG2 := Lib.hid (HG.out.ex he2)
          clear he2
          have HG3 := Lib.hid (HG2.out.ex (Ex.new w2 (.cells #[.int .i64 (k : Int)] 2)))
          have HE3 := Lib.hid (HE2.out.alloc (.cells #[.int .i64 (k : Int)] 2))
          go_wp2_with (at_builtin; refine wpList_append_own _ rfl _ _ 27 rfl w.heap.size 2 i0 (.int .i64 0) 1 8 Try.underlying27 hi hz0 hz1 hz2 rfl (by decide) _ _ _ rfl (HG2.out.1.alloc _) ⟨w2.heap.size, 0, none⟩ 1 1 [.int .i64 (k : Int)] rfl rfl (cell_one_new _ _ _) (by simp [Value.oneCell']) (by unfold maxLen; omega) (by omega) (by have := HE2.out.size; simp; omega) ?_; intro v' w3 hown3 hgrow3 _)
          refine ⟨?rel, ?measure⟩
          case rel => exact ⟨k + 1, by omega, by go_num, by rw [HU.out, List.length_append]; exact Lib.hid (HG3.out.snoc hown3), Lib.hid (Ex.grew HE3.out HG3.out (Nat.le_refl _) hgrow3)⟩
          case measure => simp [intOf]; omega
      · obtain rfl : k = M := by omega
        obtain ⟨A, c, rfl, hO⟩ := HG.out.own
        have HO := Lib.hid hO
        clear hO HG
        go_wp2_with fail
        go_ret2
        refine ⟨A, c, by rw [HQ.out.1, HQ.out.2]; rfl, HE.out, ?_⟩
        rw [HQ.out.1]
        exact HO.out

set_option maxRecDepth 100000 in
set_option maxHeartbeats 2000000 in
theorem specUnitsOfCircle_ex (m0 m1 : Int) : ∀ (W : World), Calls Try.prog 24 #[.int .i64 m0, .int .i64 m1] W fun e W' => ∃ (C0 : Option Addr) (e0 : Nat), e = .returned (.tuple #[.slice C0 (yUnitsOfCircle0 m0 m1).length e0, .int .i64 (qUnitsOfCircle1 m0 m1)]) ∧ Ex W W' ∧ OwnL W' W.heap.size W'.heap.size C0 (yUnitsOfCircle0 m0 m1) := by
  intro w
  have H1 := Lib.hid (l01In_ex m0 1 60 w)
  have H2 := Lib.hid (l01In_ex m1 2 200 w)
  cases h1 : inB m0 1 60 with
  | false =>
    have HQ : Hid (yUnitsOfCircle0 m0 m1 = [] ∧ qUnitsOfCircle1 m0 m1 = 2) := Lib.hid (by simp [yUnitsOfCircle0, qUnitsOfCircle1, okU, h1])
    rw [h1] at H1
    clear h1
    go_enter Try.func24, Try.ntmps24
    go_wp2_with fail
    refine H1.out.mono ?_
    rintro e w1 ⟨rfl, rfl⟩
    go_wp2_with fail
    go_ret2
    refine ⟨none, 0, by rw [HQ.out.1, HQ.out.2]; rfl, Ex.refl _, ?_⟩
    rw [HQ.out.1]
    exact OwnL.nil _ _ _ (Nat.le_refl _)
  | true =>
  rw [h1] at H1
  cases h2 : inB m1 2 200 with
  | false =>
    have HQ : Hid (yUnitsOfCircle0 m0 m1 = [] ∧ qUnitsOfCircle1 m0 m1 = 2) := Lib.hid (by simp [yUnitsOfCircle0, qUnitsOfCircle1, okU, h2])
    rw [h2] at H2
    clear h1 h2
    go_enter Try.func24, Try.ntmps24
    go_wp2_with fail
    refine H1.out.mono ?_
    rintro e w1 ⟨rfl, rfl⟩
    go_wp2_with fail
    refine H2.out.mono ?_
    rintro e w2 ⟨rfl, rfl⟩
    go_wp2_with fail
    go_ret2
    refine ⟨none, 0, by rw [HQ.out.1, HQ.out.2]; rfl, Ex.refl _, ?_⟩
    rw [HQ.out.1]
    exact OwnL.nil _ _ _ (Nat.le_refl _)
  | true =>
    rw [h2] at H2
    obtain ⟨i0, hi, hz0, hz1, hz2⟩ := info_parts infoI
    obtain ⟨b1, b2⟩ := inB_true h2
    obtain ⟨M, rfl⟩ : ∃ M : Nat, m1 = (M : Int) := ⟨m1.toNat, by omega⟩
    have HQ : Hid (yUnitsOfCircle0 m0 (M : Int) = unL m0 (M : Int) M ∧ qUnitsOfCircle1 m0 (M : Int) = 0) := Lib.hid (by simp [yUnitsOfCircle0, qUnitsOfCircle1, okU, h1, h2])
    have HCON := Lib.hid (fun (k : Nat) W => specIsCircle_w m0 (M : Int) (k : Int) W)
    have HS1 : Hid (GrowI (w.alloc (.cells #[] 2)) w.heap.size (.slice (some ⟨w.heap.size, 0, none⟩) 0 0) (unL m0 (M : Int) 1).length (unL m0 (M : Int) 1)) := Lib.hid (by rw [unL_one]; exact GrowI.empty w (Nat.le_refl _))
    have HES := Lib.hid (Ex.new w (.cells #[] 2))
    clear h1 h2
    go_enter Try.func24, Try.ntmps24
    go_wp2_with fail
    refine H1.out.mono ?_
    rintro e w1 ⟨rfl, rfl⟩
    go_wp2_with fail
    refine H2.out.mono ?_
    rintro e w2 ⟨rfl, rfl⟩
    go_wp2_with fail
    go_loopw [6, 7] (fun out i wr => ∃ k : Nat, 1 ≤ k ∧ k ≤ M ∧ i = .int .i64 (k : Int) ∧ Hid (GrowI wr w.heap.size out (unL m0 (M : Int) k).length (unL m0 (M : Int) k)) ∧ Hid (Ex w wr)) (fun _ i _ => M - (intOf i).toNat)
    case atStart => exact ⟨1, by omega, by omega, rfl, HS1, HES⟩
    case round =>
      obtain ⟨k, hk1, hk, rfl, HG, HE⟩ := hrel
      by_cases hlt : k < M
      · have hcon := HCON.out k wr
        cases hcb : circB m0 (M : Int) (k : Int) with
        | false =>
          have HU := Lib.hid (unL_no hcb)
          rw [hcb] at hcon
          have HC2 := Lib.hid hcon
          clear hcon hcb
          go_wp2_with fail
          refine HC2.out.mono ?_
          rintro e w4 ⟨rfl, rfl⟩
          go_wp2_with fail
          go_roundw
          case rel => exact ⟨k + 1, by omega, by omega, by go_num, by rw [HU.out]; exact HG, HE⟩
          case measure => simp [intOf]; omega
        | true =>
          have HU := Lib.hid (unL_yes hcb)
          have hln := unL_len m0 (M : Int) k
          rw [hcb] at hcon
          have HC2 := Lib.hid hcon
          clear hcon hcb
          go_wp2_with fail
          refine HC2.out.mono ?_
          rintro e w4 ⟨rfl, rfl⟩
          have HG3 := Lib.hid (HG.out.ex (Ex.new w4 (.cells #[.int .i64 (k : Int)] 2)))
          have HE3 := Lib.hid (HE.out.alloc (.cells #[.int .i64 (k : Int)] 2))
          go_wp2_with (at_builtin; refine wpList_append_own _ rfl _ _ 27 rfl w.heap.size 2 i0 (.int .i64 0) 1 8 Try.underlying27 hi hz0 hz1 hz2 rfl (by decide) _ _ _ rfl (HG.out.1.alloc _) ⟨w4.heap.size, 0, none⟩ 1 1 [.int .i64 (k : Int)] rfl rfl (cell_one_new _ _ _) (by simp [Value.oneCell']) (by unfold maxLen; omega) (by omega) (by have := HE.out.size; simp; omega) ?_; intro v' w3 hown3 hgrow3 _)
          refine ⟨?rel, ?measure⟩
          case rel => exact ⟨k + 1, by omega, by omega, by go_num, by rw [HU.out, List.length_append]; exact Lib.hid (HG3.out.snoc hown3), Lib.hid (Ex.grew HE3.out HG3.out (Nat.le_refl _) hgrow3)⟩
          case measure => simp [intOf]; omega
      · obtain rfl : k = M := by omega
        obtain ⟨A, c, rfl, hO⟩ := HG.out.own
        have HO := Lib.hid hO
        clear hO HG
        go_wp2_with fail
        go_ret2
        refine ⟨A, c, by rw [HQ.out.1, HQ.out.2]; rfl, HE.out, ?_⟩
        rw [HQ.out.1]
        exact HO.out

end Go.Proofs.Ytfnjpbjlikajbaa
