/- Members and those that are nought, by the specification. -/
import Derived.Deep.DeepCutAuto
import Derived.Test.YtfnjpbjlikajbaaJk
import Derived.Test.YtfnjpbjlikajbaaRo
import Derived.Test.YtfnjpbjlikajbaaUf
namespace Go.Proofs.Ytfnjpbjlikajbaa
open Go.RowKit Go.Shelf

attribute [local go_sem] Oper.semAt_some

/-- The image of c is marked by its first k numbers. -/
noncomputable def imB (M c k : Nat) : Array Value := tab M fun x => .bool (decide (∃ y, y < k ∧ c * y % M = x))
theorem imB_put {M c k : Nat} (hM : 0 < M) : (imB M c k).setIfInBounds (c * k % M) (.bool true) = imB M c (k + 1) := by
  unfold imB
  rw [tab_set (Nat.mod_lt _ hM)]
  refine tab_congr fun x _ => ?_
  by_cases hx : x = c * k % M
  · rw [if_pos hx, decide_eq_true ⟨k, Nat.lt_succ_self k, hx.symm⟩]
  · rw [if_neg hx]
    congr 1
    refine decide_eq_decide.2 ⟨fun ⟨i, h, e⟩ => ⟨i, by omega, e⟩, fun ⟨i, h, e⟩ => ?_⟩
    rcases Nat.lt_or_eq_of_le (Nat.le_of_lt_succ h) with h | rfl
    · exact ⟨i, h, e⟩
    · exact absurd e.symm hx
theorem imB_get {M c x : Nat} (hx : x < M) : (imB M c M)[x]? = some (.bool (decide (Nat.gcd M c ∣ x))) := by
  rw [imB, tab_get hx]
  exact congrArg (fun b => some (Value.bool b)) (decide_eq_decide.2 (image_iff hx))
theorem mults_le (d : Nat) (hd : 0 < d) : ∀ x, (mults d x).length ≤ x
  | 0 => by rw [mults_zero hd]; simp
  | x + 1 => by
    have := mults_le d hd x
    by_cases h : d ∣ x
    · rw [mults_succ_yes hd h, List.length_append]; simp; omega
    · rw [mults_succ_no hd h]; omega

set_option maxRecDepth 100000 in
set_option maxHeartbeats 4000000 in
theorem l09Members_any (N M U : Nat) (d : Int) (w : World) (hM : 2 ≤ M) (hM2 : M ≤ 200) (hU1 : 1 ≤ U) (hU : U < M) (hN : N ≤ 60) (hd0 : -1000 ≤ d) (hd1 : d ≤ 1000) :
    Calls Try.prog 41 #[.int .i64 (N : Int), .int .i64 (M : Int), .int .i64 (U : Int), .int .i64 d] w fun e w' => ∃ A a B b, e = .returned (.tuple #[.slice A (mults (M / Nat.gcd M (tA M U N d)) M).length a, .slice B (mults (Nat.gcd M (tB M U N d)) M).length b]) ∧ Ex w w' ∧ OwnL w' w.heap.size w'.heap.size A (mults (M / Nat.gcd M (tA M U N d)) M) ∧ OwnL w' w.heap.size w'.heap.size B (mults (Nat.gcd M (tB M U N d)) M) := by
  obtain ⟨i0, hi, hz0, hz1, hz2⟩ := info_parts infoI
  have hmk := makeBool M (by omega)
  have HMP := Lib.hid (l09Maps_w N M U d w hM hM2 hU1 hU hN hd0 hd1)
  have hal := tA_le (N := N) d (show 0 < M by omega) hU
  have hbl := tB_le (N := N) d (show 0 < M by omega) hU
  have hg1 : 0 < Nat.gcd M (tA M U N d) := Nat.gcd_pos_of_pos_left _ (by omega)
  have hg2 : 0 < Nat.gcd M (tB M U N d) := Nat.gcd_pos_of_pos_left _ (by omega)
  have hg3 := Nat.gcd_le_left (tA M U N d) (show 0 < M by omega)
  have hk0 : 0 < M / Nat.gcd M (tA M U N d) := Nat.div_pos hg3 hg1
  obtain ⟨a, ha⟩ : ∃ a, tA M U N d = a := ⟨_, rfl⟩
  obtain ⟨b, hb⟩ : ∃ b, tB M U N d = b := ⟨_, rfl⟩
  rw [ha] at HMP hal hg1 hg3 hk0
  rw [hb] at HMP hbl hg2
  rw [ha, hb]
  have HKER := Lib.hid (fun x => kernel_iff (m := M) (c := a) (x := x) (by omega))
  have HIMG := Lib.hid (fun x (hx : x < M) => imB_get (M := M) (c := b) hx)
  have HIMP := Lib.hid (fun k => imB_put (M := M) (c := b) (k := k) (by omega))
  have HI0 : Hid (Has (w.alloc (.cells (tab M fun _ => .bool false) 4)) w.heap.size 4 (imB M b 0)) := Lib.hid (by
    have h := Has.new w 4 (tab M fun _ => .bool false)
    refine Eq.mp (congrArg (fun f => Has _ _ 4 f) (tab_congr fun y hy => ?_)) h
    simp)
  obtain ⟨p, hp⟩ : ∃ p, M / Nat.gcd M a = p := ⟨_, rfl⟩
  obtain ⟨q, hq⟩ : ∃ q, Nat.gcd M b = q := ⟨_, rfl⟩
  rw [hp] at HKER hk0
  rw [hq] at hg2
  rw [hp, hq]
  have hq' : Hid (Nat.gcd M b = q) := Lib.hid hq
  clear ha hb hp hq hg1 hg3
  go_enter Try.func41, Try.ntmps41
  go_wp2_with fail
  refine HMP.out.mono ?_
  rintro e w1 ⟨rfl, rfl⟩
  go_wp2_with fail
  have HX1 := Lib.hid (((Ex.refl w1).alloc (.cells (tab M fun _ => .bool false) 4)).alloc (.cells #[] 2) |>.alloc (.cells #[] 2))
  have HB1 : Hid (Has (((w1.alloc (.cells (tab M fun _ => .bool false) 4)).alloc (.cells #[] 2)).alloc (.cells #[] 2)) w1.heap.size 4 (imB M b 0)) := Lib.hid ((HI0.out.alloc _).alloc _)
  have HGA : Hid (GrowI (((w1.alloc (.cells (tab M fun _ => .bool false) 4)).alloc (.cells #[] 2)).alloc (.cells #[] 2)) w1.heap.size (.slice (some ⟨w1.heap.size + 1, 0, none⟩) 0 0) 0 []) := Lib.hid (by
    have h := GrowI.empty (lo := w1.heap.size) (w1.alloc (.cells (tab M fun _ => .bool false) 4)) (by simp)
    rw [World.size_alloc] at h
    exact h.ex (Ex.new _ _))
  have HGB : Hid (GrowI (((w1.alloc (.cells (tab M fun _ => .bool false) 4)).alloc (.cells #[] 2)).alloc (.cells #[] 2)) w1.heap.size (.slice (some ⟨w1.heap.size + 1 + 1, 0, none⟩) 0 0) 0 []) := Lib.hid (by
    have h := GrowI.empty (lo := w1.heap.size) ((w1.alloc (.cells (tab M fun _ => .bool false) 4)).alloc (.cells #[] 2)) (by simp; omega)
    rw [World.size_alloc, World.size_alloc] at h
    exact h)
  generalize ((w1.alloc (.cells (tab M fun _ => .bool false) 4)).alloc (.cells #[] 2)).alloc (.cells #[] 2) = W0 at *
  clear HI0 hmk
  go_loopw [15] (fun i wr => ∃ k : Nat, k ≤ M ∧ i = .int .i64 (k : Int) ∧ Hid (Ex w1 wr) ∧ Hid (Has wr w1.heap.size 4 (imB M b k)) ∧ Hid (GrowI wr w1.heap.size (.slice (some ⟨w1.heap.size + 1, 0, none⟩) 0 0) 0 []) ∧ Hid (GrowI wr w1.heap.size (.slice (some ⟨w1.heap.size + 1 + 1, 0, none⟩) 0 0) 0 [])) (fun i _ => M - (intOf i).toNat)
  case atStart => exact ⟨0, Nat.zero_le _, rfl, HX1, HB1, HGA, HGB⟩
  case round =>
    clear HX1 HB1 HGA HGB
    obtain ⟨k, hk, rfl, HE, HB, HA, HC⟩ := hrel
    by_cases hlt : k < M
    · have hax : b * k ≤ 40000 := mul_200 (by omega) (by omega)
      have hml := Nat.mod_lt (b * k) (show 0 < M by omega)
      have HP := Lib.hid (HIMP.out k)
      have hmz : IntKind.i64.wrap ((b : Int) * (k : Int)) = ((b * k : Nat) : Int) := by rw [← Int.natCast_mul]; exact IntWalk.i64_in _ (by omega)
      have hre : ((b : Int) * (k : Int)) % (M : Int) = ((b * k % M : Nat) : Int) := by simp
      have hne : ¬ M = 0 := by omega
      obtain ⟨x, hx⟩ : ∃ x, b * k % M = x := ⟨_, rfl⟩
      rw [hx] at hml HP hre
      obtain ⟨y, hy⟩ : ∃ y, (imB M b k)[x]? = some y := by unfold imB; rw [tab_get hml]; exact ⟨_, rfl⟩
      have cx := (HB.out.cell x).trans hy
      have fx := HB.out.free x
      clear hx hy
      go_wp2_with fail
      go_roundw
      case rel => exact ⟨k + 1, by omega, by go_num, Lib.hid (HE.out.setCell (p := ⟨w1.heap.size, x, none⟩) (Nat.le_refl _) _), Lib.hid (HP.out ▸ HB.out.put x (.bool true)), Lib.hid (HA.out.set HB.out (by decide) x _), Lib.hid (HC.out.set HB.out (by decide) x _)⟩
      case measure => simp [intOf]; omega
    · obtain rfl : k = M := by omega
      go_wp2_with fail
      have HZA : Hid (GrowI wr w1.heap.size (.slice (some ⟨w1.heap.size + 1, 0, none⟩) 0 0) (mults p 0).length (mults p 0)) := Lib.hid (by rw [mults_zero hk0]; exact HA.out)
      have HZB : Hid (GrowI wr w1.heap.size (.slice (some ⟨w1.heap.size + 1 + 1, 0, none⟩) 0 0) (mults q 0).length (mults q 0)) := Lib.hid (by rw [mults_zero hg2]; exact HC.out)
      have HNE : Hid ((Value.slice (some ⟨w1.heap.size + 1, 0, none⟩) 0 0).ownBlock ≠ (Value.slice (some ⟨w1.heap.size + 1 + 1, 0, none⟩) 0 0).ownBlock) := Lib.hid (fun e => by
        exact absurd (Option.some.inj e) (by show w1.heap.size + 1 ≠ w1.heap.size + 1 + 1; omega))
      obtain ⟨wq, hwq⟩ : ∃ x, x = wr := ⟨_, rfl⟩
      subst hwq
      clear HA HC
      go_loopw [13, 14, 16] (fun u v i wr => ∃ x : Nat, x ≤ k ∧ i = .int .i64 (x : Int) ∧ Hid (Ex w1 wr) ∧ Hid (Has wr w1.heap.size 4 (imB k b k)) ∧ Hid (GrowI wr w1.heap.size u (mults p x).length (mults p x)) ∧ Hid (GrowI wr w1.heap.size v (mults q x).length (mults q x)) ∧ Hid (u.ownBlock ≠ v.ownBlock)) (fun _ _ i _ => k - (intOf i).toNat)
      case atStart => exact ⟨0, Nat.zero_le _, rfl, HE, HB, HZA, HZB, HNE⟩
      case round =>
        clear HE HB HZA HZB HNE
        obtain ⟨x, hxk, rfl, HEq, HB, HA, HC, HNE⟩ := hrel
        by_cases hxl : x < k
        · have hax : a * x ≤ 40000 := mul_200 (by omega) (by omega)
          have hml1 := mults_le p hk0 x
          have hml2 := mults_le q hg2 x
          have hmz : IntKind.i64.wrap ((a : Int) * (x : Int)) = (a : Int) * (x : Int) := IntWalk.i64_in _ (by rw [← Int.natCast_mul]; omega)
          have hne : ¬ k = 0 := by omega
          have hcx := HIMG.out x hxl
          rw [hq'.out] at hcx
          have hker := HKER.out x
          by_cases hpx : p ∣ x
          · have hkz : ((a : Int) * (x : Int) % (k : Int)) = 0 := by rw [← Int.natCast_mul, ← Int.natCast_emod, hker.2 hpx]; rfl
            have HMA := Lib.hid (mults_succ_yes hk0 hpx)
            have HA1 := Lib.hid (HA.out.ex (Ex.new wr (.cells #[.int .i64 (x : Int)] 2)))
            have HC1 := Lib.hid (HC.out.ex (Ex.new wr (.cells #[.int .i64 (x : Int)] 2)))
            have HB1 := Lib.hid (HB.out.alloc (.cells #[.int .i64 (x : Int)] 2))
            have HE1 := Lib.hid (HEq.out.alloc (.cells #[.int .i64 (x : Int)] 2))
            clear hpx hker
            go_upto_region 12 with (at_builtin; refine wpList_append_where _ rfl _ _ 27 rfl w1.heap.size 2 i0 (.int .i64 0) 1 8 Try.underlying27 hi hz0 hz1 hz2 rfl (by decide) _ _ _ rfl HA1.out.1 ⟨wr.heap.size, 0, none⟩ 1 1 [.int .i64 (x : Int)] rfl rfl (cell_one_new _ _ _) (by simp [Value.oneCell']) (by unfold maxLen; omega) (by omega) (by have := HEq.out.size; simp; omega) (by decide) ?_; intro v3 w3 hown3 hgrow3 hwh3)
            obtain ⟨gC, hne3⟩ := ne_grown HNE.out HC1.out hwh3 hgrow3
            have HA3 := Lib.hid (HA1.out.snoc hown3)
            have HC3 := Lib.hid gC
            have HB3 := Lib.hid (HB1.out.grew (by decide) HA1.out hgrow3)
            have HE3 := Lib.hid (Ex.grew HE1.out HA1.out (Nat.le_refl _) hgrow3)
            have HN3 := Lib.hid hne3
            clear gC hne3 hown3 hgrow3 hwh3 HA1 HC1 HB1 HE1 HA HC HB HEq HNE
            have cx := (HB3.out.cell x).trans hcx
            by_cases hqx : q ∣ x
            · rw [decide_eq_true hqx] at cx
              have HMB := Lib.hid (mults_succ_yes hg2 hqx)
              have HA5 := Lib.hid (HA3.out.ex (Ex.new w3 (.cells #[.int .i64 (x : Int)] 2)))
              have HC5 := Lib.hid (HC3.out.ex (Ex.new w3 (.cells #[.int .i64 (x : Int)] 2)))
              have HB5 := Lib.hid (HB3.out.alloc (.cells #[.int .i64 (x : Int)] 2))
              have HE5 := Lib.hid (HE3.out.alloc (.cells #[.int .i64 (x : Int)] 2))
              clear hqx hcx
              go_wp2_with (at_builtin; refine wpList_append_where _ rfl _ _ 27 rfl w1.heap.size 2 i0 (.int .i64 0) 1 8 Try.underlying27 hi hz0 hz1 hz2 rfl (by decide) _ _ _ rfl HC5.out.1 ⟨w3.heap.size, 0, none⟩ 1 1 [.int .i64 (x : Int)] rfl rfl (cell_one_new _ _ _) (by simp [Value.oneCell']) (by unfold maxLen; omega) (by omega) (by have := HE3.out.size; simp; omega) (by decide) ?_; intro v5 w5 hown5 hgrow5 hwh5)
              refine ⟨?rel, ?measure⟩
              case rel =>
                obtain ⟨gA, hne5⟩ := ne_grown (fun e => HN3.out e.symm) HA5.out hwh5 hgrow5
                exact ⟨x + 1, by omega, by go_num, Lib.hid (Ex.grew HE5.out HC5.out (Nat.le_refl _) hgrow5), Lib.hid (HB5.out.grew (by decide) HC5.out hgrow5), Lib.hid (by rw [HMA.out, List.length_append]; exact gA), Lib.hid (by rw [HMB.out, List.length_append]; exact HC5.out.snoc hown5), Lib.hid (fun e => hne5 e.symm)⟩
              case measure => simp [intOf]; omega
            · rw [decide_eq_false hqx] at cx
              have HMB := Lib.hid (mults_succ_no hg2 hqx)
              clear hqx hcx
              go_wp2_with fail
              go_roundw
              case rel => exact ⟨x + 1, by omega, by go_num, HE3, HB3, Lib.hid (by rw [HMA.out, List.length_append]; exact HA3.out), Lib.hid (by rw [HMB.out]; exact HC3.out), HN3⟩
              case measure => simp [intOf]; omega
          · have hkz : ¬ ((a : Int) * (x : Int) % (k : Int)) = 0 := by rw [← Int.natCast_mul, ← Int.natCast_emod]; exact fun h => hpx (hker.1 (by omega))
            have HMA := Lib.hid (mults_succ_no hk0 hpx)
            clear hpx hker
            have cx := (HB.out.cell x).trans hcx
            by_cases hqx : q ∣ x
            · rw [decide_eq_true hqx] at cx
              have HMB := Lib.hid (mults_succ_yes hg2 hqx)
              have HA5 := Lib.hid (HA.out.ex (Ex.new wr (.cells #[.int .i64 (x : Int)] 2)))
              have HC5 := Lib.hid (HC.out.ex (Ex.new wr (.cells #[.int .i64 (x : Int)] 2)))
              have HB5 := Lib.hid (HB.out.alloc (.cells #[.int .i64 (x : Int)] 2))
              have HE5 := Lib.hid (HEq.out.alloc (.cells #[.int .i64 (x : Int)] 2))
              clear hqx hcx
              go_wp2_with (at_builtin; refine wpList_append_where _ rfl _ _ 27 rfl w1.heap.size 2 i0 (.int .i64 0) 1 8 Try.underlying27 hi hz0 hz1 hz2 rfl (by decide) _ _ _ rfl HC5.out.1 ⟨wr.heap.size, 0, none⟩ 1 1 [.int .i64 (x : Int)] rfl rfl (cell_one_new _ _ _) (by simp [Value.oneCell']) (by unfold maxLen; omega) (by omega) (by have := HEq.out.size; simp; omega) (by decide) ?_; intro v5 w5 hown5 hgrow5 hwh5)
              refine ⟨?rel, ?measure⟩
              case rel =>
                obtain ⟨gA, hne5⟩ := ne_grown (fun e => HNE.out e.symm) HA5.out hwh5 hgrow5
                exact ⟨x + 1, by omega, by go_num, Lib.hid (Ex.grew HE5.out HC5.out (Nat.le_refl _) hgrow5), Lib.hid (HB5.out.grew (by decide) HC5.out hgrow5), Lib.hid (by rw [HMA.out]; exact gA), Lib.hid (by rw [HMB.out, List.length_append]; exact HC5.out.snoc hown5), Lib.hid (fun e => hne5 e.symm)⟩
              case measure => simp [intOf]; omega
            · rw [decide_eq_false hqx] at cx
              have HMB := Lib.hid (mults_succ_no hg2 hqx)
              clear hqx hcx
              go_wp2_with fail
              go_roundw
              case rel => exact ⟨x + 1, by omega, by go_num, HEq, HB, Lib.hid (by rw [HMA.out]; exact HA.out), Lib.hid (by rw [HMB.out]; exact HC.out), HNE⟩
              case measure => simp [intOf]; omega
        · obtain rfl : x = k := by omega
          obtain ⟨A, ca, rfl, hOA⟩ := HA.out.own
          obtain ⟨B, cb, rfl, hOB⟩ := HC.out.own
          have HOA := Lib.hid hOA
          have HOB := Lib.hid hOB
          clear hOA hOB HA HC HNE
          go_wp2_with fail
          go_ret2
          exact ⟨A, ca, B, cb, rfl, HEq.out, HOA.out, HOB.out⟩

end Go.Proofs.Ytfnjpbjlikajbaa
