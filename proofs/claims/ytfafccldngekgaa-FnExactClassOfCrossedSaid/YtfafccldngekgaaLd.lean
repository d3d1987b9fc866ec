/- slices.Compare and slices.Equal at lists of int64: the contracts. -/
import Derived.Test.YtfafccldngekgaaLc
namespace Go.Proofs.Ytfafccldngekgaa
open Go.RowKit

set_option maxRecDepth 100000 in
set_option maxHeartbeats 4000000 in
theorem slicesCompare_w (A B : Option Addr) (xs ys : List Int) (c d : Nat) (w : World) (hA : IntsW w A xs) (hB : IntsW w B ys) (hx : xs.length ≤ 1048576) (_ : ys.length ≤ 1048576) :
    Calls Try.prog 91 #[.slice A xs.length c, .slice B ys.length d] w fun e w' => e = .returned (.int .i64 (lexC xs ys)) ∧ w = w' := by
  have HA := Lib.hid hA
  have HB := Lib.hid hB
  clear hA hB
  go_enter Try.func91, Try.ntmps91
  go_wp2_with fail
  go_loopw [11] (fun i wr => ∃ j : Nat, j ≤ xs.length ∧ j ≤ ys.length ∧ i = .int .i64 (j : Int) ∧ wr = w ∧ Hid (∀ l, l < j → nth xs l = nth ys l)) (fun i _ => xs.length - (intOf i).toNat)
  case atStart => exact ⟨0, Nat.zero_le _, Nat.zero_le _, rfl, rfl, Lib.hid fun l hl => absurd hl (by omega)⟩
  case round =>
    obtain ⟨j, hj, hj2, rfl, rfl, HS⟩ := hrel
    have hj0 : (0 : Int) ≤ (j : Int) := by omega
    by_cases hlt : j < xs.length
    · obtain ⟨bx, ox, rfl, hbx, hcx⟩ := HA.out.ints.at_ hlt
      have hjn : (j : Int) < (xs.length : Int) := by omega
      by_cases hlt2 : j < ys.length
      · obtain ⟨by_, oy, rfl, hby, hcy⟩ := HB.out.ints.at_ hlt2
        have hjn2 : (j : Int) < (ys.length : Int) := by omega
        have hge : decide ((j : Int) ≥ (ys.length : Int)) = false := by simp; omega
        have hge2 : decide ((ys.length : Int) ≤ (j : Int)) = false := by simp; omega
        have HAT := Lib.hid (lexC_at hlt hlt2 HS.out)
        obtain ⟨x, hxx⟩ : ∃ x, nth xs j = x := ⟨_, rfl⟩
        obtain ⟨y, hyy⟩ : ∃ y, nth ys j = y := ⟨_, rfl⟩
        have HXY : Hid (nth xs j = x ∧ nth ys j = y) := Lib.hid ⟨hxx, hyy⟩
        rw [hxx] at hcx
        rw [hyy] at hcy
        rw [hxx, hyy] at HAT
        clear hxx hyy
        by_cases hxy : x = y
        · have HQ := Lib.hid hxy
          have hz : (cmpI x y != 0) = false := by simp [cmpI, hxy]
          clear hxy HAT
          obtain ⟨z, hz0⟩ : ∃ z, cmpI x y = z := ⟨_, rfl⟩
          have HCC := Lib.hid (fun W => hz0 ▸ cmpCompare_w x y W)
          rw [hz0] at hz
          clear hz0
          go_wp2_with (go_at_call 115; refine (HCC.out _).mono ?_; rintro e w' ⟨rfl, rfl⟩)
          go_roundw
          case rel => exact ⟨j + 1, by omega, by omega, by go_num, by first | trivial | rfl, Lib.hid fun l hl => by
            rcases Nat.lt_or_ge l j with h | h
            · exact HS.out l h
            · obtain rfl : l = j := by omega
              rw [HXY.out.1, HXY.out.2, HQ.out]⟩
          case measure => simp [intOf]; omega
        · have hz : (cmpI x y != 0) = true := by
            unfold cmpI
            split
            · rfl
            · rw [if_pos (by omega)]
              rfl
          have HQ : Hid (lexC xs ys = cmpI x y) := Lib.hid (by
            rw [HAT.out hxy]
            unfold cmpI
            split
            · rfl
            · rw [if_pos (by omega)])
          clear hxy HAT
          obtain ⟨z, hz0⟩ : ∃ z, cmpI x y = z := ⟨_, rfl⟩
          have HCC := Lib.hid (fun W => hz0 ▸ cmpCompare_w x y W)
          rw [hz0] at hz HQ
          clear hz0
          go_wp2_with (go_at_call 115; refine (HCC.out _).mono ?_; rintro e w' ⟨rfl, rfl⟩)
          go_ret
          exact ⟨by rw [HQ.out]; rfl, rfl⟩
      · obtain rfl : j = ys.length := by omega
        have hge : decide ((ys.length : Int) ≥ (ys.length : Int)) = true := by simp
        have hge2 : decide ((ys.length : Int) ≤ (ys.length : Int)) = true := by simp
        have HQ := Lib.hid (lexC_right hlt HS.out)
        go_wp2_with fail
        go_ret
        exact ⟨by rw [HQ.out]; rfl, rfl⟩
    · obtain rfl : j = xs.length := by omega
      have HL := Lib.hid (lexC_left hj2 HS.out)
      by_cases h2 : xs.length < ys.length
      · have h3 : (xs.length : Int) < (ys.length : Int) := by omega
        have HQ : Hid (lexC xs ys = -1) := Lib.hid (by rw [HL.out, if_pos h2])
        go_wp2_with fail
        go_ret
        exact ⟨by rw [HQ.out]; rfl, rfl⟩
      · have h3 : ¬ (xs.length : Int) < (ys.length : Int) := by omega
        have HQ : Hid (lexC xs ys = 0) := Lib.hid (by rw [HL.out, if_neg h2])
        go_wp2_with fail
        go_ret
        exact ⟨by rw [HQ.out]; rfl, rfl⟩

set_option maxRecDepth 100000 in
set_option maxHeartbeats 4000000 in
theorem slicesEqual_any (A B : Option Addr) (xs ys : List Int) (c d : Nat) (w : World) (hA : IntsW w A xs) (hB : IntsW w B ys) (hl : xs.length = ys.length) (hx0 : xs.length ≤ 1048576) :
    Calls Try.prog 114 #[.slice A xs.length c, .slice B ys.length d] w fun e w' => e = .returned (.bool (decide (xs = ys))) ∧ Ex w w' := by
  have HA := Lib.hid hA
  have HB := Lib.hid hB
  have hne : ((xs.length : Int) != (ys.length : Int)) = false := by simp [hl]
  have HL := Lib.hid hl
  clear hA hB hl
  go_enter Try.func114, Try.ntmps114
  go_wp2_with fail
  go_loopw [13] (fun i wr => ∃ j : Nat, j ≤ xs.length ∧ i = .int .i64 (j : Int) ∧ Hid (Ex w wr) ∧ Hid (∀ l, l < j → nth xs l = nth ys l)) (fun i _ => xs.length - (intOf i).toNat)
  case atStart => exact ⟨0, Nat.zero_le _, rfl, Lib.hid (Ex.refl _), Lib.hid fun l hl => absurd hl (by omega)⟩
  case round =>
    obtain ⟨j, hj, rfl, HE, HS⟩ := hrel
    by_cases hlt : j < xs.length
    · have hltb : j < ys.length := by rw [← HL.out]; exact hlt
      obtain ⟨bx, ox, rfl, hbx, hcx⟩ := (HA.out.ex HE.out).ints.at_ hlt
      obtain ⟨by_, oy, rfl, hby, hcy⟩ := (HB.out.ex HE.out).ints.at_ hltb
      have hj0 : (0 : Int) ≤ (j : Int) := by omega
      have hjn : (j : Int) < (xs.length : Int) := by omega
      have hjb : (j : Int) < (ys.length : Int) := by omega
      obtain ⟨x, hx⟩ : ∃ x, nth xs j = x := ⟨_, rfl⟩
      obtain ⟨y, hy⟩ : ∃ y, nth ys j = y := ⟨_, rfl⟩
      rw [hx] at hcx
      rw [hy] at hcy
      have HXY : Hid (nth xs j = x ∧ nth ys j = y) := Lib.hid ⟨hx, hy⟩
      have HSK := Lib.hid (fun (W' : World) (hb : Ex wr.drew W') => And.intro ((Below.cell (w := wr.drew) hb (p := ⟨bx, ox + j, none⟩) hbx).trans hcx) ((Below.cell (w := wr.drew) hb (p := ⟨by_, oy + j, none⟩) hby).trans hcy))
      clear hx hy hcx hcy
      go_wp2_with fail
      by_cases hxy : x = y
      · have hq : (x != y) = false := by simp [hxy]
        have HQ := Lib.hid hxy
        clear hxy
        refine wp_region_quiet (C := fun w' => Ex wr.drew w') (by kernel_rfl) (by kernel_rfl) (Ex.refl _) ?_
        refine BigFrame.wpQuiet_want (by rfl) fun K hK => ⟨?_, fun w' hC => ?_, hK _ ?_⟩
        rotate_left
        · (obtain ⟨q0, q1⟩ := HSK.out _ hC; go_simp; first | done | with_reducible rfl | exact ⟨rfl, hC⟩)
        clear hK K
        simp only [Act.put, List.setIfInBounds_toArray, List.set_cons_zero, List.set_cons_succ]
        refine BigFrame.wpQuiet_want (by rfl) fun K hK => ⟨?_, fun w' hC => ?_, hK _ ?_⟩
        rotate_left
        · (obtain ⟨q0, q1⟩ := HSK.out _ hC; go_simp; first | done | with_reducible rfl | exact ⟨rfl, hC⟩)
        clear hK K
        simp only [Act.put, List.setIfInBounds_toArray, List.set_cons_zero, List.set_cons_succ]
        refine BigFrame.wpQuiet_want (by rfl) fun K hK => ⟨?_, fun w' hC => ?_, hK _ ?_⟩
        rotate_left
        · (obtain ⟨q0, q1⟩ := HSK.out _ hC; go_simp; first | done | with_reducible rfl | exact ⟨rfl, hC⟩)
        clear hK K
        simp only [Act.put, List.setIfInBounds_toArray, List.set_cons_zero, List.set_cons_succ]
        refine BigFrame.wpQuiet_want (by rfl) fun K hK => ⟨?_, fun w' hC => ?_, hK _ ?_⟩
        rotate_left
        · (obtain ⟨q0, q1⟩ := HSK.out _ hC; go_simp; first | done | with_reducible rfl | exact ⟨rfl, hC⟩)
        clear hK K
        simp only [Act.put, List.setIfInBounds_toArray, List.set_cons_zero, List.set_cons_succ]
        refine BigFrame.wpQuiet_want (by rfl) fun K hK => ⟨?_, fun w' hC => ?_, hK _ ?_⟩
        rotate_left
        · (obtain ⟨q0, q1⟩ := HSK.out _ hC; go_simp; first | done | with_reducible rfl | exact ⟨rfl, hC⟩)
        clear hK K
        simp only [Act.put, List.setIfInBounds_toArray, List.set_cons_zero, List.set_cons_succ]
        refine BigFrame.wpQuiet_want (by rfl) fun K hK => ⟨?_, fun w' hC => ?_, hK _ ?_⟩
        rotate_left
        · (obtain ⟨q0, q1⟩ := HSK.out _ hC; go_simp; first | done | with_reducible rfl | exact ⟨rfl, hC⟩)
        clear hK K
        simp only [Act.put, List.setIfInBounds_toArray, List.set_cons_zero, List.set_cons_succ]
        refine BigFrame.wpQuiet_want (by rfl) fun K hK => ⟨?_, fun w' hC => ?_, hK _ ?_⟩
        rotate_left
        · (obtain ⟨q0, q1⟩ := HSK.out _ hC; go_simp; first | done | with_reducible rfl | exact ⟨rfl, hC⟩)
        clear hK K
        simp only [Act.put, List.setIfInBounds_toArray, List.set_cons_zero, List.set_cons_succ]
        refine BigFrame.wpQuiet_want (by rfl) fun K hK => ⟨?_, fun w' hC => ?_, hK _ ?_⟩
        rotate_left
        · (obtain ⟨q0, q1⟩ := HSK.out _ hC; go_simp; first | done | with_reducible rfl | exact ⟨rfl, hC⟩)
        clear hK K
        simp only [Act.put, List.setIfInBounds_toArray, List.set_cons_zero, List.set_cons_succ]
        refine BigFrame.wpQuiet_want (by rfl) fun K hK => ⟨?_, fun w' hC => ?_, hK _ ?_⟩
        rotate_left
        · (obtain ⟨q0, q1⟩ := HSK.out _ hC; go_simp; first | done | with_reducible rfl | exact ⟨rfl, hC⟩)
        clear hK K
        simp only [Act.put, List.setIfInBounds_toArray, List.set_cons_zero, List.set_cons_succ]
        refine wpQuiet_nil ?_
        intro w2 hC2
        have HC2 := Lib.hid hC2
        clear hC2
        go_wp2_with fail
        go_roundw
        case rel => exact ⟨j + 1, by omega, by go_num, Lib.hid (HE.out.trans ((Ex.refl wr).drew.trans HC2.out)), Lib.hid fun l hl => by
          rcases Nat.lt_or_ge l j with h | h
          · exact HS.out l h
          · obtain rfl : l = j := by omega
            rw [HXY.out.1, HXY.out.2, HQ.out]⟩
        case measure => simp [intOf]; omega
      · have hq : (x != y) = true := by simpa using hxy
        have HQ : Hid (decide (xs = ys) = false) := Lib.hid (by
          simp only [decide_eq_false_iff_not]
          intro h
          exact hxy (by rw [← HXY.out.1, ← HXY.out.2, h]))
        clear hxy
        refine wp_region_quiet (C := fun w' => Ex wr.drew w') (by kernel_rfl) (by kernel_rfl) (Ex.refl _) ?_
        refine BigFrame.wpQuiet_want (by rfl) fun K hK => ⟨?_, fun w' hC => ?_, hK _ ?_⟩
        rotate_left
        · (obtain ⟨q0, q1⟩ := HSK.out _ hC; go_simp; first | done | with_reducible rfl | exact ⟨rfl, hC⟩)
        clear hK K
        simp only [Act.put, List.setIfInBounds_toArray, List.set_cons_zero, List.set_cons_succ]
        refine BigFrame.wpQuiet_want (by rfl) fun K hK => ⟨?_, fun w' hC => ?_, hK _ ?_⟩
        rotate_left
        · (obtain ⟨q0, q1⟩ := HSK.out _ hC; go_simp; first | done | with_reducible rfl | exact ⟨rfl, hC⟩)
        clear hK K
        simp only [Act.put, List.setIfInBounds_toArray, List.set_cons_zero, List.set_cons_succ]
        refine BigFrame.wpQuiet_want (by rfl) fun K hK => ⟨?_, fun w' hC => ?_, hK _ ?_⟩
        rotate_left
        · (obtain ⟨q0, q1⟩ := HSK.out _ hC; go_simp; first | done | with_reducible rfl | exact ⟨rfl, hC⟩)
        clear hK K
        simp only [Act.put, List.setIfInBounds_toArray, List.set_cons_zero, List.set_cons_succ]
        refine BigFrame.wpQuiet_want (by rfl) fun K hK => ⟨?_, fun w' hC => ?_, hK _ ?_⟩
        rotate_left
        · (obtain ⟨q0, q1⟩ := HSK.out _ hC; go_simp; first | done | with_reducible rfl | exact ⟨rfl, hC⟩)
        clear hK K
        simp only [Act.put, List.setIfInBounds_toArray, List.set_cons_zero, List.set_cons_succ]
        refine BigFrame.wpQuiet_want (by rfl) fun K hK => ⟨?_, fun w' hC => ?_, hK _ ?_⟩
        rotate_left
        · (obtain ⟨q0, q1⟩ := HSK.out _ hC; go_simp; first | done | with_reducible rfl | exact ⟨rfl, hC⟩)
        clear hK K
        simp only [Act.put, List.setIfInBounds_toArray, List.set_cons_zero, List.set_cons_succ]
        refine BigFrame.wpQuiet_want (by rfl) fun K hK => ⟨?_, fun w' hC => ?_, hK _ ?_⟩
        rotate_left
        · (obtain ⟨q0, q1⟩ := HSK.out _ hC; go_simp; first | done | with_reducible rfl | exact ⟨rfl, hC⟩)
        clear hK K
        simp only [Act.put, List.setIfInBounds_toArray, List.set_cons_zero, List.set_cons_succ]
        refine BigFrame.wpQuiet_want (by rfl) fun K hK => ⟨?_, fun w' hC => ?_, hK _ ?_⟩
        rotate_left
        · (obtain ⟨q0, q1⟩ := HSK.out _ hC; go_simp; first | done | with_reducible rfl | exact ⟨rfl, hC⟩)
        clear hK K
        simp only [Act.put, List.setIfInBounds_toArray, List.set_cons_zero, List.set_cons_succ]
        refine BigFrame.wpQuiet_want (by rfl) fun K hK => ⟨?_, fun w' hC => ?_, hK _ ?_⟩
        rotate_left
        · (obtain ⟨q0, q1⟩ := HSK.out _ hC; go_simp; first | done | with_reducible rfl | exact ⟨rfl, hC⟩)
        clear hK K
        simp only [Act.put, List.setIfInBounds_toArray, List.set_cons_zero, List.set_cons_succ]
        refine BigFrame.wpQuiet_want (by rfl) fun K hK => ⟨?_, fun w' hC => ?_, hK _ ?_⟩
        rotate_left
        · (obtain ⟨q0, q1⟩ := HSK.out _ hC; go_simp; first | done | with_reducible rfl | exact ⟨rfl, hC⟩)
        clear hK K
        simp only [Act.put, List.setIfInBounds_toArray, List.set_cons_zero, List.set_cons_succ]
        refine wpQuiet_nil ?_
        intro w2 hC2
        have HC2 := Lib.hid hC2
        clear hC2
        go_wp2_with fail
        go_ret
        exact ⟨by rw [HQ.out]; rfl, HE.out.trans ((Ex.refl wr).drew.trans HC2.out)⟩
    · obtain rfl : j = xs.length := by omega
      have HQ : Hid (decide (xs = ys) = true) := Lib.hid (by
        simp only [decide_eq_true_eq]
        refine lexC_zero ?_
        rw [lexC_left (by rw [HL.out]; exact Nat.le_refl _) HS.out, if_neg (by rw [HL.out]; omega)])
      go_wp2_with fail
      go_ret
      exact ⟨by rw [HQ.out]; rfl, HE.out⟩

end Go.Proofs.Ytfafccldngekgaa
