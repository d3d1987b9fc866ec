/- Is it a circle? The program's test. -/
import Derived.Test.YtfnjpbjlikajbaaDoorJc
namespace Go.Proofs.YtfnjpbjlikajbaaDoor
open Go.RowKit

theorem isUnit_e (m u : Int) (w : World) (hm : m ≤ 1048576) (hm0 : 0 ≤ m) :
    Calls Tryd.prog 96 #[.int .i64 m, .int .i64 u] w fun e w' => e = .returned (.bool (unitB m u)) ∧ Ex w w' := (isUnit_any m u w hm hm0).mono fun _ _ ⟨h1, h2⟩ => ⟨h1, Ex.ofDrawn h2⟩

set_option maxRecDepth 100000 in
set_option maxHeartbeats 4000000 in
theorem isCircle_any (n m u : Int) (w : World) :
    Calls Tryd.prog 75 #[.agg #[.int .i64 n, .int .i64 m, .int .i64 u]] w fun e w' => e = .returned (.bool (circB n m u)) ∧ Ex w w' := by
  have e0 : Ex w (w.alloc (.cells #[.int .i64 n, .int .i64 m, .int .i64 u] 44)) := (Ex.refl w).alloc _
  have b0 : Has (w.alloc (.cells #[.int .i64 n, .int .i64 m, .int .i64 u] 44)) (w.heap.size) 44 #[.int .i64 n, .int .i64 m, .int .i64 u] := (Has.newAt (w := w) (e := 44) (cs := #[.int .i64 n, .int .i64 m, .int .i64 u]) (k := w.heap.size) (by simp))
  have HB0 := Lib.hid b0
  have HE := Lib.hid e0
  clear b0 e0
  by_cases h1 : 1 ≤ n
  · have d1 : decide (1 ≤ n) = true := by simp [h1]
    by_cases h2 : n ≤ 60
    · have d2 : decide (n ≤ 60) = true := by simp [h2]
      have hi1 := inB_of h1 h2
      by_cases h3 : 2 ≤ m
      · have d3 : decide (2 ≤ m) = true := by simp [h3]
        by_cases h4 : m ≤ 200
        · have d4 : decide (m ≤ 200) = true := by simp [h4]
          have hi2 := inB_of h3 h4
          cases h5 : unitB m u with
          | false =>
            have HU := Lib.hid (fun W => isUnit_e m u W (by omega) (by omega))
            rw [h5] at HU
            have HC : Hid (circB n m u = false) := Lib.hid (circ_off (.inr (.inr (.inl h5))))
            clear h1 h2 h3 h4 h5 hi1 hi2
            go_enter Tryd.func75, Tryd.ntmps75
            go_wp2_with fail
            generalize (w.alloc (.cells #[.int .i64 n, .int .i64 m, .int .i64 u] 44)) = W0 at *
            have HSK := Lib.hid (fun (W' : World) (hb : Ex W0.drew W') => And.intro ((Has.ex (w := W0.drew) HB0.out hb).cell 0) (And.intro ((Has.ex (w := W0.drew) HB0.out hb).cell 1) ((Has.ex (w := W0.drew) HB0.out hb).cell 2)))
            refine wp_region_quiet (C := fun w' => Ex W0.drew w') (by kernel_rfl) (by kernel_rfl) (Ex.refl _) ?_
            refine BigFrame.wpQuiet_want (by rfl) fun K hK => ⟨?_, fun w' hC => ?_, hK _ ?_⟩
            rotate_left
            · (obtain ⟨q0, q1, q2⟩ := HSK.out _ hC; go_simp; first | done | with_reducible rfl | exact ⟨rfl, hC⟩)
            clear hK K
            simp only [Act.put, List.setIfInBounds_toArray, List.set_cons_zero, List.set_cons_succ]
            refine BigFrame.wpQuiet_want (by rfl) fun K hK => ⟨?_, fun w' hC => ?_, hK _ ?_⟩
            rotate_left
            · (obtain ⟨q0, q1, q2⟩ := HSK.out _ hC; go_simp; first | done | with_reducible rfl | exact ⟨rfl, hC⟩)
            clear hK K
            simp only [Act.put, List.setIfInBounds_toArray, List.set_cons_zero, List.set_cons_succ]
            refine BigFrame.wpQuiet_want (by rfl) fun K hK => ⟨?_, fun w' hC => ?_, hK _ ?_⟩
            rotate_left
            · (obtain ⟨q0, q1, q2⟩ := HSK.out _ hC; go_simp; first | done | with_reducible rfl | exact ⟨rfl, hC⟩)
            clear hK K
            simp only [Act.put, List.setIfInBounds_toArray, List.set_cons_zero, List.set_cons_succ]
            refine BigFrame.wpQuiet_want (by rfl) fun K hK => ⟨?_, fun w' hC => ?_, hK _ ?_⟩
            rotate_left
            · (obtain ⟨q0, q1, q2⟩ := HSK.out _ hC; go_simp; first | done | with_reducible rfl | exact ⟨rfl, hC⟩)
            clear hK K
            simp only [Act.put, List.setIfInBounds_toArray, List.set_cons_zero, List.set_cons_succ]
            refine BigFrame.wpQuiet_want (by rfl) fun K hK => ⟨?_, fun w' hC => ?_, hK _ ?_⟩
            rotate_left
            · (obtain ⟨q0, q1, q2⟩ := HSK.out _ hC; go_simp; first | done | with_reducible rfl | exact ⟨rfl, hC⟩)
            clear hK K
            simp only [Act.put, List.setIfInBounds_toArray, List.set_cons_zero, List.set_cons_succ]
            refine BigFrame.wpQuiet_want (by rfl) fun K hK => ⟨?_, fun w' hC => ?_, hK _ ?_⟩
            rotate_left
            · (obtain ⟨q0, q1, q2⟩ := HSK.out _ hC; go_simp; first | done | with_reducible rfl | exact ⟨rfl, hC⟩)
            clear hK K
            simp only [Act.put, List.setIfInBounds_toArray, List.set_cons_zero, List.set_cons_succ]
            refine BigFrame.wpQuiet_want (by rfl) fun K hK => ⟨?_, fun w' hC => ?_, hK _ ?_⟩
            rotate_left
            · (obtain ⟨q0, q1, q2⟩ := HSK.out _ hC; go_simp; first | done | with_reducible rfl | exact ⟨rfl, hC⟩)
            clear hK K
            simp only [Act.put, List.setIfInBounds_toArray, List.set_cons_zero, List.set_cons_succ]
            refine BigFrame.wpQuiet_want (by rfl) fun K hK => ⟨?_, fun w' hC => ?_, hK _ ?_⟩
            rotate_left
            · (obtain ⟨q0, q1, q2⟩ := HSK.out _ hC; go_simp; first | done | with_reducible rfl | exact ⟨rfl, hC⟩)
            clear hK K
            simp only [Act.put, List.setIfInBounds_toArray, List.set_cons_zero, List.set_cons_succ]
            refine BigFrame.wpQuiet_want (by rfl) fun K hK => ⟨?_, fun w' hC => ?_, hK _ ?_⟩
            rotate_left
            · (obtain ⟨q0, q1, q2⟩ := HSK.out _ hC; go_simp; first | done | with_reducible rfl | exact ⟨rfl, hC⟩)
            clear hK K
            simp only [Act.put, List.setIfInBounds_toArray, List.set_cons_zero, List.set_cons_succ]
            refine BigFrame.wpQuiet_want (by rfl) fun K hK => ⟨?_, fun w' hC => ?_, hK _ ?_⟩
            rotate_left
            · (obtain ⟨q0, q1, q2⟩ := HSK.out _ hC; go_simp; first | done | with_reducible rfl | exact ⟨rfl, hC⟩)
            clear hK K
            simp only [Act.put, List.setIfInBounds_toArray, List.set_cons_zero, List.set_cons_succ]
            refine BigFrame.wpQuiet_want (by rfl) fun K hK => ⟨?_, fun w' hC => ?_, hK _ ?_⟩
            rotate_left
            · (obtain ⟨q0, q1, q2⟩ := HSK.out _ hC; go_simp; first | done | with_reducible rfl | exact ⟨rfl, hC⟩)
            clear hK K
            simp only [Act.put, List.setIfInBounds_toArray, List.set_cons_zero, List.set_cons_succ]
            refine BigFrame.wpQuiet_want (by rfl) fun K hK => ⟨?_, fun w' hC => ?_, hK _ ?_⟩
            rotate_left
            · (obtain ⟨q0, q1, q2⟩ := HSK.out _ hC; go_simp; first | done | with_reducible rfl | exact ⟨rfl, hC⟩)
            clear hK K
            simp only [Act.put, List.setIfInBounds_toArray, List.set_cons_zero, List.set_cons_succ]
            refine BigFrame.wpQuiet_want (by rfl) fun K hK => ⟨?_, fun w' hC => ?_, hK _ ?_⟩
            rotate_left
            · (obtain ⟨q0, q1, q2⟩ := HSK.out _ hC; go_simp; first | done | with_reducible rfl | exact ⟨rfl, hC⟩)
            clear hK K
            simp only [Act.put, List.setIfInBounds_toArray, List.set_cons_zero, List.set_cons_succ]
            refine BigFrame.wpQuiet_want (by rfl) fun K hK => ⟨?_, fun w' hC => ?_, hK _ ?_⟩
            rotate_left
            · (obtain ⟨q0, q1, q2⟩ := HSK.out _ hC; go_simp; first | done | with_reducible rfl | exact ⟨rfl, hC⟩)
            clear hK K
            simp only [Act.put, List.setIfInBounds_toArray, List.set_cons_zero, List.set_cons_succ]
            refine BigFrame.wpQuiet_want (by rfl) fun K hK => ⟨?_, fun w' hC => ?_, hK _ ?_⟩
            rotate_left
            · (obtain ⟨q0, q1, q2⟩ := HSK.out _ hC; go_simp; first | done | with_reducible rfl | exact ⟨rfl, hC⟩)
            clear hK K
            simp only [Act.put, List.setIfInBounds_toArray, List.set_cons_zero, List.set_cons_succ]
            refine BigFrame.wpQuiet_want (by rfl) fun K hK => ⟨?_, fun w' hC => ?_, hK _ ?_⟩
            rotate_left
            · (obtain ⟨q0, q1, q2⟩ := HSK.out _ hC; go_simp; first | done | with_reducible rfl | exact ⟨rfl, hC⟩)
            clear hK K
            simp only [Act.put, List.setIfInBounds_toArray, List.set_cons_zero, List.set_cons_succ]
            refine BigFrame.wpQuiet_want (by rfl) fun K hK => ⟨?_, fun w' hC => ?_, hK _ ?_⟩
            rotate_left
            · (obtain ⟨q0, q1, q2⟩ := HSK.out _ hC; go_simp; first | done | with_reducible rfl | exact ⟨rfl, hC⟩)
            clear hK K
            simp only [Act.put, List.setIfInBounds_toArray, List.set_cons_zero, List.set_cons_succ]
            refine BigFrame.wpQuiet_want (by rfl) fun K hK => ⟨?_, fun w' hC => ?_, hK _ ?_⟩
            rotate_left
            · (obtain ⟨q0, q1, q2⟩ := HSK.out _ hC; go_simp; first | done | with_reducible rfl | exact ⟨rfl, hC⟩)
            clear hK K
            simp only [Act.put, List.setIfInBounds_toArray, List.set_cons_zero, List.set_cons_succ]
            refine BigFrame.wpQuiet_want (by rfl) fun K hK => ⟨?_, fun w' hC => ?_, hK _ ?_⟩
            rotate_left
            · (obtain ⟨q0, q1, q2⟩ := HSK.out _ hC; go_simp; first | done | with_reducible rfl | exact ⟨rfl, hC⟩)
            clear hK K
            simp only [Act.put, List.setIfInBounds_toArray, List.set_cons_zero, List.set_cons_succ]
            refine BigFrame.wpQuiet_want (by rfl) fun K hK => ⟨?_, fun w' hC => ?_, hK _ ?_⟩
            rotate_left
            · (obtain ⟨q0, q1, q2⟩ := HSK.out _ hC; go_simp; first | done | with_reducible rfl | exact ⟨rfl, hC⟩)
            clear hK K
            simp only [Act.put, List.setIfInBounds_toArray, List.set_cons_zero, List.set_cons_succ]
            refine BigFrame.wpQuiet_want (by rfl) fun K hK => ⟨?_, fun w' hC => ?_, hK _ ?_⟩
            rotate_left
            · (obtain ⟨q0, q1, q2⟩ := HSK.out _ hC; go_simp; first | done | with_reducible rfl | exact ⟨rfl, hC⟩)
            clear hK K
            simp only [Act.put, List.setIfInBounds_toArray, List.set_cons_zero, List.set_cons_succ]
            refine BigFrame.wpQuiet_want (by rfl) fun K hK => ⟨?_, fun w' hC => ?_, hK _ ?_⟩
            rotate_left
            · (obtain ⟨q0, q1, q2⟩ := HSK.out _ hC; go_simp; first | done | with_reducible rfl | exact ⟨rfl, hC⟩)
            clear hK K
            simp only [Act.put, List.setIfInBounds_toArray, List.set_cons_zero, List.set_cons_succ]
            refine BigFrame.wpQuiet_want (by rfl) fun K hK => ⟨?_, fun w' hC => ?_, hK _ ?_⟩
            rotate_left
            · (obtain ⟨q0, q1, q2⟩ := HSK.out _ hC; go_simp; first | done | with_reducible rfl | exact ⟨rfl, hC⟩)
            clear hK K
            simp only [Act.put, List.setIfInBounds_toArray, List.set_cons_zero, List.set_cons_succ]
            refine BigFrame.wpQuiet_want (by rfl) fun K hK => ⟨.bool false, fun w' hC => (by go_simp; refine ((HU.out w')).mono ?_; rintro e w2 ⟨rfl, hb⟩; exact ⟨rfl, hC.trans hb⟩), hK _ ?_⟩
            clear hK K
            simp only [Act.put, List.setIfInBounds_toArray, List.set_cons_zero, List.set_cons_succ]
            refine BigFrame.wpQuiet_want (by rfl) fun K hK => ⟨?_, fun w' hC => ?_, hK _ ?_⟩
            rotate_left
            · (obtain ⟨q0, q1, q2⟩ := HSK.out _ hC; go_simp; first | done | with_reducible rfl | exact ⟨rfl, hC⟩)
            clear hK K
            simp only [Act.put, List.setIfInBounds_toArray, List.set_cons_zero, List.set_cons_succ]
            refine BigFrame.wpQuiet_want (by rfl) fun K hK => ⟨?_, fun w' hC => ?_, hK _ ?_⟩
            rotate_left
            · (obtain ⟨q0, q1, q2⟩ := HSK.out _ hC; go_simp; first | done | with_reducible rfl | exact ⟨rfl, hC⟩)
            clear hK K
            simp only [Act.put, List.setIfInBounds_toArray, List.set_cons_zero, List.set_cons_succ]
            refine (BigFrame.wpQuiet_skip ?_ ?_ : _)
            · rfl
            simp only [Act.put, List.setIfInBounds_toArray, List.set_cons_zero, List.set_cons_succ]
            refine (BigFrame.wpQuiet_skip ?_ ?_ : _)
            · rfl
            simp only [Act.put, List.setIfInBounds_toArray, List.set_cons_zero, List.set_cons_succ]
            refine (BigFrame.wpQuiet_skip ?_ ?_ : _)
            · rfl
            simp only [Act.put, List.setIfInBounds_toArray, List.set_cons_zero, List.set_cons_succ]
            refine (BigFrame.wpQuiet_skip ?_ ?_ : _)
            · rfl
            simp only [Act.put, List.setIfInBounds_toArray, List.set_cons_zero, List.set_cons_succ]
            refine (BigFrame.wpQuiet_skip ?_ ?_ : _)
            · rfl
            simp only [Act.put, List.setIfInBounds_toArray, List.set_cons_zero, List.set_cons_succ]
            refine (BigFrame.wpQuiet_skip ?_ ?_ : _)
            · rfl
            simp only [Act.put, List.setIfInBounds_toArray, List.set_cons_zero, List.set_cons_succ]
            refine (BigFrame.wpQuiet_skip ?_ ?_ : _)
            · rfl
            simp only [Act.put, List.setIfInBounds_toArray, List.set_cons_zero, List.set_cons_succ]
            refine (BigFrame.wpQuiet_skip ?_ ?_ : _)
            · rfl
            simp only [Act.put, List.setIfInBounds_toArray, List.set_cons_zero, List.set_cons_succ]
            refine BigFrame.wpQuiet_want (by rfl) fun K hK => ⟨?_, fun w' hC => ?_, hK _ ?_⟩
            rotate_left
            · (obtain ⟨q0, q1, q2⟩ := HSK.out _ hC; go_simp; first | done | with_reducible rfl | exact ⟨rfl, hC⟩)
            clear hK K
            simp only [Act.put, List.setIfInBounds_toArray, List.set_cons_zero, List.set_cons_succ]
            refine BigFrame.wpQuiet_want (by rfl) fun K hK => ⟨?_, fun w' hC => ?_, hK _ ?_⟩
            rotate_left
            · (obtain ⟨q0, q1, q2⟩ := HSK.out _ hC; go_simp; first | done | with_reducible rfl | exact ⟨rfl, hC⟩)
            clear hK K
            simp only [Act.put, List.setIfInBounds_toArray, List.set_cons_zero, List.set_cons_succ]
            refine wpQuiet_nil ?_
            intro w2 hC2
            have HC2 := Lib.hid hC2
            clear hC2
            go_wp2_with fail
            go_ret
            exact ⟨by rw [HC.out]; rfl, HE.out.trans ((Ex.refl W0).drew.trans HC2.out)⟩
          | true =>
            obtain ⟨g1, g2, -⟩ := unitB_iff.1 h5
            obtain ⟨N, rfl⟩ : ∃ N : Nat, n = (N : Int) := ⟨n.toNat, by omega⟩
            obtain ⟨M, rfl⟩ : ∃ M : Nat, m = (M : Int) := ⟨m.toNat, by omega⟩
            obtain ⟨U, rfl⟩ : ∃ U : Nat, u = (U : Int) := ⟨u.toNat, by omega⟩
            have HU := Lib.hid (fun W => isUnit_e (M : Int) (U : Int) W (by omega) (by omega))
            rw [h5] at HU
            have HRD := Lib.hid (fun W => reduced_any N M U N W (by omega) (by omega) (by omega) (by omega) (by omega) (by omega))
            have hcb : circB (N : Int) (M : Int) (U : Int) = (pwm M U N == 1) := by
              simp only [circB, hi1, hi2, h5, Int.toNat_natCast, Bool.true_and]
            have HC := Lib.hid hcb
            obtain ⟨p, hp⟩ : ∃ p, pwm M U N = p := ⟨_, rfl⟩
            rw [hp] at HRD HC
            have hnn : N / N = 1 := Nat.div_self (by omega)
            rw [hnn] at HRD
            obtain ⟨b, hb⟩ : ∃ b, (p == 1) = b := ⟨_, rfl⟩
            have hb' : ((p : Int) == 1) = b := by rw [← hb, Bool.eq_iff_iff]; simp only [beq_iff_eq]; omega
            rw [hb] at HC
            clear h1 h2 h3 h4 h5 hi1 hi2 g1 g2 hcb hp hb hnn
            cases b with
            | false =>
              go_enter Tryd.func75, Tryd.ntmps75
              go_wp2_with fail
              generalize (w.alloc (.cells #[.int .i64 (N : Int), .int .i64 (M : Int), .int .i64 (U : Int)] 44)) = W0 at *
              have HSK := Lib.hid (fun (W' : World) (hb : Ex W0.drew W') => And.intro ((Has.ex (w := W0.drew) HB0.out hb).cell 0) (And.intro ((Has.ex (w := W0.drew) HB0.out hb).cell 1) ((Has.ex (w := W0.drew) HB0.out hb).cell 2)))
              refine wp_region_quiet (C := fun w' => Ex W0.drew w') (by kernel_rfl) (by kernel_rfl) (Ex.refl _) ?_
              refine BigFrame.wpQuiet_want (by rfl) fun K hK => ⟨?_, fun w' hC => ?_, hK _ ?_⟩
              rotate_left
              · (obtain ⟨q0, q1, q2⟩ := HSK.out _ hC; go_simp; first | done | with_reducible rfl | exact ⟨rfl, hC⟩)
              clear hK K
              simp only [Act.put, List.setIfInBounds_toArray, List.set_cons_zero, List.set_cons_succ]
              refine BigFrame.wpQuiet_want (by rfl) fun K hK => ⟨?_, fun w' hC => ?_, hK _ ?_⟩
              rotate_left
              · (obtain ⟨q0, q1, q2⟩ := HSK.out _ hC; go_simp; first | done | with_reducible rfl | exact ⟨rfl, hC⟩)
              clear hK K
              simp only [Act.put, List.setIfInBounds_toArray, List.set_cons_zero, List.set_cons_succ]
              refine BigFrame.wpQuiet_want (by rfl) fun K hK => ⟨?_, fun w' hC => ?_, hK _ ?_⟩
              rotate_left
              · (obtain ⟨q0, q1, q2⟩ := HSK.out _ hC; go_simp; first | done | with_reducible rfl | exact ⟨rfl, hC⟩)
              clear hK K
              simp only [Act.put, List.setIfInBounds_toArray, List.set_cons_zero, List.set_cons_succ]
              refine BigFrame.wpQuiet_want (by rfl) fun K hK => ⟨?_, fun w' hC => ?_, hK _ ?_⟩
              rotate_left
              · (obtain ⟨q0, q1, q2⟩ := HSK.out _ hC; go_simp; first | done | with_reducible rfl | exact ⟨rfl, hC⟩)
              clear hK K
              simp only [Act.put, List.setIfInBounds_toArray, List.set_cons_zero, List.set_cons_succ]
              refine BigFrame.wpQuiet_want (by rfl) fun K hK => ⟨?_, fun w' hC => ?_, hK _ ?_⟩
              rotate_left
              · (obtain ⟨q0, q1, q2⟩ := HSK.out _ hC; go_simp; first | done | with_reducible rfl | exact ⟨rfl, hC⟩)
              clear hK K
              simp only [Act.put, List.setIfInBounds_toArray, List.set_cons_zero, List.set_cons_succ]
              refine BigFrame.wpQuiet_want (by rfl) fun K hK => ⟨?_, fun w' hC => ?_, hK _ ?_⟩
              rotate_left
              · (obtain ⟨q0, q1, q2⟩ := HSK.out _ hC; go_simp; first | done | with_reducible rfl | exact ⟨rfl, hC⟩)
              clear hK K
              simp only [Act.put, List.setIfInBounds_toArray, List.set_cons_zero, List.set_cons_succ]
              refine BigFrame.wpQuiet_want (by rfl) fun K hK => ⟨?_, fun w' hC => ?_, hK _ ?_⟩
              rotate_left
              · (obtain ⟨q0, q1, q2⟩ := HSK.out _ hC; go_simp; first | done | with_reducible rfl | exact ⟨rfl, hC⟩)
              clear hK K
              simp only [Act.put, List.setIfInBounds_toArray, List.set_cons_zero, List.set_cons_succ]
              refine BigFrame.wpQuiet_want (by rfl) fun K hK => ⟨?_, fun w' hC => ?_, hK _ ?_⟩
              rotate_left
              · (obtain ⟨q0, q1, q2⟩ := HSK.out _ hC; go_simp; first | done | with_reducible rfl | exact ⟨rfl, hC⟩)
              clear hK K
              simp only [Act.put, List.setIfInBounds_toArray, List.set_cons_zero, List.set_cons_succ]
              refine BigFrame.wpQuiet_want (by rfl) fun K hK => ⟨?_, fun w' hC => ?_, hK _ ?_⟩
              rotate_left
              · (obtain ⟨q0, q1, q2⟩ := HSK.out _ hC; go_simp; first | done | with_reducible rfl | exact ⟨rfl, hC⟩)
              clear hK K
              simp only [Act.put, List.setIfInBounds_toArray, List.set_cons_zero, List.set_cons_succ]
              refine BigFrame.wpQuiet_want (by rfl) fun K hK => ⟨?_, fun w' hC => ?_, hK _ ?_⟩
              rotate_left
              · (obtain ⟨q0, q1, q2⟩ := HSK.out _ hC; go_simp; first | done | with_reducible rfl | exact ⟨rfl, hC⟩)
              clear hK K
              simp only [Act.put, List.setIfInBounds_toArray, List.set_cons_zero, List.set_cons_succ]
              refine BigFrame.wpQuiet_want (by rfl) fun K hK => ⟨?_, fun w' hC => ?_, hK _ ?_⟩
              rotate_left
              · (obtain ⟨q0, q1, q2⟩ := HSK.out _ hC; go_simp; first | done | with_reducible rfl | exact ⟨rfl, hC⟩)
              clear hK K
              simp only [Act.put, List.setIfInBounds_toArray, List.set_cons_zero, List.set_cons_succ]
              refine BigFrame.wpQuiet_want (by rfl) fun K hK => ⟨?_, fun w' hC => ?_, hK _ ?_⟩
              rotate_left
              · (obtain ⟨q0, q1, q2⟩ := HSK.out _ hC; go_simp; first | done | with_reducible rfl | exact ⟨rfl, hC⟩)
              clear hK K
              simp only [Act.put, List.setIfInBounds_toArray, List.set_cons_zero, List.set_cons_succ]
              refine BigFrame.wpQuiet_want (by rfl) fun K hK => ⟨?_, fun w' hC => ?_, hK _ ?_⟩
              rotate_left
              · (obtain ⟨q0, q1, q2⟩ := HSK.out _ hC; go_simp; first | done | with_reducible rfl | exact ⟨rfl, hC⟩)
              clear hK K
              simp only [Act.put, List.setIfInBounds_toArray, List.set_cons_zero, List.set_cons_succ]
              refine BigFrame.wpQuiet_want (by rfl) fun K hK => ⟨?_, fun w' hC => ?_, hK _ ?_⟩
              rotate_left
              · (obtain ⟨q0, q1, q2⟩ := HSK.out _ hC; go_simp; first | done | with_reducible rfl | exact ⟨rfl, hC⟩)
              clear hK K
              simp only [Act.put, List.setIfInBounds_toArray, List.set_cons_zero, List.set_cons_succ]
              refine BigFrame.wpQuiet_want (by rfl) fun K hK => ⟨?_, fun w' hC => ?_, hK _ ?_⟩
              rotate_left
              · (obtain ⟨q0, q1, q2⟩ := HSK.out _ hC; go_simp; first | done | with_reducible rfl | exact ⟨rfl, hC⟩)
              clear hK K
              simp only [Act.put, List.setIfInBounds_toArray, List.set_cons_zero, List.set_cons_succ]
              refine BigFrame.wpQuiet_want (by rfl) fun K hK => ⟨?_, fun w' hC => ?_, hK _ ?_⟩
              rotate_left
              · (obtain ⟨q0, q1, q2⟩ := HSK.out _ hC; go_simp; first | done | with_reducible rfl | exact ⟨rfl, hC⟩)
              clear hK K
              simp only [Act.put, List.setIfInBounds_toArray, List.set_cons_zero, List.set_cons_succ]
              refine BigFrame.wpQuiet_want (by rfl) fun K hK => ⟨?_, fun w' hC => ?_, hK _ ?_⟩
              rotate_left
              · (obtain ⟨q0, q1, q2⟩ := HSK.out _ hC; go_simp; first | done | with_reducible rfl | exact ⟨rfl, hC⟩)
              clear hK K
              simp only [Act.put, List.setIfInBounds_toArray, List.set_cons_zero, List.set_cons_succ]
              refine BigFrame.wpQuiet_want (by rfl) fun K hK => ⟨?_, fun w' hC => ?_, hK _ ?_⟩
              rotate_left
              · (obtain ⟨q0, q1, q2⟩ := HSK.out _ hC; go_simp; first | done | with_reducible rfl | exact ⟨rfl, hC⟩)
              clear hK K
              simp only [Act.put, List.setIfInBounds_toArray, List.set_cons_zero, List.set_cons_succ]
              refine BigFrame.wpQuiet_want (by rfl) fun K hK => ⟨?_, fun w' hC => ?_, hK _ ?_⟩
              rotate_left
              · (obtain ⟨q0, q1, q2⟩ := HSK.out _ hC; go_simp; first | done | with_reducible rfl | exact ⟨rfl, hC⟩)
              clear hK K
              simp only [Act.put, List.setIfInBounds_toArray, List.set_cons_zero, List.set_cons_succ]
              refine BigFrame.wpQuiet_want (by rfl) fun K hK => ⟨?_, fun w' hC => ?_, hK _ ?_⟩
              rotate_left
              · (obtain ⟨q0, q1, q2⟩ := HSK.out _ hC; go_simp; first | done | with_reducible rfl | exact ⟨rfl, hC⟩)
              clear hK K
              simp only [Act.put, List.setIfInBounds_toArray, List.set_cons_zero, List.set_cons_succ]
              refine BigFrame.wpQuiet_want (by rfl) fun K hK => ⟨?_, fun w' hC => ?_, hK _ ?_⟩
              rotate_left
              · (obtain ⟨q0, q1, q2⟩ := HSK.out _ hC; go_simp; first | done | with_reducible rfl | exact ⟨rfl, hC⟩)
              clear hK K
              simp only [Act.put, List.setIfInBounds_toArray, List.set_cons_zero, List.set_cons_succ]
              refine BigFrame.wpQuiet_want (by rfl) fun K hK => ⟨?_, fun w' hC => ?_, hK _ ?_⟩
              rotate_left
              · (obtain ⟨q0, q1, q2⟩ := HSK.out _ hC; go_simp; first | done | with_reducible rfl | exact ⟨rfl, hC⟩)
              clear hK K
              simp only [Act.put, List.setIfInBounds_toArray, List.set_cons_zero, List.set_cons_succ]
              refine BigFrame.wpQuiet_want (by rfl) fun K hK => ⟨?_, fun w' hC => ?_, hK _ ?_⟩
              rotate_left
              · (obtain ⟨q0, q1, q2⟩ := HSK.out _ hC; go_simp; first | done | with_reducible rfl | exact ⟨rfl, hC⟩)
              clear hK K
              simp only [Act.put, List.setIfInBounds_toArray, List.set_cons_zero, List.set_cons_succ]
              refine BigFrame.wpQuiet_want (by rfl) fun K hK => ⟨.bool true, fun w' hC => (by go_simp; refine ((HU.out w')).mono ?_; rintro e w2 ⟨rfl, hb⟩; exact ⟨rfl, hC.trans hb⟩), hK _ ?_⟩
              clear hK K
              simp only [Act.put, List.setIfInBounds_toArray, List.set_cons_zero, List.set_cons_succ]
              refine BigFrame.wpQuiet_want (by rfl) fun K hK => ⟨?_, fun w' hC => ?_, hK _ ?_⟩
              rotate_left
              · (obtain ⟨q0, q1, q2⟩ := HSK.out _ hC; go_simp; first | done | with_reducible rfl | exact ⟨rfl, hC⟩)
              clear hK K
              simp only [Act.put, List.setIfInBounds_toArray, List.set_cons_zero, List.set_cons_succ]
              refine BigFrame.wpQuiet_want (by rfl) fun K hK => ⟨?_, fun w' hC => ?_, hK _ ?_⟩
              rotate_left
              · (obtain ⟨q0, q1, q2⟩ := HSK.out _ hC; go_simp; first | done | with_reducible rfl | exact ⟨rfl, hC⟩)
              clear hK K
              simp only [Act.put, List.setIfInBounds_toArray, List.set_cons_zero, List.set_cons_succ]
              refine BigFrame.wpQuiet_want (by rfl) fun K hK => ⟨?_, fun w' hC => ?_, hK _ ?_⟩
              rotate_left
              · (obtain ⟨q0, q1, q2⟩ := HSK.out _ hC; go_simp; first | done | with_reducible rfl | exact ⟨rfl, hC⟩)
              clear hK K
              simp only [Act.put, List.setIfInBounds_toArray, List.set_cons_zero, List.set_cons_succ]
              refine BigFrame.wpQuiet_want (by rfl) fun K hK => ⟨?_, fun w' hC => ?_, hK _ ?_⟩
              rotate_left
              · (obtain ⟨q0, q1, q2⟩ := HSK.out _ hC; go_simp; first | done | with_reducible rfl | exact ⟨rfl, hC⟩)
              clear hK K
              simp only [Act.put, List.setIfInBounds_toArray, List.set_cons_zero, List.set_cons_succ]
              refine BigFrame.wpQuiet_want (by rfl) fun K hK => ⟨?_, fun w' hC => ?_, hK _ ?_⟩
              rotate_left
              · (obtain ⟨q0, q1, q2⟩ := HSK.out _ hC; go_simp; first | done | with_reducible rfl | exact ⟨rfl, hC⟩)
              clear hK K
              simp only [Act.put, List.setIfInBounds_toArray, List.set_cons_zero, List.set_cons_succ]
              refine BigFrame.wpQuiet_want (by rfl) fun K hK => ⟨.agg #[.int .i64 1, .int .i64 (M : Int), .int .i64 (p : Int)], fun w' hC => (by go_simp; refine ((HRD.out w')).mono ?_; rintro e w2 ⟨rfl, hb⟩; exact ⟨rfl, hC.trans hb⟩), hK _ ?_⟩
              clear hK K
              simp only [Act.put, List.setIfInBounds_toArray, List.set_cons_zero, List.set_cons_succ]
              refine BigFrame.wpQuiet_want (by rfl) fun K hK => ⟨?_, fun w' hC => ?_, hK _ ?_⟩
              rotate_left
              · (obtain ⟨q0, q1, q2⟩ := HSK.out _ hC; go_simp; first | done | with_reducible rfl | exact ⟨rfl, hC⟩)
              clear hK K
              simp only [Act.put, List.setIfInBounds_toArray, List.set_cons_zero, List.set_cons_succ]
              refine BigFrame.wpQuiet_want (by rfl) fun K hK => ⟨?_, fun w' hC => ?_, hK _ ?_⟩
              rotate_left
              · (obtain ⟨q0, q1, q2⟩ := HSK.out _ hC; go_simp; first | done | with_reducible rfl | exact ⟨rfl, hC⟩)
              clear hK K
              simp only [Act.put, List.setIfInBounds_toArray, List.set_cons_zero, List.set_cons_succ]
              refine BigFrame.wpQuiet_want (by rfl) fun K hK => ⟨?_, fun w' hC => ?_, hK _ ?_⟩
              rotate_left
              · (obtain ⟨q0, q1, q2⟩ := HSK.out _ hC; go_simp; first | done | with_reducible rfl | exact ⟨rfl, hC⟩)
              clear hK K
              simp only [Act.put, List.setIfInBounds_toArray, List.set_cons_zero, List.set_cons_succ]
              refine BigFrame.wpQuiet_want (by rfl) fun K hK => ⟨?_, fun w' hC => ?_, hK _ ?_⟩
              rotate_left
              · (obtain ⟨q0, q1, q2⟩ := HSK.out _ hC; go_simp; first | done | with_reducible rfl | exact ⟨rfl, hC⟩)
              clear hK K
              simp only [Act.put, List.setIfInBounds_toArray, List.set_cons_zero, List.set_cons_succ]
              refine BigFrame.wpQuiet_want (by rfl) fun K hK => ⟨?_, fun w' hC => ?_, hK _ ?_⟩
              rotate_left
              · (obtain ⟨q0, q1, q2⟩ := HSK.out _ hC; go_simp; first | done | with_reducible rfl | exact ⟨rfl, hC⟩)
              clear hK K
              simp only [Act.put, List.setIfInBounds_toArray, List.set_cons_zero, List.set_cons_succ]
              refine BigFrame.wpQuiet_want (by rfl) fun K hK => ⟨?_, fun w' hC => ?_, hK _ ?_⟩
              rotate_left
              · (obtain ⟨q0, q1, q2⟩ := HSK.out _ hC; go_simp; first | done | with_reducible rfl | exact ⟨rfl, hC⟩)
              clear hK K
              simp only [Act.put, List.setIfInBounds_toArray, List.set_cons_zero, List.set_cons_succ]
              refine wpQuiet_nil ?_
              intro w2 hC2
              have HC2 := Lib.hid hC2
              clear hC2
              go_wp2_with fail
              go_ret
              exact ⟨by rw [HC.out]; rfl, HE.out.trans ((Ex.refl W0).drew.trans HC2.out)⟩
            | true =>
              go_enter Tryd.func75, Tryd.ntmps75
              go_wp2_with fail
              generalize (w.alloc (.cells #[.int .i64 (N : Int), .int .i64 (M : Int), .int .i64 (U : Int)] 44)) = W0 at *
              have HSK := Lib.hid (fun (W' : World) (hb : Ex W0.drew W') => And.intro ((Has.ex (w := W0.drew) HB0.out hb).cell 0) (And.intro ((Has.ex (w := W0.drew) HB0.out hb).cell 1) ((Has.ex (w := W0.drew) HB0.out hb).cell 2)))
              refine wp_region_quiet (C := fun w' => Ex W0.drew w') (by kernel_rfl) (by kernel_rfl) (Ex.refl _) ?_
              refine BigFrame.wpQuiet_want (by rfl) fun K hK => ⟨?_, fun w' hC => ?_, hK _ ?_⟩
              rotate_left
              · (obtain ⟨q0, q1, q2⟩ := HSK.out _ hC; go_simp; first | done | with_reducible rfl | exact ⟨rfl, hC⟩)
              clear hK K
              simp only [Act.put, List.setIfInBounds_toArray, List.set_cons_zero, List.set_cons_succ]
              refine BigFrame.wpQuiet_want (by rfl) fun K hK => ⟨?_, fun w' hC => ?_, hK _ ?_⟩
              rotate_left
              · (obtain ⟨q0, q1, q2⟩ := HSK.out _ hC; go_simp; first | done | with_reducible rfl | exact ⟨rfl, hC⟩)
              clear hK K
              simp only [Act.put, List.setIfInBounds_toArray, List.set_cons_zero, List.set_cons_succ]
              refine BigFrame.wpQuiet_want (by rfl) fun K hK => ⟨?_, fun w' hC => ?_, hK _ ?_⟩
              rotate_left
              · (obtain ⟨q0, q1, q2⟩ := HSK.out _ hC; go_simp; first | done | with_reducible rfl | exact ⟨rfl, hC⟩)
              clear hK K
              simp only [Act.put, List.setIfInBounds_toArray, List.set_cons_zero, List.set_cons_succ]
              refine BigFrame.wpQuiet_want (by rfl) fun K hK => ⟨?_, fun w' hC => ?_, hK _ ?_⟩
              rotate_left
              · (obtain ⟨q0, q1, q2⟩ := HSK.out _ hC; go_simp; first | done | with_reducible rfl | exact ⟨rfl, hC⟩)
              clear hK K
              simp only [Act.put, List.setIfInBounds_toArray, List.set_cons_zero, List.set_cons_succ]
              refine BigFrame.wpQuiet_want (by rfl) fun K hK => ⟨?_, fun w' hC => ?_, hK _ ?_⟩
              rotate_left
              · (obtain ⟨q0, q1, q2⟩ := HSK.out _ hC; go_simp; first | done | with_reducible rfl | exact ⟨rfl, hC⟩)
              clear hK K
              simp only [Act.put, List.setIfInBounds_toArray, List.set_cons_zero, List.set_cons_succ]
              refine BigFrame.wpQuiet_want (by rfl) fun K hK => ⟨?_, fun w' hC => ?_, hK _ ?_⟩
              rotate_left
              · (obtain ⟨q0, q1, q2⟩ := HSK.out _ hC; go_simp; first | done | with_reducible rfl | exact ⟨rfl, hC⟩)
              clear hK K
              simp only [Act.put, List.setIfInBounds_toArray, List.set_cons_zero, List.set_cons_succ]
              refine BigFrame.wpQuiet_want (by rfl) fun K hK => ⟨?_, fun w' hC => ?_, hK _ ?_⟩
              rotate_left
              · (obtain ⟨q0, q1, q2⟩ := HSK.out _ hC; go_simp; first | done | with_reducible rfl | exact ⟨rfl, hC⟩)
              clear hK K
              simp only [Act.put, List.setIfInBounds_toArray, List.set_cons_zero, List.set_cons_succ]
              refine BigFrame.wpQuiet_want (by rfl) fun K hK => ⟨?_, fun w' hC => ?_, hK _ ?_⟩
              rotate_left
              · (obtain ⟨q0, q1, q2⟩ := HSK.out _ hC; go_simp; first | done | with_reducible rfl | exact ⟨rfl, hC⟩)
              clear hK K
              simp only [Act.put, List.setIfInBounds_toArray, List.set_cons_zero, List.set_cons_succ]
              refine BigFrame.wpQuiet_want (by rfl) fun K hK => ⟨?_, fun w' hC => ?_, hK _ ?_⟩
              rotate_left
              · (obtain ⟨q0, q1, q2⟩ := HSK.out _ hC; go_simp; first | done | with_reducible rfl | exact ⟨rfl, hC⟩)
              clear hK K
              simp only [Act.put, List.setIfInBounds_toArray, List.set_cons_zero, List.set_cons_succ]
              refine BigFrame.wpQuiet_want (by rfl) fun K hK => ⟨?_, fun w' hC => ?_, hK _ ?_⟩
              rotate_left
              · (obtain ⟨q0, q1, q2⟩ := HSK.out _ hC; go_simp; first | done | with_reducible rfl | exact ⟨rfl, hC⟩)
              clear hK K
              simp only [Act.put, List.setIfInBounds_toArray, List.set_cons_zero, List.set_cons_succ]
              refine BigFrame.wpQuiet_want (by rfl) fun K hK => ⟨?_, fun w' hC => ?_, hK _ ?_⟩
              rotate_left
              · (obtain ⟨q0, q1, q2⟩ := HSK.out _ hC; go_simp; first | done | with_reducible rfl | exact ⟨rfl, hC⟩)
              clear hK K
              simp only [Act.put, List.setIfInBounds_toArray, List.set_cons_zero, List.set_cons_succ]
              refine BigFrame.wpQuiet_want (by rfl) fun K hK => ⟨?_, fun w' hC => ?_, hK _ ?_⟩
              rotate_left
              · (obtain ⟨q0, q1, q2⟩ := HSK.out _ hC; go_simp; first | done | with_reducible rfl | exact ⟨rfl, hC⟩)
              clear hK K
              simp only [Act.put, List.setIfInBounds_toArray, List.set_cons_zero, List.set_cons_succ]
              refine BigFrame.wpQuiet_want (by rfl) fun K hK => ⟨?_, fun w' hC => ?_, hK _ ?_⟩
              rotate_left
              · (obtain ⟨q0, q1, q2⟩ := HSK.out _ hC; go_simp; first | done | with_reducible rfl | exact ⟨rfl, hC⟩)
              clear hK K
              simp only [Act.put, List.setIfInBounds_toArray, List.set_cons_zero, List.set_cons_succ]
              refine BigFrame.wpQuiet_want (by rfl) fun K hK => ⟨?_, fun w' hC => ?_, hK _ ?_⟩
              rotate_left
              · (obtain ⟨q0, q1, q2⟩ := HSK.out _ hC; go_simp; first | done | with_reducible rfl | exact ⟨rfl, hC⟩)
              clear hK K
              simp only [Act.put, List.setIfInBounds_toArray, List.set_cons_zero, List.set_cons_succ]
              refine BigFrame.wpQuiet_want (by rfl) fun K hK => ⟨?_, fun w' hC => ?_, hK _ ?_⟩
              rotate_left
              · (obtain ⟨q0, q1, q2⟩ := HSK.out _ hC; go_simp; first | done | with_reducible rfl | exact ⟨rfl, hC⟩)
              clear hK K
              simp only [Act.put, List.setIfInBounds_toArray, List.set_cons_zero, List.set_cons_succ]
              refine BigFrame.wpQuiet_want (by rfl) fun K hK => ⟨?_, fun w' hC => ?_, hK _ ?_⟩
              rotate_left
              · (obtain ⟨q0, q1, q2⟩ := HSK.out _ hC; go_simp; first | done | with_reducible rfl | exact ⟨rfl, hC⟩)
              clear hK K
              simp only [Act.put, List.setIfInBounds_toArray, List.set_cons_zero, List.set_cons_succ]
              refine BigFrame.wpQuiet_want (by rfl) fun K hK => ⟨?_, fun w' hC => ?_, hK _ ?_⟩
              rotate_left
              · (obtain ⟨q0, q1, q2⟩ := HSK.out _ hC; go_simp; first | done | with_reducible rfl | exact ⟨rfl, hC⟩)
              clear hK K
              simp only [Act.put, List.setIfInBounds_toArray, List.set_cons_zero, List.set_cons_succ]
              refine BigFrame.wpQuiet_want (by rfl) fun K hK => ⟨?_, fun w' hC => ?_, hK _ ?_⟩
              rotate_left
              · (obtain ⟨q0, q1, q2⟩ := HSK.out _ hC; go_simp; first | done | with_reducible rfl | exact ⟨rfl, hC⟩)
              clear hK K
              simp only [Act.put, List.setIfInBounds_toArray, List.set_cons_zero, List.set_cons_succ]
              refine BigFrame.wpQuiet_want (by rfl) fun K hK => ⟨?_, fun w' hC => ?_, hK _ ?_⟩
              rotate_left
              · (obtain ⟨q0, q1, q2⟩ := HSK.out _ hC; go_simp; first | done | with_reducible rfl | exact ⟨rfl, hC⟩)
              clear hK K
              simp only [Act.put, List.setIfInBounds_toArray, List.set_cons_zero, List.set_cons_succ]
              refine BigFrame.wpQuiet_want (by rfl) fun K hK => ⟨?_, fun w' hC => ?_, hK _ ?_⟩
              rotate_left
              · (obtain ⟨q0, q1, q2⟩ := HSK.out _ hC; go_simp; first | done | with_reducible rfl | exact ⟨rfl, hC⟩)
              clear hK K
              simp only [Act.put, List.setIfInBounds_toArray, List.set_cons_zero, List.set_cons_succ]
              refine BigFrame.wpQuiet_want (by rfl) fun K hK => ⟨?_, fun w' hC => ?_, hK _ ?_⟩
              rotate_left
              · (obtain ⟨q0, q1, q2⟩ := HSK.out _ hC; go_simp; first | done | with_reducible rfl | exact ⟨rfl, hC⟩)
              clear hK K
              simp only [Act.put, List.setIfInBounds_toArray, List.set_cons_zero, List.set_cons_succ]
              refine BigFrame.wpQuiet_want (by rfl) fun K hK => ⟨?_, fun w' hC => ?_, hK _ ?_⟩
              rotate_left
              · (obtain ⟨q0, q1, q2⟩ := HSK.out _ hC; go_simp; first | done | with_reducible rfl | exact ⟨rfl, hC⟩)
              clear hK K
              simp only [Act.put, List.setIfInBounds_toArray, List.set_cons_zero, List.set_cons_succ]
              refine BigFrame.wpQuiet_want (by rfl) fun K hK => ⟨?_, fun w' hC => ?_, hK _ ?_⟩
              rotate_left
              · (obtain ⟨q0, q1, q2⟩ := HSK.out _ hC; go_simp; first | done | with_reducible rfl | exact ⟨rfl, hC⟩)
              clear hK K
              simp only [Act.put, List.setIfInBounds_toArray, List.set_cons_zero, List.set_cons_succ]
              refine BigFrame.wpQuiet_want (by rfl) fun K hK => ⟨.bool true, fun w' hC => (by go_simp; refine ((HU.out w')).mono ?_; rintro e w2 ⟨rfl, hb⟩; exact ⟨rfl, hC.trans hb⟩), hK _ ?_⟩
              clear hK K
              simp only [Act.put, List.setIfInBounds_toArray, List.set_cons_zero, List.set_cons_succ]
              refine BigFrame.wpQuiet_want (by rfl) fun K hK => ⟨?_, fun w' hC => ?_, hK _ ?_⟩
              rotate_left
              · (obtain ⟨q0, q1, q2⟩ := HSK.out _ hC; go_simp; first | done | with_reducible rfl | exact ⟨rfl, hC⟩)
              clear hK K
              simp only [Act.put, List.setIfInBounds_toArray, List.set_cons_zero, List.set_cons_succ]
              refine BigFrame.wpQuiet_want (by rfl) fun K hK => ⟨?_, fun w' hC => ?_, hK _ ?_⟩
              rotate_left
              · (obtain ⟨q0, q1, q2⟩ := HSK.out _ hC; go_simp; first | done | with_reducible rfl | exact ⟨rfl, hC⟩)
              clear hK K
              simp only [Act.put, List.setIfInBounds_toArray, List.set_cons_zero, List.set_cons_succ]
              refine BigFrame.wpQuiet_want (by rfl) fun K hK => ⟨?_, fun w' hC => ?_, hK _ ?_⟩
              rotate_left
              · (obtain ⟨q0, q1, q2⟩ := HSK.out _ hC; go_simp; first | done | with_reducible rfl | exact ⟨rfl, hC⟩)
              clear hK K
              simp only [Act.put, List.setIfInBounds_toArray, List.set_cons_zero, List.set_cons_succ]
              refine BigFrame.wpQuiet_want (by rfl) fun K hK => ⟨?_, fun w' hC => ?_, hK _ ?_⟩
              rotate_left
              · (obtain ⟨q0, q1, q2⟩ := HSK.out _ hC; go_simp; first | done | with_reducible rfl | exact ⟨rfl, hC⟩)
              clear hK K
              simp only [Act.put, List.setIfInBounds_toArray, List.set_cons_zero, List.set_cons_succ]
              refine BigFrame.wpQuiet_want (by rfl) fun K hK => ⟨?_, fun w' hC => ?_, hK _ ?_⟩
              rotate_left
              · (obtain ⟨q0, q1, q2⟩ := HSK.out _ hC; go_simp; first | done | with_reducible rfl | exact ⟨rfl, hC⟩)
              clear hK K
              simp only [Act.put, List.setIfInBounds_toArray, List.set_cons_zero, List.set_cons_succ]
              refine BigFrame.wpQuiet_want (by rfl) fun K hK => ⟨.agg #[.int .i64 1, .int .i64 (M : Int), .int .i64 (p : Int)], fun w' hC => (by go_simp; refine ((HRD.out w')).mono ?_; rintro e w2 ⟨rfl, hb⟩; exact ⟨rfl, hC.trans hb⟩), hK _ ?_⟩
              clear hK K
              simp only [Act.put, List.setIfInBounds_toArray, List.set_cons_zero, List.set_cons_succ]
              refine BigFrame.wpQuiet_want (by rfl) fun K hK => ⟨?_, fun w' hC => ?_, hK _ ?_⟩
              rotate_left
              · (obtain ⟨q0, q1, q2⟩ := HSK.out _ hC; go_simp; first | done | with_reducible rfl | exact ⟨rfl, hC⟩)
              clear hK K
              simp only [Act.put, List.setIfInBounds_toArray, List.set_cons_zero, List.set_cons_succ]
              refine BigFrame.wpQuiet_want (by rfl) fun K hK => ⟨?_, fun w' hC => ?_, hK _ ?_⟩
              rotate_left
              · (obtain ⟨q0, q1, q2⟩ := HSK.out _ hC; go_simp; first | done | with_reducible rfl | exact ⟨rfl, hC⟩)
              clear hK K
              simp only [Act.put, List.setIfInBounds_toArray, List.set_cons_zero, List.set_cons_succ]
              refine BigFrame.wpQuiet_want (by rfl) fun K hK => ⟨?_, fun w' hC => ?_, hK _ ?_⟩
              rotate_left
              · (obtain ⟨q0, q1, q2⟩ := HSK.out _ hC; go_simp; first | done | with_reducible rfl | exact ⟨rfl, hC⟩)
              clear hK K
              simp only [Act.put, List.setIfInBounds_toArray, List.set_cons_zero, List.set_cons_succ]
              refine BigFrame.wpQuiet_want (by rfl) fun K hK => ⟨?_, fun w' hC => ?_, hK _ ?_⟩
              rotate_left
              · (obtain ⟨q0, q1, q2⟩ := HSK.out _ hC; go_simp; first | done | with_reducible rfl | exact ⟨rfl, hC⟩)
              clear hK K
              simp only [Act.put, List.setIfInBounds_toArray, List.set_cons_zero, List.set_cons_succ]
              refine BigFrame.wpQuiet_want (by rfl) fun K hK => ⟨?_, fun w' hC => ?_, hK _ ?_⟩
              rotate_left
              · (obtain ⟨q0, q1, q2⟩ := HSK.out _ hC; go_simp; first | done | with_reducible rfl | exact ⟨rfl, hC⟩)
              clear hK K
              simp only [Act.put, List.setIfInBounds_toArray, List.set_cons_zero, List.set_cons_succ]
              refine BigFrame.wpQuiet_want (by rfl) fun K hK => ⟨?_, fun w' hC => ?_, hK _ ?_⟩
              rotate_left
              · (obtain ⟨q0, q1, q2⟩ := HSK.out _ hC; go_simp; first | done | with_reducible rfl | exact ⟨rfl, hC⟩)
              clear hK K
              simp only [Act.put, List.setIfInBounds_toArray, List.set_cons_zero, List.set_cons_succ]
              refine wpQuiet_nil ?_
              intro w2 hC2
              have HC2 := Lib.hid hC2
              clear hC2
              go_wp2_with fail
              go_ret
              exact ⟨by rw [HC.out]; rfl, HE.out.trans ((Ex.refl W0).drew.trans HC2.out)⟩
        · have d4 : decide (m ≤ 200) = false := by simp; omega
          have HC : Hid (circB n m u = false) := Lib.hid (circ_off (.inr (.inl (inB_out (.inr (by omega))))))
          clear h1 h2 h3 h4
          go_enter Tryd.func75, Tryd.ntmps75
          go_wp2_with fail
          generalize (w.alloc (.cells #[.int .i64 n, .int .i64 m, .int .i64 u] 44)) = W0 at *
          have HSK := Lib.hid (fun (W' : World) (hb : Ex W0.drew W') => And.intro ((Has.ex (w := W0.drew) HB0.out hb).cell 0) (And.intro ((Has.ex (w := W0.drew) HB0.out hb).cell 1) ((Has.ex (w := W0.drew) HB0.out hb).cell 2)))
          refine wp_region_quiet (C := fun w' => Ex W0.drew w') (by kernel_rfl) (by kernel_rfl) (Ex.refl _) ?_
          refine BigFrame.wpQuiet_want (by rfl) fun K hK => ⟨?_, fun w' hC => ?_, hK _ ?_⟩
          rotate_left
          · (obtain ⟨q0, q1, q2⟩ := HSK.out _ hC; go_simp; first | done | with_reducible rfl | exact ⟨rfl, hC⟩)
          clear hK K
          simp only [Act.put, List.setIfInBounds_toArray, List.set_cons_zero, List.set_cons_succ]
          refine BigFrame.wpQuiet_want (by rfl) fun K hK => ⟨?_, fun w' hC => ?_, hK _ ?_⟩
          rotate_left
          · (obtain ⟨q0, q1, q2⟩ := HSK.out _ hC; go_simp; first | done | with_reducible rfl | exact ⟨rfl, hC⟩)
          clear hK K
          simp only [Act.put, List.setIfInBounds_toArray, List.set_cons_zero, List.set_cons_succ]
          refine BigFrame.wpQuiet_want (by rfl) fun K hK => ⟨?_, fun w' hC => ?_, hK _ ?_⟩
          rotate_left
          · (obtain ⟨q0, q1, q2⟩ := HSK.out _ hC; go_simp; first | done | with_reducible rfl | exact ⟨rfl, hC⟩)
          clear hK K
          simp only [Act.put, List.setIfInBounds_toArray, List.set_cons_zero, List.set_cons_succ]
          refine BigFrame.wpQuiet_want (by rfl) fun K hK => ⟨?_, fun w' hC => ?_, hK _ ?_⟩
          rotate_left
          · (obtain ⟨q0, q1, q2⟩ := HSK.out _ hC; go_simp; first | done | with_reducible rfl | exact ⟨rfl, hC⟩)
          clear hK K
          simp only [Act.put, List.setIfInBounds_toArray, List.set_cons_zero, List.set_cons_succ]
          refine BigFrame.wpQuiet_want (by rfl) fun K hK => ⟨?_, fun w' hC => ?_, hK _ ?_⟩
          rotate_left
          · (obtain ⟨q0, q1, q2⟩ := HSK.out _ hC; go_simp; first | done | with_reducible rfl | exact ⟨rfl, hC⟩)
          clear hK K
          simp only [Act.put, List.setIfInBounds_toArray, List.set_cons_zero, List.set_cons_succ]
          refine BigFrame.wpQuiet_want (by rfl) fun K hK => ⟨?_, fun w' hC => ?_, hK _ ?_⟩
          rotate_left
          · (obtain ⟨q0, q1, q2⟩ := HSK.out _ hC; go_simp; first | done | with_reducible rfl | exact ⟨rfl, hC⟩)
          clear hK K
          simp only [Act.put, List.setIfInBounds_toArray, List.set_cons_zero, List.set_cons_succ]
          refine BigFrame.wpQuiet_want (by rfl) fun K hK => ⟨?_, fun w' hC => ?_, hK _ ?_⟩
          rotate_left
          · (obtain ⟨q0, q1, q2⟩ := HSK.out _ hC; go_simp; first | done | with_reducible rfl | exact ⟨rfl, hC⟩)
          clear hK K
          simp only [Act.put, List.setIfInBounds_toArray, List.set_cons_zero, List.set_cons_succ]
          refine BigFrame.wpQuiet_want (by rfl) fun K hK => ⟨?_, fun w' hC => ?_, hK _ ?_⟩
          rotate_left
          · (obtain ⟨q0, q1, q2⟩ := HSK.out _ hC; go_simp; first | done | with_reducible rfl | exact ⟨rfl, hC⟩)
          clear hK K
          simp only [Act.put, List.setIfInBounds_toArray, List.set_cons_zero, List.set_cons_succ]
          refine BigFrame.wpQuiet_want (by rfl) fun K hK => ⟨?_, fun w' hC => ?_, hK _ ?_⟩
          rotate_left
          · (obtain ⟨q0, q1, q2⟩ := HSK.out _ hC; go_simp; first | done | with_reducible rfl | exact ⟨rfl, hC⟩)
          clear hK K
          simp only [Act.put, List.setIfInBounds_toArray, List.set_cons_zero, List.set_cons_succ]
          refine BigFrame.wpQuiet_want (by rfl) fun K hK => ⟨?_, fun w' hC => ?_, hK _ ?_⟩
          rotate_left
          · (obtain ⟨q0, q1, q2⟩ := HSK.out _ hC; go_simp; first | done | with_reducible rfl | exact ⟨rfl, hC⟩)
          clear hK K
          simp only [Act.put, List.setIfInBounds_toArray, List.set_cons_zero, List.set_cons_succ]
          refine BigFrame.wpQuiet_want (by rfl) fun K hK => ⟨?_, fun w' hC => ?_, hK _ ?_⟩
          rotate_left
          · (obtain ⟨q0, q1, q2⟩ := HSK.out _ hC; go_simp; first | done | with_reducible rfl | exact ⟨rfl, hC⟩)
          clear hK K
          simp only [Act.put, List.setIfInBounds_toArray, List.set_cons_zero, List.set_cons_succ]
          refine BigFrame.wpQuiet_want (by rfl) fun K hK => ⟨?_, fun w' hC => ?_, hK _ ?_⟩
          rotate_left
          · (obtain ⟨q0, q1, q2⟩ := HSK.out _ hC; go_simp; first | done | with_reducible rfl | exact ⟨rfl, hC⟩)
          clear hK K
          simp only [Act.put, List.setIfInBounds_toArray, List.set_cons_zero, List.set_cons_succ]
          refine BigFrame.wpQuiet_want (by rfl) fun K hK => ⟨?_, fun w' hC => ?_, hK _ ?_⟩
          rotate_left
          · (obtain ⟨q0, q1, q2⟩ := HSK.out _ hC; go_simp; first | done | with_reducible rfl | exact ⟨rfl, hC⟩)
          clear hK K
          simp only [Act.put, List.setIfInBounds_toArray, List.set_cons_zero, List.set_cons_succ]
          refine BigFrame.wpQuiet_want (by rfl) fun K hK => ⟨?_, fun w' hC => ?_, hK _ ?_⟩
          rotate_left
          · (obtain ⟨q0, q1, q2⟩ := HSK.out _ hC; go_simp; first | done | with_reducible rfl | exact ⟨rfl, hC⟩)
          clear hK K
          simp only [Act.put, List.setIfInBounds_toArray, List.set_cons_zero, List.set_cons_succ]
          refine BigFrame.wpQuiet_want (by rfl) fun K hK => ⟨?_, fun w' hC => ?_, hK _ ?_⟩
          rotate_left
          · (obtain ⟨q0, q1, q2⟩ := HSK.out _ hC; go_simp; first | done | with_reducible rfl | exact ⟨rfl, hC⟩)
          clear hK K
          simp only [Act.put, List.setIfInBounds_toArray, List.set_cons_zero, List.set_cons_succ]
          refine BigFrame.wpQuiet_want (by rfl) fun K hK => ⟨?_, fun w' hC => ?_, hK _ ?_⟩
          rotate_left
          · (obtain ⟨q0, q1, q2⟩ := HSK.out _ hC; go_simp; first | done | with_reducible rfl | exact ⟨rfl, hC⟩)
          clear hK K
          simp only [Act.put, List.setIfInBounds_toArray, List.set_cons_zero, List.set_cons_succ]
          refine BigFrame.wpQuiet_want (by rfl) fun K hK => ⟨?_, fun w' hC => ?_, hK _ ?_⟩
          rotate_left
          · (obtain ⟨q0, q1, q2⟩ := HSK.out _ hC; go_simp; first | done | with_reducible rfl | exact ⟨rfl, hC⟩)
          clear hK K
          simp only [Act.put, List.setIfInBounds_toArray, List.set_cons_zero, List.set_cons_succ]
          refine BigFrame.wpQuiet_want (by rfl) fun K hK => ⟨?_, fun w' hC => ?_, hK _ ?_⟩
          rotate_left
          · (obtain ⟨q0, q1, q2⟩ := HSK.out _ hC; go_simp; first | done | with_reducible rfl | exact ⟨rfl, hC⟩)
          clear hK K
          simp only [Act.put, List.setIfInBounds_toArray, List.set_cons_zero, List.set_cons_succ]
          refine BigFrame.wpQuiet_want (by rfl) fun K hK => ⟨?_, fun w' hC => ?_, hK _ ?_⟩
          rotate_left
          · (obtain ⟨q0, q1, q2⟩ := HSK.out _ hC; go_simp; first | done | with_reducible rfl | exact ⟨rfl, hC⟩)
          clear hK K
          simp only [Act.put, List.setIfInBounds_toArray, List.set_cons_zero, List.set_cons_succ]
          refine (BigFrame.wpQuiet_skip ?_ ?_ : _)
          · rfl
          simp only [Act.put, List.setIfInBounds_toArray, List.set_cons_zero, List.set_cons_succ]
          refine (BigFrame.wpQuiet_skip ?_ ?_ : _)
          · rfl
          simp only [Act.put, List.setIfInBounds_toArray, List.set_cons_zero, List.set_cons_succ]
          refine (BigFrame.wpQuiet_skip ?_ ?_ : _)
          · rfl
          simp only [Act.put, List.setIfInBounds_toArray, List.set_cons_zero, List.set_cons_succ]
          refine (BigFrame.wpQuiet_skip ?_ ?_ : _)
          · rfl
          simp only [Act.put, List.setIfInBounds_toArray, List.set_cons_zero, List.set_cons_succ]
          refine (BigFrame.wpQuiet_skip ?_ ?_ : _)
          · rfl
          simp only [Act.put, List.setIfInBounds_toArray, List.set_cons_zero, List.set_cons_succ]
          refine BigFrame.wpQuiet_want (by rfl) fun K hK => ⟨?_, fun w' hC => ?_, hK _ ?_⟩
          rotate_left
          · (obtain ⟨q0, q1, q2⟩ := HSK.out _ hC; go_simp; first | done | with_reducible rfl | exact ⟨rfl, hC⟩)
          clear hK K
          simp only [Act.put, List.setIfInBounds_toArray, List.set_cons_zero, List.set_cons_succ]
          refine BigFrame.wpQuiet_want (by rfl) fun K hK => ⟨?_, fun w' hC => ?_, hK _ ?_⟩
          rotate_left
          · (obtain ⟨q0, q1, q2⟩ := HSK.out _ hC; go_simp; first | done | with_reducible rfl | exact ⟨rfl, hC⟩)
          clear hK K
          simp only [Act.put, List.setIfInBounds_toArray, List.set_cons_zero, List.set_cons_succ]
          refine (BigFrame.wpQuiet_skip ?_ ?_ : _)
          · rfl
          simp only [Act.put, List.setIfInBounds_toArray, List.set_cons_zero, List.set_cons_succ]
          refine (BigFrame.wpQuiet_skip ?_ ?_ : _)
          · rfl
          simp only [Act.put, List.setIfInBounds_toArray, List.set_cons_zero, List.set_cons_succ]
          refine (BigFrame.wpQuiet_skip ?_ ?_ : _)
          · rfl
          simp only [Act.put, List.setIfInBounds_toArray, List.set_cons_zero, List.set_cons_succ]
          refine (BigFrame.wpQuiet_skip ?_ ?_ : _)
          · rfl
          simp only [Act.put, List.setIfInBounds_toArray, List.set_cons_zero, List.set_cons_succ]
          refine (BigFrame.wpQuiet_skip ?_ ?_ : _)
          · rfl
          simp only [Act.put, List.setIfInBounds_toArray, List.set_cons_zero, List.set_cons_succ]
          refine (BigFrame.wpQuiet_skip ?_ ?_ : _)
          · rfl
          simp only [Act.put, List.setIfInBounds_toArray, List.set_cons_zero, List.set_cons_succ]
          refine (BigFrame.wpQuiet_skip ?_ ?_ : _)
          · rfl
          simp only [Act.put, List.setIfInBounds_toArray, List.set_cons_zero, List.set_cons_succ]
          refine (BigFrame.wpQuiet_skip ?_ ?_ : _)
          · rfl
          simp only [Act.put, List.setIfInBounds_toArray, List.set_cons_zero, List.set_cons_succ]
          refine BigFrame.wpQuiet_want (by rfl) fun K hK => ⟨?_, fun w' hC => ?_, hK _ ?_⟩
          rotate_left
          · (obtain ⟨q0, q1, q2⟩ := HSK.out _ hC; go_simp; first | done | with_reducible rfl | exact ⟨rfl, hC⟩)
          clear hK K
          simp only [Act.put, List.setIfInBounds_toArray, List.set_cons_zero, List.set_cons_succ]
          refine BigFrame.wpQuiet_want (by rfl) fun K hK => ⟨?_, fun w' hC => ?_, hK _ ?_⟩
          rotate_left
          · (obtain ⟨q0, q1, q2⟩ := HSK.out _ hC; go_simp; first | done | with_reducible rfl | exact ⟨rfl, hC⟩)
          clear hK K
          simp only [Act.put, List.setIfInBounds_toArray, List.set_cons_zero, List.set_cons_succ]
          refine wpQuiet_nil ?_
          intro w2 hC2
          have HC2 := Lib.hid hC2
          clear hC2
          go_wp2_with fail
          go_ret
          exact ⟨by rw [HC.out]; rfl, HE.out.trans ((Ex.refl W0).drew.trans HC2.out)⟩
      · have d3 : decide (2 ≤ m) = false := by simp; omega
        have HC : Hid (circB n m u = false) := Lib.hid (circ_off (.inr (.inl (inB_out (.inl (by omega))))))
        clear h1 h2 h3
        go_enter Tryd.func75, Tryd.ntmps75
        go_wp2_with fail
        generalize (w.alloc (.cells #[.int .i64 n, .int .i64 m, .int .i64 u] 44)) = W0 at *
        have HSK := Lib.hid (fun (W' : World) (hb : Ex W0.drew W') => And.intro ((Has.ex (w := W0.drew) HB0.out hb).cell 0) (And.intro ((Has.ex (w := W0.drew) HB0.out hb).cell 1) ((Has.ex (w := W0.drew) HB0.out hb).cell 2)))
        refine wp_region_quiet (C := fun w' => Ex W0.drew w') (by kernel_rfl) (by kernel_rfl) (Ex.refl _) ?_
        refine BigFrame.wpQuiet_want (by rfl) fun K hK => ⟨?_, fun w' hC => ?_, hK _ ?_⟩
        rotate_left
        · (obtain ⟨q0, q1, q2⟩ := HSK.out _ hC; go_simp; first | done | with_reducible rfl | exact ⟨rfl, hC⟩)
        clear hK K
        simp only [Act.put, List.setIfInBounds_toArray, List.set_cons_zero, List.set_cons_succ]
        refine BigFrame.wpQuiet_want (by rfl) fun K hK => ⟨?_, fun w' hC => ?_, hK _ ?_⟩
        rotate_left
        · (obtain ⟨q0, q1, q2⟩ := HSK.out _ hC; go_simp; first | done | with_reducible rfl | exact ⟨rfl, hC⟩)
        clear hK K
        simp only [Act.put, List.setIfInBounds_toArray, List.set_cons_zero, List.set_cons_succ]
        refine BigFrame.wpQuiet_want (by rfl) fun K hK => ⟨?_, fun w' hC => ?_, hK _ ?_⟩
        rotate_left
        · (obtain ⟨q0, q1, q2⟩ := HSK.out _ hC; go_simp; first | done | with_reducible rfl | exact ⟨rfl, hC⟩)
        clear hK K
        simp only [Act.put, List.setIfInBounds_toArray, List.set_cons_zero, List.set_cons_succ]
        refine BigFrame.wpQuiet_want (by rfl) fun K hK => ⟨?_, fun w' hC => ?_, hK _ ?_⟩
        rotate_left
        · (obtain ⟨q0, q1, q2⟩ := HSK.out _ hC; go_simp; first | done | with_reducible rfl | exact ⟨rfl, hC⟩)
        clear hK K
        simp only [Act.put, List.setIfInBounds_toArray, List.set_cons_zero, List.set_cons_succ]
        refine BigFrame.wpQuiet_want (by rfl) fun K hK => ⟨?_, fun w' hC => ?_, hK _ ?_⟩
        rotate_left
        · (obtain ⟨q0, q1, q2⟩ := HSK.out _ hC; go_simp; first | done | with_reducible rfl | exact ⟨rfl, hC⟩)
        clear hK K
        simp only [Act.put, List.setIfInBounds_toArray, List.set_cons_zero, List.set_cons_succ]
        refine BigFrame.wpQuiet_want (by rfl) fun K hK => ⟨?_, fun w' hC => ?_, hK _ ?_⟩
        rotate_left
        · (obtain ⟨q0, q1, q2⟩ := HSK.out _ hC; go_simp; first | done | with_reducible rfl | exact ⟨rfl, hC⟩)
        clear hK K
        simp only [Act.put, List.setIfInBounds_toArray, List.set_cons_zero, List.set_cons_succ]
        refine BigFrame.wpQuiet_want (by rfl) fun K hK => ⟨?_, fun w' hC => ?_, hK _ ?_⟩
        rotate_left
        · (obtain ⟨q0, q1, q2⟩ := HSK.out _ hC; go_simp; first | done | with_reducible rfl | exact ⟨rfl, hC⟩)
        clear hK K
        simp only [Act.put, List.setIfInBounds_toArray, List.set_cons_zero, List.set_cons_succ]
        refine BigFrame.wpQuiet_want (by rfl) fun K hK => ⟨?_, fun w' hC => ?_, hK _ ?_⟩
        rotate_left
        · (obtain ⟨q0, q1, q2⟩ := HSK.out _ hC; go_simp; first | done | with_reducible rfl | exact ⟨rfl, hC⟩)
        clear hK K
        simp only [Act.put, List.setIfInBounds_toArray, List.set_cons_zero, List.set_cons_succ]
        refine BigFrame.wpQuiet_want (by rfl) fun K hK => ⟨?_, fun w' hC => ?_, hK _ ?_⟩
        rotate_left
        · (obtain ⟨q0, q1, q2⟩ := HSK.out _ hC; go_simp; first | done | with_reducible rfl | exact ⟨rfl, hC⟩)
        clear hK K
        simp only [Act.put, List.setIfInBounds_toArray, List.set_cons_zero, List.set_cons_succ]
        refine BigFrame.wpQuiet_want (by rfl) fun K hK => ⟨?_, fun w' hC => ?_, hK _ ?_⟩
        rotate_left
        · (obtain ⟨q0, q1, q2⟩ := HSK.out _ hC; go_simp; first | done | with_reducible rfl | exact ⟨rfl, hC⟩)
        clear hK K
        simp only [Act.put, List.setIfInBounds_toArray, List.set_cons_zero, List.set_cons_succ]
        refine BigFrame.wpQuiet_want (by rfl) fun K hK => ⟨?_, fun w' hC => ?_, hK _ ?_⟩
        rotate_left
        · (obtain ⟨q0, q1, q2⟩ := HSK.out _ hC; go_simp; first | done | with_reducible rfl | exact ⟨rfl, hC⟩)
        clear hK K
        simp only [Act.put, List.setIfInBounds_toArray, List.set_cons_zero, List.set_cons_succ]
        refine BigFrame.wpQuiet_want (by rfl) fun K hK => ⟨?_, fun w' hC => ?_, hK _ ?_⟩
        rotate_left
        · (obtain ⟨q0, q1, q2⟩ := HSK.out _ hC; go_simp; first | done | with_reducible rfl | exact ⟨rfl, hC⟩)
        clear hK K
        simp only [Act.put, List.setIfInBounds_toArray, List.set_cons_zero, List.set_cons_succ]
        refine BigFrame.wpQuiet_want (by rfl) fun K hK => ⟨?_, fun w' hC => ?_, hK _ ?_⟩
        rotate_left
        · (obtain ⟨q0, q1, q2⟩ := HSK.out _ hC; go_simp; first | done | with_reducible rfl | exact ⟨rfl, hC⟩)
        clear hK K
        simp only [Act.put, List.setIfInBounds_toArray, List.set_cons_zero, List.set_cons_succ]
        refine BigFrame.wpQuiet_want (by rfl) fun K hK => ⟨?_, fun w' hC => ?_, hK _ ?_⟩
        rotate_left
        · (obtain ⟨q0, q1, q2⟩ := HSK.out _ hC; go_simp; first | done | with_reducible rfl | exact ⟨rfl, hC⟩)
        clear hK K
        simp only [Act.put, List.setIfInBounds_toArray, List.set_cons_zero, List.set_cons_succ]
        refine (BigFrame.wpQuiet_skip ?_ ?_ : _)
        · rfl
        simp only [Act.put, List.setIfInBounds_toArray, List.set_cons_zero, List.set_cons_succ]
        refine (BigFrame.wpQuiet_skip ?_ ?_ : _)
        · rfl
        simp only [Act.put, List.setIfInBounds_toArray, List.set_cons_zero, List.set_cons_succ]
        refine (BigFrame.wpQuiet_skip ?_ ?_ : _)
        · rfl
        simp only [Act.put, List.setIfInBounds_toArray, List.set_cons_zero, List.set_cons_succ]
        refine BigFrame.wpQuiet_want (by rfl) fun K hK => ⟨?_, fun w' hC => ?_, hK _ ?_⟩
        rotate_left
        · (obtain ⟨q0, q1, q2⟩ := HSK.out _ hC; go_simp; first | done | with_reducible rfl | exact ⟨rfl, hC⟩)
        clear hK K
        simp only [Act.put, List.setIfInBounds_toArray, List.set_cons_zero, List.set_cons_succ]
        refine BigFrame.wpQuiet_want (by rfl) fun K hK => ⟨?_, fun w' hC => ?_, hK _ ?_⟩
        rotate_left
        · (obtain ⟨q0, q1, q2⟩ := HSK.out _ hC; go_simp; first | done | with_reducible rfl | exact ⟨rfl, hC⟩)
        clear hK K
        simp only [Act.put, List.setIfInBounds_toArray, List.set_cons_zero, List.set_cons_succ]
        refine (BigFrame.wpQuiet_skip ?_ ?_ : _)
        · rfl
        simp only [Act.put, List.setIfInBounds_toArray, List.set_cons_zero, List.set_cons_succ]
        refine (BigFrame.wpQuiet_skip ?_ ?_ : _)
        · rfl
        simp only [Act.put, List.setIfInBounds_toArray, List.set_cons_zero, List.set_cons_succ]
        refine (BigFrame.wpQuiet_skip ?_ ?_ : _)
        · rfl
        simp only [Act.put, List.setIfInBounds_toArray, List.set_cons_zero, List.set_cons_succ]
        refine (BigFrame.wpQuiet_skip ?_ ?_ : _)
        · rfl
        simp only [Act.put, List.setIfInBounds_toArray, List.set_cons_zero, List.set_cons_succ]
        refine (BigFrame.wpQuiet_skip ?_ ?_ : _)
        · rfl
        simp only [Act.put, List.setIfInBounds_toArray, List.set_cons_zero, List.set_cons_succ]
        refine BigFrame.wpQuiet_want (by rfl) fun K hK => ⟨?_, fun w' hC => ?_, hK _ ?_⟩
        rotate_left
        · (obtain ⟨q0, q1, q2⟩ := HSK.out _ hC; go_simp; first | done | with_reducible rfl | exact ⟨rfl, hC⟩)
        clear hK K
        simp only [Act.put, List.setIfInBounds_toArray, List.set_cons_zero, List.set_cons_succ]
        refine BigFrame.wpQuiet_want (by rfl) fun K hK => ⟨?_, fun w' hC => ?_, hK _ ?_⟩
        rotate_left
        · (obtain ⟨q0, q1, q2⟩ := HSK.out _ hC; go_simp; first | done | with_reducible rfl | exact ⟨rfl, hC⟩)
        clear hK K
        simp only [Act.put, List.setIfInBounds_toArray, List.set_cons_zero, List.set_cons_succ]
        refine (BigFrame.wpQuiet_skip ?_ ?_ : _)
        · rfl
        simp only [Act.put, List.setIfInBounds_toArray, List.set_cons_zero, List.set_cons_succ]
        refine (BigFrame.wpQuiet_skip ?_ ?_ : _)
        · rfl
        simp only [Act.put, List.setIfInBounds_toArray, List.set_cons_zero, List.set_cons_succ]
        refine (BigFrame.wpQuiet_skip ?_ ?_ : _)
        · rfl
        simp only [Act.put, List.setIfInBounds_toArray, List.set_cons_zero, List.set_cons_succ]
        refine (BigFrame.wpQuiet_skip ?_ ?_ : _)
        · rfl
        simp only [Act.put, List.setIfInBounds_toArray, List.set_cons_zero, List.set_cons_succ]
        refine (BigFrame.wpQuiet_skip ?_ ?_ : _)
        · rfl
        simp only [Act.put, List.setIfInBounds_toArray, List.set_cons_zero, List.set_cons_succ]
        refine (BigFrame.wpQuiet_skip ?_ ?_ : _)
        · rfl
        simp only [Act.put, List.setIfInBounds_toArray, List.set_cons_zero, List.set_cons_succ]
        refine (BigFrame.wpQuiet_skip ?_ ?_ : _)
        · rfl
        simp only [Act.put, List.setIfInBounds_toArray, List.set_cons_zero, List.set_cons_succ]
        refine (BigFrame.wpQuiet_skip ?_ ?_ : _)
        · rfl
        simp only [Act.put, List.setIfInBounds_toArray, List.set_cons_zero, List.set_cons_succ]
        refine BigFrame.wpQuiet_want (by rfl) fun K hK => ⟨?_, fun w' hC => ?_, hK _ ?_⟩
        rotate_left
        · (obtain ⟨q0, q1, q2⟩ := HSK.out _ hC; go_simp; first | done | with_reducible rfl | exact ⟨rfl, hC⟩)
        clear hK K
        simp only [Act.put, List.setIfInBounds_toArray, List.set_cons_zero, List.set_cons_succ]
        refine BigFrame.wpQuiet_want (by rfl) fun K hK => ⟨?_, fun w' hC => ?_, hK _ ?_⟩
        rotate_left
        · (obtain ⟨q0, q1, q2⟩ := HSK.out _ hC; go_simp; first | done | with_reducible rfl | exact ⟨rfl, hC⟩)
        clear hK K
        simp only [Act.put, List.setIfInBounds_toArray, List.set_cons_zero, List.set_cons_succ]
        refine wpQuiet_nil ?_
        intro w2 hC2
        have HC2 := Lib.hid hC2
        clear hC2
        go_wp2_with fail
        go_ret
        exact ⟨by rw [HC.out]; rfl, HE.out.trans ((Ex.refl W0).drew.trans HC2.out)⟩
    · have d2 : decide (n ≤ 60) = false := by simp; omega
      have HC : Hid (circB n m u = false) := Lib.hid (circ_off (.inl (inB_out (.inr (by omega)))))
      clear h1 h2
      go_enter Tryd.func75, Tryd.ntmps75
      go_wp2_with fail
      generalize (w.alloc (.cells #[.int .i64 n, .int .i64 m, .int .i64 u] 44)) = W0 at *
      have HSK := Lib.hid (fun (W' : World) (hb : Ex W0.drew W') => And.intro ((Has.ex (w := W0.drew) HB0.out hb).cell 0) (And.intro ((Has.ex (w := W0.drew) HB0.out hb).cell 1) ((Has.ex (w := W0.drew) HB0.out hb).cell 2)))
      refine wp_region_quiet (C := fun w' => Ex W0.drew w') (by kernel_rfl) (by kernel_rfl) (Ex.refl _) ?_
      refine BigFrame.wpQuiet_want (by rfl) fun K hK => ⟨?_, fun w' hC => ?_, hK _ ?_⟩
      rotate_left
      · (obtain ⟨q0, q1, q2⟩ := HSK.out _ hC; go_simp; first | done | with_reducible rfl | exact ⟨rfl, hC⟩)
      clear hK K
      simp only [Act.put, List.setIfInBounds_toArray, List.set_cons_zero, List.set_cons_succ]
      refine BigFrame.wpQuiet_want (by rfl) fun K hK => ⟨?_, fun w' hC => ?_, hK _ ?_⟩
      rotate_left
      · (obtain ⟨q0, q1, q2⟩ := HSK.out _ hC; go_simp; first | done | with_reducible rfl | exact ⟨rfl, hC⟩)
      clear hK K
      simp only [Act.put, List.setIfInBounds_toArray, List.set_cons_zero, List.set_cons_succ]
      refine BigFrame.wpQuiet_want (by rfl) fun K hK => ⟨?_, fun w' hC => ?_, hK _ ?_⟩
      rotate_left
      · (obtain ⟨q0, q1, q2⟩ := HSK.out _ hC; go_simp; first | done | with_reducible rfl | exact ⟨rfl, hC⟩)
      clear hK K
      simp only [Act.put, List.setIfInBounds_toArray, List.set_cons_zero, List.set_cons_succ]
      refine BigFrame.wpQuiet_want (by rfl) fun K hK => ⟨?_, fun w' hC => ?_, hK _ ?_⟩
      rotate_left
      · (obtain ⟨q0, q1, q2⟩ := HSK.out _ hC; go_simp; first | done | with_reducible rfl | exact ⟨rfl, hC⟩)
      clear hK K
      simp only [Act.put, List.setIfInBounds_toArray, List.set_cons_zero, List.set_cons_succ]
      refine BigFrame.wpQuiet_want (by rfl) fun K hK => ⟨?_, fun w' hC => ?_, hK _ ?_⟩
      rotate_left
      · (obtain ⟨q0, q1, q2⟩ := HSK.out _ hC; go_simp; first | done | with_reducible rfl | exact ⟨rfl, hC⟩)
      clear hK K
      simp only [Act.put, List.setIfInBounds_toArray, List.set_cons_zero, List.set_cons_succ]
      refine BigFrame.wpQuiet_want (by rfl) fun K hK => ⟨?_, fun w' hC => ?_, hK _ ?_⟩
      rotate_left
      · (obtain ⟨q0, q1, q2⟩ := HSK.out _ hC; go_simp; first | done | with_reducible rfl | exact ⟨rfl, hC⟩)
      clear hK K
      simp only [Act.put, List.setIfInBounds_toArray, List.set_cons_zero, List.set_cons_succ]
      refine BigFrame.wpQuiet_want (by rfl) fun K hK => ⟨?_, fun w' hC => ?_, hK _ ?_⟩
      rotate_left
      · (obtain ⟨q0, q1, q2⟩ := HSK.out _ hC; go_simp; first | done | with_reducible rfl | exact ⟨rfl, hC⟩)
      clear hK K
      simp only [Act.put, List.setIfInBounds_toArray, List.set_cons_zero, List.set_cons_succ]
      refine BigFrame.wpQuiet_want (by rfl) fun K hK => ⟨?_, fun w' hC => ?_, hK _ ?_⟩
      rotate_left
      · (obtain ⟨q0, q1, q2⟩ := HSK.out _ hC; go_simp; first | done | with_reducible rfl | exact ⟨rfl, hC⟩)
      clear hK K
      simp only [Act.put, List.setIfInBounds_toArray, List.set_cons_zero, List.set_cons_succ]
      refine BigFrame.wpQuiet_want (by rfl) fun K hK => ⟨?_, fun w' hC => ?_, hK _ ?_⟩
      rotate_left
      · (obtain ⟨q0, q1, q2⟩ := HSK.out _ hC; go_simp; first | done | with_reducible rfl | exact ⟨rfl, hC⟩)
      clear hK K
      simp only [Act.put, List.setIfInBounds_toArray, List.set_cons_zero, List.set_cons_succ]
      refine (BigFrame.wpQuiet_skip ?_ ?_ : _)
      · rfl
      simp only [Act.put, List.setIfInBounds_toArray, List.set_cons_zero, List.set_cons_succ]
      refine (BigFrame.wpQuiet_skip ?_ ?_ : _)
      · rfl
      simp only [Act.put, List.setIfInBounds_toArray, List.set_cons_zero, List.set_cons_succ]
      refine (BigFrame.wpQuiet_skip ?_ ?_ : _)
      · rfl
      simp only [Act.put, List.setIfInBounds_toArray, List.set_cons_zero, List.set_cons_succ]
      refine BigFrame.wpQuiet_want (by rfl) fun K hK => ⟨?_, fun w' hC => ?_, hK _ ?_⟩
      rotate_left
      · (obtain ⟨q0, q1, q2⟩ := HSK.out _ hC; go_simp; first | done | with_reducible rfl | exact ⟨rfl, hC⟩)
      clear hK K
      simp only [Act.put, List.setIfInBounds_toArray, List.set_cons_zero, List.set_cons_succ]
      refine BigFrame.wpQuiet_want (by rfl) fun K hK => ⟨?_, fun w' hC => ?_, hK _ ?_⟩
      rotate_left
      · (obtain ⟨q0, q1, q2⟩ := HSK.out _ hC; go_simp; first | done | with_reducible rfl | exact ⟨rfl, hC⟩)
      clear hK K
      simp only [Act.put, List.setIfInBounds_toArray, List.set_cons_zero, List.set_cons_succ]
      refine (BigFrame.wpQuiet_skip ?_ ?_ : _)
      · rfl
      simp only [Act.put, List.setIfInBounds_toArray, List.set_cons_zero, List.set_cons_succ]
      refine (BigFrame.wpQuiet_skip ?_ ?_ : _)
      · rfl
      simp only [Act.put, List.setIfInBounds_toArray, List.set_cons_zero, List.set_cons_succ]
      refine (BigFrame.wpQuiet_skip ?_ ?_ : _)
      · rfl
      simp only [Act.put, List.setIfInBounds_toArray, List.set_cons_zero, List.set_cons_succ]
      refine BigFrame.wpQuiet_want (by rfl) fun K hK => ⟨?_, fun w' hC => ?_, hK _ ?_⟩
      rotate_left
      · (obtain ⟨q0, q1, q2⟩ := HSK.out _ hC; go_simp; first | done | with_reducible rfl | exact ⟨rfl, hC⟩)
      clear hK K
      simp only [Act.put, List.setIfInBounds_toArray, List.set_cons_zero, List.set_cons_succ]
      refine BigFrame.wpQuiet_want (by rfl) fun K hK => ⟨?_, fun w' hC => ?_, hK _ ?_⟩
      rotate_left
      · (obtain ⟨q0, q1, q2⟩ := HSK.out _ hC; go_simp; first | done | with_reducible rfl | exact ⟨rfl, hC⟩)
      clear hK K
      simp only [Act.put, List.setIfInBounds_toArray, List.set_cons_zero, List.set_cons_succ]
      refine (BigFrame.wpQuiet_skip ?_ ?_ : _)
      · rfl
      simp only [Act.put, List.setIfInBounds_toArray, List.set_cons_zero, List.set_cons_succ]
      refine (BigFrame.wpQuiet_skip ?_ ?_ : _)
      · rfl
      simp only [Act.put, List.setIfInBounds_toArray, List.set_cons_zero, List.set_cons_succ]
      refine (BigFrame.wpQuiet_skip ?_ ?_ : _)
      · rfl
      simp only [Act.put, List.setIfInBounds_toArray, List.set_cons_zero, List.set_cons_succ]
      refine (BigFrame.wpQuiet_skip ?_ ?_ : _)
      · rfl
      simp only [Act.put, List.setIfInBounds_toArray, List.set_cons_zero, List.set_cons_succ]
      refine (BigFrame.wpQuiet_skip ?_ ?_ : _)
      · rfl
      simp only [Act.put, List.setIfInBounds_toArray, List.set_cons_zero, List.set_cons_succ]
      refine BigFrame.wpQuiet_want (by rfl) fun K hK => ⟨?_, fun w' hC => ?_, hK _ ?_⟩
      rotate_left
      · (obtain ⟨q0, q1, q2⟩ := HSK.out _ hC; go_simp; first | done | with_reducible rfl | exact ⟨rfl, hC⟩)
      clear hK K
      simp only [Act.put, List.setIfInBounds_toArray, List.set_cons_zero, List.set_cons_succ]
      refine BigFrame.wpQuiet_want (by rfl) fun K hK => ⟨?_, fun w' hC => ?_, hK _ ?_⟩
      rotate_left
      · (obtain ⟨q0, q1, q2⟩ := HSK.out _ hC; go_simp; first | done | with_reducible rfl | exact ⟨rfl, hC⟩)
      clear hK K
      simp only [Act.put, List.setIfInBounds_toArray, List.set_cons_zero, List.set_cons_succ]
      refine (BigFrame.wpQuiet_skip ?_ ?_ : _)
      · rfl
      simp only [Act.put, List.setIfInBounds_toArray, List.set_cons_zero, List.set_cons_succ]
      refine (BigFrame.wpQuiet_skip ?_ ?_ : _)
      · rfl
      simp only [Act.put, List.setIfInBounds_toArray, List.set_cons_zero, List.set_cons_succ]
      refine (BigFrame.wpQuiet_skip ?_ ?_ : _)
      · rfl
      simp only [Act.put, List.setIfInBounds_toArray, List.set_cons_zero, List.set_cons_succ]
      refine (BigFrame.wpQuiet_skip ?_ ?_ : _)
      · rfl
      simp only [Act.put, List.setIfInBounds_toArray, List.set_cons_zero, List.set_cons_succ]
      refine (BigFrame.wpQuiet_skip ?_ ?_ : _)
      · rfl
      simp only [Act.put, List.setIfInBounds_toArray, List.set_cons_zero, List.set_cons_succ]
      refine (BigFrame.wpQuiet_skip ?_ ?_ : _)
      · rfl
      simp only [Act.put, List.setIfInBounds_toArray, List.set_cons_zero, List.set_cons_succ]
      refine (BigFrame.wpQuiet_skip ?_ ?_ : _)
      · rfl
      simp only [Act.put, List.setIfInBounds_toArray, List.set_cons_zero, List.set_cons_succ]
      refine (BigFrame.wpQuiet_skip ?_ ?_ : _)
      · rfl
      simp only [Act.put, List.setIfInBounds_toArray, List.set_cons_zero, List.set_cons_succ]
      refine BigFrame.wpQuiet_want (by rfl) fun K hK => ⟨?_, fun w' hC => ?_, hK _ ?_⟩
      rotate_left
      · (obtain ⟨q0, q1, q2⟩ := HSK.out _ hC; go_simp; first | done | with_reducible rfl | exact ⟨rfl, hC⟩)
      clear hK K
      simp only [Act.put, List.setIfInBounds_toArray, List.set_cons_zero, List.set_cons_succ]
      refine BigFrame.wpQuiet_want (by rfl) fun K hK => ⟨?_, fun w' hC => ?_, hK _ ?_⟩
      rotate_left
      · (obtain ⟨q0, q1, q2⟩ := HSK.out _ hC; go_simp; first | done | with_reducible rfl | exact ⟨rfl, hC⟩)
      clear hK K
      simp only [Act.put, List.setIfInBounds_toArray, List.set_cons_zero, List.set_cons_succ]
      refine wpQuiet_nil ?_
      intro w2 hC2
      have HC2 := Lib.hid hC2
      clear hC2
      go_wp2_with fail
      go_ret
      exact ⟨by rw [HC.out]; rfl, HE.out.trans ((Ex.refl W0).drew.trans HC2.out)⟩
  · have d1 : decide (1 ≤ n) = false := by simp; omega
    have HC : Hid (circB n m u = false) := Lib.hid (circ_off (.inl (inB_out (.inl (by omega)))))
    clear h1
    go_enter Tryd.func75, Tryd.ntmps75
    go_wp2_with fail
    generalize (w.alloc (.cells #[.int .i64 n, .int .i64 m, .int .i64 u] 44)) = W0 at *
    have HSK := Lib.hid (fun (W' : World) (hb : Ex W0.drew W') => And.intro ((Has.ex (w := W0.drew) HB0.out hb).cell 0) (And.intro ((Has.ex (w := W0.drew) HB0.out hb).cell 1) ((Has.ex (w := W0.drew) HB0.out hb).cell 2)))
    refine wp_region_quiet (C := fun w' => Ex W0.drew w') (by kernel_rfl) (by kernel_rfl) (Ex.refl _) ?_
    refine BigFrame.wpQuiet_want (by rfl) fun K hK => ⟨?_, fun w' hC => ?_, hK _ ?_⟩
    rotate_left
    · (obtain ⟨q0, q1, q2⟩ := HSK.out _ hC; go_simp; first | done | with_reducible rfl | exact ⟨rfl, hC⟩)
    clear hK K
    simp only [Act.put, List.setIfInBounds_toArray, List.set_cons_zero, List.set_cons_succ]
    refine BigFrame.wpQuiet_want (by rfl) fun K hK => ⟨?_, fun w' hC => ?_, hK _ ?_⟩
    rotate_left
    · (obtain ⟨q0, q1, q2⟩ := HSK.out _ hC; go_simp; first | done | with_reducible rfl | exact ⟨rfl, hC⟩)
    clear hK K
    simp only [Act.put, List.setIfInBounds_toArray, List.set_cons_zero, List.set_cons_succ]
    refine BigFrame.wpQuiet_want (by rfl) fun K hK => ⟨?_, fun w' hC => ?_, hK _ ?_⟩
    rotate_left
    · (obtain ⟨q0, q1, q2⟩ := HSK.out _ hC; go_simp; first | done | with_reducible rfl | exact ⟨rfl, hC⟩)
    clear hK K
    simp only [Act.put, List.setIfInBounds_toArray, List.set_cons_zero, List.set_cons_succ]
    refine BigFrame.wpQuiet_want (by rfl) fun K hK => ⟨?_, fun w' hC => ?_, hK _ ?_⟩
    rotate_left
    · (obtain ⟨q0, q1, q2⟩ := HSK.out _ hC; go_simp; first | done | with_reducible rfl | exact ⟨rfl, hC⟩)
    clear hK K
    simp only [Act.put, List.setIfInBounds_toArray, List.set_cons_zero, List.set_cons_succ]
    refine (BigFrame.wpQuiet_skip ?_ ?_ : _)
    · rfl
    simp only [Act.put, List.setIfInBounds_toArray, List.set_cons_zero, List.set_cons_succ]
    refine (BigFrame.wpQuiet_skip ?_ ?_ : _)
    · rfl
    simp only [Act.put, List.setIfInBounds_toArray, List.set_cons_zero, List.set_cons_succ]
    refine (BigFrame.wpQuiet_skip ?_ ?_ : _)
    · rfl
    simp only [Act.put, List.setIfInBounds_toArray, List.set_cons_zero, List.set_cons_succ]
    refine BigFrame.wpQuiet_want (by rfl) fun K hK => ⟨?_, fun w' hC => ?_, hK _ ?_⟩
    rotate_left
    · (obtain ⟨q0, q1, q2⟩ := HSK.out _ hC; go_simp; first | done | with_reducible rfl | exact ⟨rfl, hC⟩)
    clear hK K
    simp only [Act.put, List.setIfInBounds_toArray, List.set_cons_zero, List.set_cons_succ]
    refine BigFrame.wpQuiet_want (by rfl) fun K hK => ⟨?_, fun w' hC => ?_, hK _ ?_⟩
    rotate_left
    · (obtain ⟨q0, q1, q2⟩ := HSK.out _ hC; go_simp; first | done | with_reducible rfl | exact ⟨rfl, hC⟩)
    clear hK K
    simp only [Act.put, List.setIfInBounds_toArray, List.set_cons_zero, List.set_cons_succ]
    refine (BigFrame.wpQuiet_skip ?_ ?_ : _)
    · rfl
    simp only [Act.put, List.setIfInBounds_toArray, List.set_cons_zero, List.set_cons_succ]
    refine (BigFrame.wpQuiet_skip ?_ ?_ : _)
    · rfl
    simp only [Act.put, List.setIfInBounds_toArray, List.set_cons_zero, List.set_cons_succ]
    refine (BigFrame.wpQuiet_skip ?_ ?_ : _)
    · rfl
    simp only [Act.put, List.setIfInBounds_toArray, List.set_cons_zero, List.set_cons_succ]
    refine BigFrame.wpQuiet_want (by rfl) fun K hK => ⟨?_, fun w' hC => ?_, hK _ ?_⟩
    rotate_left
    · (obtain ⟨q0, q1, q2⟩ := HSK.out _ hC; go_simp; first | done | with_reducible rfl | exact ⟨rfl, hC⟩)
    clear hK K
    simp only [Act.put, List.setIfInBounds_toArray, List.set_cons_zero, List.set_cons_succ]
    refine BigFrame.wpQuiet_want (by rfl) fun K hK => ⟨?_, fun w' hC => ?_, hK _ ?_⟩
    rotate_left
    · (obtain ⟨q0, q1, q2⟩ := HSK.out _ hC; go_simp; first | done | with_reducible rfl | exact ⟨rfl, hC⟩)
    clear hK K
    simp only [Act.put, List.setIfInBounds_toArray, List.set_cons_zero, List.set_cons_succ]
    refine (BigFrame.wpQuiet_skip ?_ ?_ : _)
    · rfl
    simp only [Act.put, List.setIfInBounds_toArray, List.set_cons_zero, List.set_cons_succ]
    refine (BigFrame.wpQuiet_skip ?_ ?_ : _)
    · rfl
    simp only [Act.put, List.setIfInBounds_toArray, List.set_cons_zero, List.set_cons_succ]
    refine (BigFrame.wpQuiet_skip ?_ ?_ : _)
    · rfl
    simp only [Act.put, List.setIfInBounds_toArray, List.set_cons_zero, List.set_cons_succ]
    refine BigFrame.wpQuiet_want (by rfl) fun K hK => ⟨?_, fun w' hC => ?_, hK _ ?_⟩
    rotate_left
    · (obtain ⟨q0, q1, q2⟩ := HSK.out _ hC; go_simp; first | done | with_reducible rfl | exact ⟨rfl, hC⟩)
    clear hK K
    simp only [Act.put, List.setIfInBounds_toArray, List.set_cons_zero, List.set_cons_succ]
    refine BigFrame.wpQuiet_want (by rfl) fun K hK => ⟨?_, fun w' hC => ?_, hK _ ?_⟩
    rotate_left
    · (obtain ⟨q0, q1, q2⟩ := HSK.out _ hC; go_simp; first | done | with_reducible rfl | exact ⟨rfl, hC⟩)
    clear hK K
    simp only [Act.put, List.setIfInBounds_toArray, List.set_cons_zero, List.set_cons_succ]
    refine (BigFrame.wpQuiet_skip ?_ ?_ : _)
    · rfl
    simp only [Act.put, List.setIfInBounds_toArray, List.set_cons_zero, List.set_cons_succ]
    refine (BigFrame.wpQuiet_skip ?_ ?_ : _)
    · rfl
    simp only [Act.put, List.setIfInBounds_toArray, List.set_cons_zero, List.set_cons_succ]
    refine (BigFrame.wpQuiet_skip ?_ ?_ : _)
    · rfl
    simp only [Act.put, List.setIfInBounds_toArray, List.set_cons_zero, List.set_cons_succ]
    refine (BigFrame.wpQuiet_skip ?_ ?_ : _)
    · rfl
    simp only [Act.put, List.setIfInBounds_toArray, List.set_cons_zero, List.set_cons_succ]
    refine (BigFrame.wpQuiet_skip ?_ ?_ : _)
    · rfl
    simp only [Act.put, List.setIfInBounds_toArray, List.set_cons_zero, List.set_cons_succ]
    refine BigFrame.wpQuiet_want (by rfl) fun K hK => ⟨?_, fun w' hC => ?_, hK _ ?_⟩
    rotate_left
    · (obtain ⟨q0, q1, q2⟩ := HSK.out _ hC; go_simp; first | done | with_reducible rfl | exact ⟨rfl, hC⟩)
    clear hK K
    simp only [Act.put, List.setIfInBounds_toArray, List.set_cons_zero, List.set_cons_succ]
    refine BigFrame.wpQuiet_want (by rfl) fun K hK => ⟨?_, fun w' hC => ?_, hK _ ?_⟩
    rotate_left
    · (obtain ⟨q0, q1, q2⟩ := HSK.out _ hC; go_simp; first | done | with_reducible rfl | exact ⟨rfl, hC⟩)
    clear hK K
    simp only [Act.put, List.setIfInBounds_toArray, List.set_cons_zero, List.set_cons_succ]
    refine (BigFrame.wpQuiet_skip ?_ ?_ : _)
    · rfl
    simp only [Act.put, List.setIfInBounds_toArray, List.set_cons_zero, List.set_cons_succ]
    refine (BigFrame.wpQuiet_skip ?_ ?_ : _)
    · rfl
    simp only [Act.put, List.setIfInBounds_toArray, List.set_cons_zero, List.set_cons_succ]
    refine (BigFrame.wpQuiet_skip ?_ ?_ : _)
    · rfl
    simp only [Act.put, List.setIfInBounds_toArray, List.set_cons_zero, List.set_cons_succ]
    refine (BigFrame.wpQuiet_skip ?_ ?_ : _)
    · rfl
    simp only [Act.put, List.setIfInBounds_toArray, List.set_cons_zero, List.set_cons_succ]
    refine (BigFrame.wpQuiet_skip ?_ ?_ : _)
    · rfl
    simp only [Act.put, List.setIfInBounds_toArray, List.set_cons_zero, List.set_cons_succ]
    refine (BigFrame.wpQuiet_skip ?_ ?_ : _)
    · rfl
    simp only [Act.put, List.setIfInBounds_toArray, List.set_cons_zero, List.set_cons_succ]
    refine (BigFrame.wpQuiet_skip ?_ ?_ : _)
    · rfl
    simp only [Act.put, List.setIfInBounds_toArray, List.set_cons_zero, List.set_cons_succ]
    refine (BigFrame.wpQuiet_skip ?_ ?_ : _)
    · rfl
    simp only [Act.put, List.setIfInBounds_toArray, List.set_cons_zero, List.set_cons_succ]
    refine BigFrame.wpQuiet_want (by rfl) fun K hK => ⟨?_, fun w' hC => ?_, hK _ ?_⟩
    rotate_left
    · (obtain ⟨q0, q1, q2⟩ := HSK.out _ hC; go_simp; first | done | with_reducible rfl | exact ⟨rfl, hC⟩)
    clear hK K
    simp only [Act.put, List.setIfInBounds_toArray, List.set_cons_zero, List.set_cons_succ]
    refine BigFrame.wpQuiet_want (by rfl) fun K hK => ⟨?_, fun w' hC => ?_, hK _ ?_⟩
    rotate_left
    · (obtain ⟨q0, q1, q2⟩ := HSK.out _ hC; go_simp; first | done | with_reducible rfl | exact ⟨rfl, hC⟩)
    clear hK K
    simp only [Act.put, List.setIfInBounds_toArray, List.set_cons_zero, List.set_cons_succ]
    refine wpQuiet_nil ?_
    intro w2 hC2
    have HC2 := Lib.hid hC2
    clear hC2
    go_wp2_with fail
    go_ret
    exact ⟨by rw [HC.out]; rfl, HE.out.trans ((Ex.refl W0).drew.trans HC2.out)⟩

end Go.Proofs.YtfnjpbjlikajbaaDoor
