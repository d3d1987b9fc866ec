/- Lists of numbers of values: the program's side. -/
import Derived.Test.YtdehalkebneaoaaDoorLa
import Derived.Test.YtdehalkebneaoaaDoorBk
import Derived.Test.YtdehalkebneaoaaDoorLt
namespace Go.Proofs.YtdehalkebneaoaaDoor
open Go.RowKit Go.Shelf

attribute [local go_sem] Oper.semAt_some

/-- What one round does to the list and to the number. -/
def stepB (B : Nat) (s : (Nat → Int) × Nat) (p : Nat) : (Nat → Int) × Nat := (fun p' => if p' = p then ((s.2 % B + 1 : Nat) : Int) else s.1 p', s.2 / B)
def runB (B i : Nat) (ps : List Nat) : (Nat → Int) × Nat := ps.foldl (stepB B) (fun _ => 0, i)
theorem runB_snoc (B i : Nat) (ps : List Nat) (p : Nat) : runB B i (ps ++ [p]) = stepB B (runB B i ps) p := by simp [runB, List.foldl_append]
theorem foldB_le (B : Nat) : ∀ (ps : List Nat) (s : (Nat → Int) × Nat), (ps.foldl (stepB B) s).2 ≤ s.2
  | [], _ => Nat.le_refl _
  | p :: ps, s => Nat.le_trans (foldB_le B ps (stepB B s p)) (Nat.div_le_self _ _)
theorem runB_le (B i : Nat) (ps : List Nat) : (runB B i ps).2 ≤ i := foldB_le B ps _
theorem runB_at (N n i : Nat) : ∀ j, j ≤ n → (∀ p, p < n → (runB (N - 1) i (bkL n j)).1 p = stF N n i j p) ∧ (runB (N - 1) i (bkL n j)).2 = i / (N - 1) ^ j
  | 0, _ => ⟨fun p hp => by rw [stF_zero hp]; rfl, by simp [bkL, runB]⟩
  | j + 1, hj => by
    obtain ⟨h1, h2⟩ := runB_at N n i j (by omega)
    rw [bkL_succ, runB_snoc]
    refine ⟨fun p hp => ?_, ?_⟩
    · rw [← stF_step (by omega)]
      show (if p = n - 1 - j then _ else _) = _
      by_cases h : p = n - 1 - j
      · rw [if_pos h, if_pos h, h2, dN, show n - 1 - (n - 1 - j) = j by omega]
      · rw [if_neg h, if_neg h, h1 p hp]
    · show (runB (N - 1) i (bkL n j)).2 / (N - 1) = _
      rw [h2, Nat.pow_succ, Nat.div_div_eq_div_mul]

set_option maxRecDepth 100000 in
set_option maxHeartbeats 4000000 in
theorem listAt_yes (A : Option Addr) (N c n i : Nat) (w : World) (hN : N ≤ 8) (hN1 : 1 ≤ N) (hN2 : n = 0 ∨ 2 ≤ N) (hn : n ≤ 4) (hi : i < cellsN N n) :
    Calls Tryd.prog 67 #[.agg #[.slice A N c], .int .i64 (n : Int), .int .i64 (i : Int)] w fun e w' => ∃ (C0 : Option Addr) (e0 : Nat), e = .returned (.slice C0 (lsL N n i).length e0) ∧ Ex w w' ∧ OwnL w' w.heap.size w'.heap.size C0 (lsL N n i) := by
  have e0 : Ex w ((w.alloc (.cells #[.slice A N c] 29)).alloc (.cells #[.int .i64 (i : Int)] 2)) := ((Ex.refl w).alloc _).alloc _
  have b0 : Has ((w.alloc (.cells #[.slice A N c] 29)).alloc (.cells #[.int .i64 (i : Int)] 2)) (w.heap.size) 29 #[.slice A N c] := ((Has.newAt (w := w) (e := 29) (cs := #[.slice A N c]) (k := w.heap.size) (by simp)).alloc _)
  have b1 : Has ((w.alloc (.cells #[.slice A N c] 29)).alloc (.cells #[.int .i64 (i : Int)] 2)) (w.heap.size + 1) 2 #[.int .i64 (i : Int)] := (Has.newAt (w := (w.alloc (.cells #[.slice A N c] 29))) (e := 2) (cs := #[.int .i64 (i : Int)]) (k := w.heap.size + 1) (by simp))
  have HE0 := Lib.hid e0
  have HB0 := Lib.hid b0
  have HB1 := Lib.hid b1
  have hmk := makeI n (by omega)
  have hN6 : N ≤ 1048576 := by omega
  have hc24 := cellsN_le hN hn
  have HCC := Lib.hid (fun W => cellCount_any A N c n W hN hN1 hn)
  have hlt0 : decide ((i : Int) < 0) = false := decide_eq_false (by omega)
  obtain ⟨cn, hcn⟩ : ∃ cn, cellsN N n = cn := ⟨_, rfl⟩
  rw [hcn] at hi hc24 HCC
  have hge : decide ((cn : Int) ≤ (i : Int)) = false := decide_eq_false (by omega)
  clear hcn e0 b0 b1
  refine (callsIn_wide (n := 20)).1 ?_
  refine callsIn_of_wp_marks Tryd.func67 rfl trivial ?_ rfl
  simp only [Tryd.ntmps67, List.size_toArray, List.length_cons, List.length_nil, Nat.reduceAdd, Nat.reduceSub, Array.replicate_succ, Array.replicate_zero, List.push_toArray, List.append_toArray, List.nil_append, List.cons_append]
  refine wpIn_wide.2 ?_
  go_wp2_with fail
  generalize ((w.alloc (.cells #[.slice A N c] 29)).alloc (.cells #[.int .i64 (i : Int)] 2)) = W0 at *
  have HSK := Lib.hid (fun W' (he : Ex W0.drew W') => And.intro ((Has.ex (w := W0.drew) HB0.out he).cell 0) ((Has.ex (w := W0.drew) HB1.out he).cell 0))
  refine wp_region_quiet (C := fun w' => Ex W0.drew w') (by kernel_rfl) (by kernel_rfl) (Ex.refl _) ?_
  refine BigFrame.wpQuiet_want (by rfl) fun K hK => ⟨?_, fun w' hC => ?_, hK _ ?_⟩
  rotate_left
  · (obtain ⟨q0, q1⟩ := HSK.out _ hC; go_simp; first | done | with_reducible rfl | exact ⟨rfl, hC⟩)
  clear hK K
  simp only [Act.put, List.setIfInBounds_toArray, List.set_cons_zero, List.set_cons_succ]
  refine BigFrame.wpQuiet_want (by rfl) fun K hK => ⟨?_, fun w' hC => ?_, hK _ ?_⟩
  rotate_left
  · (obtain ⟨q0, q1⟩ := HSK.out _ hC; go_simp; first | done | with_reducible rfl | exact ⟨rfl, hC⟩)
  clear hK K
  simp only [Act.put, List.setIfInBounds_toArray, List.set_cons_zero, List.set_cons_succ]
  refine BigFrame.wpQuiet_want (by rfl) fun K hK => ⟨?_, fun w' hC => ?_, hK _ ?_⟩
  rotate_left
  · (obtain ⟨q0, q1⟩ := HSK.out _ hC; go_simp; first | done | with_reducible rfl | exact ⟨rfl, hC⟩)
  clear hK K
  simp only [Act.put, List.setIfInBounds_toArray, List.set_cons_zero, List.set_cons_succ]
  refine BigFrame.wpQuiet_want (by rfl) fun K hK => ⟨?_, fun w' hC => ?_, hK _ ?_⟩
  rotate_left
  · (obtain ⟨q0, q1⟩ := HSK.out _ hC; go_simp; first | done | with_reducible rfl | exact ⟨rfl, hC⟩)
  clear hK K
  simp only [Act.put, List.setIfInBounds_toArray, List.set_cons_zero, List.set_cons_succ]
  refine BigFrame.wpQuiet_want (by rfl) fun K hK => ⟨?_, fun w' hC => ?_, hK _ ?_⟩
  rotate_left
  · (obtain ⟨q0, q1⟩ := HSK.out _ hC; go_simp; first | done | with_reducible rfl | exact ⟨rfl, hC⟩)
  clear hK K
  simp only [Act.put, List.setIfInBounds_toArray, List.set_cons_zero, List.set_cons_succ]
  refine BigFrame.wpQuiet_want (by rfl) fun K hK => ⟨?_, fun w' hC => ?_, hK _ ?_⟩
  rotate_left
  · (obtain ⟨q0, q1⟩ := HSK.out _ hC; go_simp; first | done | with_reducible rfl | exact ⟨rfl, hC⟩)
  clear hK K
  simp only [Act.put, List.setIfInBounds_toArray, List.set_cons_zero, List.set_cons_succ]
  refine BigFrame.wpQuiet_want (by rfl) fun K hK => ⟨.int .i64 (cn : Int), fun w' hC => (by go_simp; refine ((HCC.out w')).mono ?_; rintro e w2 ⟨rfl, hb⟩; exact ⟨rfl, hC.trans hb⟩), hK _ ?_⟩
  clear hK K
  simp only [Act.put, List.setIfInBounds_toArray, List.set_cons_zero, List.set_cons_succ]
  refine BigFrame.wpQuiet_want (by rfl) fun K hK => ⟨?_, fun w' hC => ?_, hK _ ?_⟩
  rotate_left
  · (obtain ⟨q0, q1⟩ := HSK.out _ hC; go_simp; first | done | with_reducible rfl | exact ⟨rfl, hC⟩)
  clear hK K
  simp only [Act.put, List.setIfInBounds_toArray, List.set_cons_zero, List.set_cons_succ]
  refine BigFrame.wpQuiet_want (by rfl) fun K hK => ⟨?_, fun w' hC => ?_, hK _ ?_⟩
  rotate_left
  · (obtain ⟨q0, q1⟩ := HSK.out _ hC; go_simp; first | done | with_reducible rfl | exact ⟨rfl, hC⟩)
  clear hK K
  simp only [Act.put, List.setIfInBounds_toArray, List.set_cons_zero, List.set_cons_succ]
  refine wpQuiet_nil ?_
  intro w2 hC2
  have HC2 := Lib.hid hC2
  clear hC2
  go_wp2_with fail
  refine (backward_any _ _ _ _).mono ?_
  rintro e w' ⟨rfl, rfl⟩
  obtain ⟨g, hg⟩ : ∃ g, w2.heap.size = g := ⟨_, rfl⟩
  obtain ⟨W3, hW3⟩ : ∃ W3, ((w2.alloc (.cells (tab n fun _ => .int .i64 0) 2)).alloc (.cells #[.slice (some ⟨g, 0, none⟩) n n] 26)).alloc (.cells #[.slice (some ⟨g, 0, none⟩) n n] 26) = W3 := ⟨_, rfl⟩
  have hE3 : Ex w2 W3 := by rw [← hW3]; exact ((Ex.new _ _).alloc _).alloc _
  have bL : Has W3 g 2 (tab n fun _ => .int .i64 0) := by rw [← hW3, ← hg]; exact ((Has.new _ _ _).alloc _).alloc _
  have bD : Has W3 (g + 1) 26 #[.slice (some ⟨g, 0, none⟩) n n] := by rw [← hW3]; exact (Has.newAt (by simp [hg])).alloc _
  have bB : Has W3 (g + 1 + 1) 26 #[.slice (some ⟨g, 0, none⟩) n n] := by rw [← hW3]; exact Has.newAt (by simp [hg])
  have hE2 := (Ex.refl W0).drew.trans HC2.out
  have bI := HB1.out.ex (hE2.trans hE3)
  have bG := HB0.out.ex (hE2.trans hE3)
  have HE3 := Lib.hid (HE0.out.trans (hE2.trans hE3))
  have hgw : w.heap.size + 1 < g := by
    have := (HB1.out.ex hE2).lt
    omega
  have hzg : g + 1 + 1 < W3.heap.size := bB.lt
  rw [hg, hW3]
  have HGG := Lib.hid hg
  clear hW3 hg hE3 hE2 HB0 HB1 HSK HC2 HCC hmk hge hlt0
  have hil : i ≤ 2401 := by omega
  obtain ⟨B, hB⟩ : ∃ B, N - 1 = B := ⟨_, rfl⟩
  have hB' : (N : Int) - 1 = (B : Int) := by omega
  have HBN := Lib.hid hB
  have HBP := Lib.hid (show n = 0 ∨ 0 < B by omega)
  clear hB hN2 hi hc24
  go_wp2_with fail
  rw [HGG.out]
  refine (wpIn_wide (n := 20)).1 ?_
  refine range_topR (n := 20) (n₀ := w.heap.size) (R := BackR (g + 1 + 1) g) BackR.trans (BackR.refl _ _) BackR.put (by omega) (gf := 161) (lb := #[.pointer (some ⟨g + 1 + 1, 0, none⟩)]) rfl (enters_of Tryd.func161 (by kernel_rfl) rfl)
    (back_stops 19 (by omega) (g + 1 + 1) w.heap.size n g n W3 bB.lt bL.lt (bB.cell 0) (fun p hp => ⟨_, by rw [bL.cell, tab_get hp]⟩) (by omega)) (by omega) (fun _ => rfl)
    (fun pre W => Has W g 2 (tab n fun p => .int .i64 ((runB B i (bkP pre)).1 p)) ∧ Has W (w.heap.size + 1) 2 #[.int .i64 ((runB B i (bkP pre)).2 : Int)] ∧ Has W w.heap.size 29 #[.slice A N c] ∧ Has W (g + 1) 26 #[.slice (some ⟨g, 0, none⟩) n n] ∧ Has W (g + 1 + 1) 26 #[.slice (some ⟨g, 0, none⟩) n n])
    (OwnFrom.and (Own.from (has_own _ _ _) _) (OwnFrom.and (Own.from (has_own _ _ _) _) (OwnFrom.and (Own.from (has_own _ _ _) _) (OwnFrom.and (Own.from (has_own _ _ _) _) (Own.from (has_own _ _ _) _)))))
    ⟨bL, bI, bG, bD, bB⟩ ?round ?done
  case done =>
    rintro D xs W hD hxs ⟨cL, -, -, cD, -⟩ hKW hK
    have HL := Lib.hid cL
    have HKW := Lib.hid hKW
    have HKD := Lib.hid hK
    have cs := cD.cell 0
    have hzD := (Array.getElem?_eq_some_iff.1 hK).1
    clear bL bD bB bI bG cL cD hKW hK
    simp only [Exit.inBlock, Exit.then]
    go_wp2_with fail
    refine ⟨by simp, .inl ⟨_, _, rfl, run_takeDeferred HKD.out, ?_⟩⟩
    have hEW : Ex w W := HE3.out.trans' HKW.out.1 (Nat.le_refl _)
    have hg8 := grownBy_putObj' W D (.deferred none)
    have hLL := (has_own g 2 (fun _ : Unit => tab n fun p => .int .i64 ((runB B i (bkP xs)).1 p))) () W _ (some D) HL.out hg8 (fun r e => by cases e; exact ⟨_, HKD.out, rfl⟩)
    refine ⟨_, results_tmp rfl _ _ _, some ⟨g, 0, none⟩, n, by rw [lsL_len]; rfl, Below.grown hEW hg8 hEW.size (fun k hk => by cases hk; have := HE3.out.size; omega), OwnL.of_has (n := n) (e := 2) ?_ (by rw [lsL_len]) (by omega)⟩
    rw [hxs, ← HBN.out] at hLL
    rw [tab_congr (fun p hp => by rw [nth_lsL hp, ← stF_all, ← (runB_at N n i n (Nat.le_refl _)).1 p hp])]
    exact hLL
  case round =>
    clear bL bD bB bI bG
    intro l x W K hK
    have HK := Lib.hid hK
    clear hK
    gi_wp2
    refine HK.out _ ?_
    clear HK
    rintro l pre W1 hr ⟨bL, bI, bG, bD, bB⟩ hKW hlt
    obtain ⟨⟨p, hp⟩, v⟩ := x
    clear hr
    dsimp only
    have hB0 : ¬ B = 0 := by have := HBP.out; omega
    have hzw : w.heap.size ≤ W1.heap.size := by have := bG.lt; omega
    obtain ⟨q, hq⟩ : ∃ q, (runB B i (bkP pre)).2 = q := ⟨_, rfl⟩
    have hq24 : q ≤ 2401 := by rw [← hq]; exact Nat.le_trans (runB_le B i _) hil
    rw [hq] at bI
    obtain ⟨r, hr⟩ : ∃ r, q % B = r := ⟨_, rfl⟩
    obtain ⟨d, hd⟩ : ∃ d, q / B = d := ⟨_, rfl⟩
    have hrB : r < B := by rw [← hr]; exact Nat.mod_lt _ (by omega)
    have hdq : d ≤ q := by rw [← hd]; exact Nat.div_le_self _ _
    have hwr : IntKind.i64.wrap ((q : Int) % (B : Int)) = (r : Int) := by rw [← hr, ← Int.natCast_emod, IntWalk.i64_in _ (by rw [hr]; omega)]
    have hwd : IntKind.i64.wrap ((q : Int) / (B : Int)) = (d : Int) := by rw [← hd, ← Int.natCast_ediv, IntWalk.i64_in _ (by rw [hd]; omega)]
    have hwB : IntKind.i64.wrap (B : Int) = (B : Int) := IntWalk.i64_in _ (by omega)
    have hwr1 : IntKind.i64.wrap (1 + (r : Int)) = ((r + 1 : Nat) : Int) := by rw [IntWalk.i64_in _ (by omega)]; omega
    have hwm : IntKind.i64.wrap (1 + Int.tmod (q : Int) (B : Int)) = ((r + 1 : Nat) : Int) := by rw [Int.tmod_eq_emod_of_nonneg (by omega), show (q : Int) % (B : Int) = (r : Int) by rw [← hr]; rfl]; exact hwr1
    have HWM := Lib.hid hwm
    have hwv : IntKind.i64.wrap (Int.tdiv (q : Int) (B : Int)) = (d : Int) := by rw [Int.tdiv_eq_ediv_of_nonneg (by omega)]; exact hwd
    have HWV := Lib.hid hwv
    clear hwm hwv
    have hp0 : (0 : Int) ≤ (p : Int) := by omega
    have hpn : (p : Int) < (n : Int) := by omega
    have HST : Hid (runB B i (bkP (pre ++ [((⟨p, hp⟩, v) : BkE n)])) = (fun p' => if p' = p then ((r + 1 : Nat) : Int) else (runB B i (bkP pre)).1 p', d)) := Lib.hid (by
      rw [bkP_snoc, runB_snoc, stepB, hq, hr, hd])
    have HKW := Lib.hid hKW
    have HF := Lib.hid (fun W' (he : Ex W1 W') => (⟨(Has.ex bD he).cell 0, (Has.ex bI he).cell 0, (Has.ex bG he).cell 0⟩ :
        W'.cell? ⟨g + 1, 0, none⟩ = some (.slice (some ⟨g, 0, none⟩) n n) ∧ W'.cell? ⟨w.heap.size + 1, 0, none⟩ = some (.int .i64 (q : Int)) ∧ W'.cell? ⟨w.heap.size, 0, none⟩ = some (.slice A N c)))
    have HL := Lib.hid bL
    have HI := Lib.hid bI
    have HG := Lib.hid bG
    have HD := Lib.hid bD
    have HB := Lib.hid bB
    have HGR := Lib.hid (fun W => groupOrder_ex A N c W hN6)
    clear bL bI bG bD bB hKW hq hr hd
    gi_wp2_with fail
    refine Late.round (C := fun w' : World => Ex W1 w' ∧ (w'.cell? ⟨g + 1, 0, none⟩ = some (.slice (some ⟨g, 0, none⟩) n n) ∧ w'.cell? ⟨w.heap.size + 1, 0, none⟩ = some (.int .i64 (q : Int)) ∧ w'.cell? ⟨w.heap.size, 0, none⟩ = some (.slice A N c)))
      (fun j => j != 9) (by kernel_rfl) (by rfl) (by rintro ⟨_, _, h⟩; exact h) ⟨(Ex.refl W1).drew, HF.out _ (Ex.refl W1).drew⟩ ?_
    intro hS
    refine Late.take (i := 0) (oi := _) (v := ?_) rfl (by kernel_rfl) (by kernel_rfl) (by kernel_rfl) (by kernel_rfl) (fun _ _ _ h => h) (Or.inl ⟨by rfl, ?_⟩) hS ?_
    rotate_left
    · (intro w hSw; (try dsimp only at hSw); go_simp; first | done | with_reducible rfl)
    simp only [Act.put]
    refine Late.take (i := 1) (oi := _) (v := ?_) rfl (by kernel_rfl) (by kernel_rfl) (by kernel_rfl) (by kernel_rfl) (fun _ _ _ h => h) (Or.inl ⟨by rfl, ?_⟩) hS ?_
    rotate_left
    · (intro w hSw; (try dsimp only at hSw); go_simp; first | done | with_reducible rfl)
    simp only [Act.put]
    refine Late.take (i := 2) (oi := _) (v := ?_) rfl (by kernel_rfl) (by kernel_rfl) (by kernel_rfl) (by kernel_rfl) (fun _ _ _ h => h) (Or.inl ⟨by rfl, ?_⟩) hS ?_
    rotate_left
    · (intro w hSw; (try dsimp only at hSw); go_simp; first | done | with_reducible rfl)
    simp only [Act.put]
    refine Late.take (i := 3) (oi := _) (v := ?_) rfl (by kernel_rfl) (by kernel_rfl) (by kernel_rfl) (by kernel_rfl) (fun _ _ _ h => h) (Or.inl ⟨by rfl, ?_⟩) hS ?_
    rotate_left
    · (intro w hSw; (try dsimp only at hSw); go_simp; first | done | with_reducible rfl)
    simp only [Act.put]
    refine Late.one (i := 4) (o := _) (by kernel_rfl) rfl (fun K' hK' => ?_)
    rw [if_pos (by rfl)]
    go_simp
    refine (HGR.out _).mono ?_
    rintro e w1 ⟨rfl, he1⟩
    have hS1 := And.intro (hS.1.trans he1) (HF.out _ (hS.1.trans he1))
    refine hK'.out _ _ (fun _ => hS1) (fun _ => ?_)
    clear hK' K'
    refine Late.take (i := 5) (oi := _) (v := ?_) rfl (by kernel_rfl) (by kernel_rfl) (by kernel_rfl) (by kernel_rfl) (fun _ _ _ h => h) (Or.inl ⟨by rfl, ?_⟩) hS1 ?_
    rotate_left
    · (intro w hSw; (try dsimp only at hSw); go_simp; first | done | with_reducible rfl)
    simp only [Act.put]
    refine Late.take (i := 6) (oi := _) (v := ?_) rfl (by kernel_rfl) (by kernel_rfl) (by kernel_rfl) (by kernel_rfl) (fun _ _ _ h => h) (Or.inl ⟨by rfl, ?_⟩) hS1 ?_
    rotate_left
    · (intro w hSw; (try dsimp only at hSw); go_simp; first | done | with_reducible rfl)
    simp only [Act.put]
    refine Late.take (i := 7) (oi := _) (v := ?_) rfl (by kernel_rfl) (by kernel_rfl) (by kernel_rfl) (by kernel_rfl) (fun _ _ _ h => h) (Or.inl ⟨by rfl, ?_⟩) hS1 ?_
    rotate_left
    · (intro w hSw; (try dsimp only at hSw); go_simp; first | done | with_reducible rfl)
    simp only [Act.put]
    refine Late.take (i := 8) (oi := _) (v := ?_) rfl (by kernel_rfl) (by kernel_rfl) (by kernel_rfl) (by kernel_rfl) (fun _ _ _ h => h) (Or.inl ⟨by rfl, ?_⟩) hS1 ?_
    rotate_left
    · (intro w hSw; (try dsimp only at hSw); go_simp; first | done | with_reducible rfl)
    simp only [Act.put]
    have cst : w1.cell? ⟨g, p, none⟩ = some (.int .i64 ((runB B i (bkP pre)).1 p)) := by rw [(HL.out.ex hS1.1).cell, tab_get hp]
    have fst := (HL.out.ex hS1.1).free p
    refine Late.one (i := 9) (o := _) (by kernel_rfl) rfl (fun K' hK' => ?_)
    go_simp
    refine hK'.out _ _ (fun h => by cases h) (fun _ => ?_)
    clear hK' K'
    refine Late.done (by kernel_rfl) ?_ _
    have bL := (HL.out.ex hS1.1).put p (.int .i64 ((r + 1 : Nat) : Int))
    rw [tab_set hp] at bL
    have hK2 : Keeps w.heap.size W1 (w1.setCell ⟨g, p, none⟩ (.int .i64 ((r + 1 : Nat) : Int))) := (Keeps.of_below hS1.1 hzw).setCell (p := ⟨g, p, none⟩) (by show w.heap.size ≤ g; omega) _
    have bI := (HI.out.ex hS1.1).far (p := ⟨g, p, none⟩) (by show w.heap.size + 1 ≠ g; omega) (.int .i64 ((r + 1 : Nat) : Int))
    have bG := (HG.out.ex hS1.1).far (p := ⟨g, p, none⟩) (by show w.heap.size ≠ g; omega) (.int .i64 ((r + 1 : Nat) : Int))
    have bD := (HD.out.ex hS1.1).far (p := ⟨g, p, none⟩) (by show g + 1 ≠ g; omega) (.int .i64 ((r + 1 : Nat) : Int))
    have bB := (HB.out.ex hS1.1).far (p := ⟨g, p, none⟩) (by show g + 1 + 1 ≠ g; omega) (.int .i64 ((r + 1 : Nat) : Int))
    have hzw2 := hK2.1.size
    rw [HWM.out]
    obtain ⟨W2, hW2⟩ : ∃ W2, w1.setCell ⟨g, p, none⟩ (.int .i64 ((r + 1 : Nat) : Int)) = W2 := ⟨_, rfl⟩
    rw [hW2] at bL bI bG bD bB hK2 hzw2 ⊢
    have HF2 := Lib.hid (fun W' (he : Ex W2 W') => (⟨(Has.ex bI he).cell 0, (Has.ex bG he).cell 0⟩ :
        W'.cell? ⟨w.heap.size + 1, 0, none⟩ = some (.int .i64 (q : Int)) ∧ W'.cell? ⟨w.heap.size, 0, none⟩ = some (.slice A N c)))
    have HL2 := Lib.hid bL
    have HI2 := Lib.hid bI
    have HG2 := Lib.hid bG
    have HD2 := Lib.hid bD
    have HB2 := Lib.hid bB
    have HK2 := Lib.hid hK2
    have hzw3 : w.heap.size ≤ W2.heap.size := by omega
    clear bL bI bG bD bB hK2 hW2 cst fst hS hS1 he1 HF HD HI
    gi_wp2_with fail
    refine Late.round (C := fun w' : World => Ex W2 w' ∧ (w'.cell? ⟨w.heap.size + 1, 0, none⟩ = some (.int .i64 (q : Int)) ∧ w'.cell? ⟨w.heap.size, 0, none⟩ = some (.slice A N c)))
      (fun j => j != 5) (by kernel_rfl) (by rfl) (by rintro ⟨_, _, h⟩; exact h) ⟨(Ex.refl W2).drew, HF2.out _ (Ex.refl W2).drew⟩ ?_
    intro hS
    refine Late.take (i := 0) (oi := _) (v := ?_) rfl (by kernel_rfl) (by kernel_rfl) (by kernel_rfl) (by kernel_rfl) (fun _ _ _ h => h) (Or.inl ⟨by rfl, ?_⟩) hS ?_
    rotate_left
    · (intro w hSw; (try dsimp only at hSw); go_simp; first | done | with_reducible rfl)
    simp only [Act.put]
    refine Late.take (i := 1) (oi := _) (v := ?_) rfl (by kernel_rfl) (by kernel_rfl) (by kernel_rfl) (by kernel_rfl) (fun _ _ _ h => h) (Or.inl ⟨by rfl, ?_⟩) hS ?_
    rotate_left
    · (intro w hSw; (try dsimp only at hSw); go_simp; first | done | with_reducible rfl)
    simp only [Act.put]
    refine Late.one (i := 2) (o := _) (by kernel_rfl) rfl (fun K' hK' => ?_)
    rw [if_pos (by rfl)]
    go_simp
    refine (HGR.out _).mono ?_
    rintro e w3 ⟨rfl, he1⟩
    have hS1 := And.intro (hS.1.trans he1) (HF2.out _ (hS.1.trans he1))
    refine hK'.out _ _ (fun _ => hS1) (fun _ => ?_)
    clear hK' K'
    refine Late.take (i := 3) (oi := _) (v := ?_) rfl (by kernel_rfl) (by kernel_rfl) (by kernel_rfl) (by kernel_rfl) (fun _ _ _ h => h) (Or.inl ⟨by rfl, ?_⟩) hS1 ?_
    rotate_left
    · (intro w hSw; (try dsimp only at hSw); go_simp; first | done | with_reducible rfl)
    simp only [Act.put]
    refine Late.take (i := 4) (oi := _) (v := ?_) rfl (by kernel_rfl) (by kernel_rfl) (by kernel_rfl) (by kernel_rfl) (fun _ _ _ h => h) (Or.inl ⟨by rfl, ?_⟩) hS1 ?_
    rotate_left
    · (intro w hSw; (try dsimp only at hSw); go_simp; first | done | with_reducible rfl)
    simp only [Act.put]
    have ci := (HI2.out.ex hS1.1).cell 0
    have fi := (HI2.out.ex hS1.1).free 0
    refine Late.one (i := 5) (o := _) (by kernel_rfl) rfl (fun K' hK' => ?_)
    go_simp
    refine hK'.out _ _ (fun h => by cases h) (fun _ => ?_)
    clear hK' K'
    refine Late.done (by kernel_rfl) ?_ _
    have bL := (HL2.out.ex hS1.1).far (p := ⟨w.heap.size + 1, 0, none⟩) (by show g ≠ w.heap.size + 1; omega) (.int .i64 (d : Int))
    have bI : Has _ _ _ _ := (HI2.out.ex hS1.1).put1 (v := .int .i64 (d : Int))
    have bG := (HG2.out.ex hS1.1).far (p := ⟨w.heap.size + 1, 0, none⟩) (by show w.heap.size ≠ w.heap.size + 1; omega) (.int .i64 (d : Int))
    have bD := (HD2.out.ex hS1.1).far (p := ⟨w.heap.size + 1, 0, none⟩) (by show g + 1 ≠ w.heap.size + 1; omega) (.int .i64 (d : Int))
    have bB := (HB2.out.ex hS1.1).far (p := ⟨w.heap.size + 1, 0, none⟩) (by show g + 1 + 1 ≠ w.heap.size + 1; omega) (.int .i64 (d : Int))
    show _ ∧ _ ∧ _ ∧ _ ∧ _ ∧ _ ∧ _
    rw [HST.out]
    refine ⟨HK2.out.trans ((Keeps.of_below hS1.1 hzw3).setCell (p := ⟨w.heap.size + 1, 0, none⟩) (by show w.heap.size ≤ w.heap.size + 1; omega) _), BackR.of HB.out bB HL.out bL, ?_, bI, bG, bD, bB⟩
    refine Eq.mp (congrArg (fun f => Has _ g 2 (tab n f)) (funext fun p' => ?_)) bL
    show _ = Value.int .i64 (if p' = p then _ else _)
    by_cases h : p' = p
    · rw [if_pos h, if_pos h]
    · rw [if_neg h, if_neg h]

end Go.Proofs.YtdehalkebneaoaaDoor
