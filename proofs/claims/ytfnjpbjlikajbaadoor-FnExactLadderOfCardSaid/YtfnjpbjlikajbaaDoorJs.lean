/- WrapOf: the specification's contract. -/
import Derived.Test.YtfnjpbjlikajbaaDoorJq
namespace Go.Proofs.YtfnjpbjlikajbaaDoor
open Go.RowKit Go.Shelf

attribute [local go_sem] Oper.semAt_some

theorem wrV_at {N p q : Nat} (x : Int) (hp : p < N - 1) (hq : q < N - 1) : wrV N x (p * (N - 1) + q) = if p + 1 + (q + 1) < N then 0 else x := by
  have h0 : dN N 2 (p * (N - 1) + q) 0 = p + 1 := by
    unfold dN
    rw [show 2 - 1 - 0 = 1 by omega, Nat.pow_one, Nat.mul_comm, Nat.mul_add_div (by omega), Nat.div_eq_of_lt hq]
    show p % (N - 1) + 1 = p + 1
    rw [Nat.mod_eq_of_lt hp]
  have h1 : dN N 2 (p * (N - 1) + q) 1 = q + 1 := by
    unfold dN
    rw [show 2 - 1 - 1 = 0 by omega, Nat.pow_zero, Nat.div_one, Nat.mul_comm, Nat.mul_add_mod, Nat.mod_eq_of_lt hq]
  rw [wrV, h0, h1]
theorem wrV_on {N P Q : Nat} (x : Int) (hP1 : 1 ≤ P) (hP : P < N) (hQ1 : 1 ≤ Q) (hQ : Q < N) : wrV N x ((P - 1) * (N - 1) + (Q - 1)) = if P + Q < N then 0 else x := by
  rw [wrV_at x (p := P - 1) (q := Q - 1) (by omega) (by omega), show P - 1 + 1 + (Q - 1 + 1) = P + Q by omega]
theorem range_snoc (V : Nat → Int) (n : Nat) : (List.range (n + 1)).map V = (List.range n).map V ++ [V n] := by rw [List.range_succ, List.map_append]; rfl

set_option maxRecDepth 100000 in
set_option maxHeartbeats 4000000 in
theorem specWrapOf_ex (m0 m1 m2 m3 : Int) : ∀ (W : World), Calls Tryd.prog 6 #[.int .i64 m0, .int .i64 m1, .int .i64 m2, .int .i64 m3] W fun e W' => ∃ (C0 : Option Addr) (e0 : Nat), e = .returned (.tuple #[.agg #[.int .i64 (qWrapOf0 m0 m1 m2 m3), .slice C0 (yWrapOf0 m0 m1 m2 m3).length e0], .int .i64 (qWrapOf1 m0 m1 m2 m3)]) ∧ Ex W W' ∧ OwnL W' W.heap.size W'.heap.size C0 (yWrapOf0 m0 m1 m2 m3) := by
  intro w
  have e0 : Ex w (w.alloc (.cells #[.int .i64 0, .slice none 0 0] 24)) := (Ex.refl w).alloc _
  have b0 : Has (w.alloc (.cells #[.int .i64 0, .slice none 0 0] 24)) (w.heap.size) 24 #[.int .i64 0, .slice none 0 0] := (Has.newAt (w := w) (e := 24) (cs := #[.int .i64 0, .slice none 0 0]) (k := w.heap.size) (by simp))
  have HB0 := Lib.hid b0
  have HE := Lib.hid e0
  have d0 := b0.cell 0
  have d1 := b0.cell 1
  have f0 := b0.free 0
  have f1 := b0.free 1
  have hl := b0.lt
  have HC := Lib.hid (l09Given_w m0 m1 m2 m3 (w.alloc (.cells #[.int .i64 0, .slice none 0 0] 24)))
  clear b0 e0
  cases hc : okW m0 m1 m2 m3 with
  | false =>
    have HQ := Lib.hid (wrap_no hc)
    rw [codW_no hc] at HC
    clear hc
    go_enter Tryd.func6, Tryd.ntmps6
    go_wp2_with fail
    generalize (w.alloc (.cells #[.int .i64 0, .slice none 0 0] 24)) = W0 at *
    refine HC.out.mono ?_
    rintro e w1 ⟨rfl, rfl⟩
    go_wp2_with fail
    have H4 := HB0.out.put2 (u := .int .i64 0) (v := .slice none 0 0)
    have g0 := H4.cell 0
    have g1 := H4.cell 1
    refine bodyPost_ret (v := .tuple #[.agg #[.int .i64 0, .slice none 0 0], .int .i64 2]) (by simp [results, Tryd.results6, go_sem, g0, g1]) rfl ⟨none, 0, by rw [HQ.out.1, HQ.out.2.1, HQ.out.2.2]; rfl, ?_, ?_⟩
    · exact (HE.out.setCell (Nat.le_refl _) _).setCell (Nat.le_refl _) _
    · rw [HQ.out.2.1]
      exact OwnL.nil _ _ _ (Nat.le_refl _)
  | true =>
    rw [codW_yes hc] at HC
    obtain ⟨N, M, U, X, rfl, rfl, rfl, rfl, hn1, hn2, hm1, hm2, hu1, hu2, hxm⟩ := okW_nat hc
    have hpl : U * X ≤ 40000 := mul_200 (by omega) (by omega)
    have hmul : IntKind.i64.wrap ((U : Int) * (X : Int)) = (U : Int) * (X : Int) := IntWalk.i64_in _ (by rw [← Int.natCast_mul]; omega)
    have hne : ¬ M = 0 := by omega
    by_cases hz : (U : Int) * (X : Int) % (M : Int) = (X : Int)
    · have HQ := Lib.hid (wrap_on hc hz)
      rw [Int.toNat_natCast] at HQ
      obtain ⟨i0, hi, hz0, hz1, hz2⟩ := info_parts infoI
      clear hc
      go_enter Tryd.func6, Tryd.ntmps6
      go_wp2_with fail
      generalize (w.alloc (.cells #[.int .i64 0, .slice none 0 0] 24)) = W0 at *
      refine HC.out.mono ?_
      rintro e w1 ⟨rfl, rfl⟩
      go_wp2_with fail
      have hzw := HE.out.size
      have HX0 := Lib.hid ((HE.out.alloc (.cells #[] 2)).alloc (.cells #[.int .i64 2, .slice (some ⟨w1.heap.size, 0, none⟩) 0 0] 24))
      have HD0 : Hid (Has ((w1.alloc (.cells #[] 2)).alloc (.cells #[.int .i64 2, .slice (some ⟨w1.heap.size, 0, none⟩) 0 0] 24)) (w1.heap.size + 1) 24 #[.int .i64 2, .slice (some ⟨w1.heap.size, 0, none⟩) 0 0]) := Lib.hid (Has.newAt (by simp))
      have HG0 : Hid (GrowI ((w1.alloc (.cells #[] 2)).alloc (.cells #[.int .i64 2, .slice (some ⟨w1.heap.size, 0, none⟩) 0 0] 24)) w.heap.size (.slice (some ⟨w1.heap.size, 0, none⟩) 0 0) ((1 - 1) * (N - 1)) ((List.range ((1 - 1) * (N - 1))).map (wrV N (X : Int)))) := Lib.hid (by
        rw [Nat.sub_self, Nat.zero_mul]
        exact (GrowI.empty w1 hzw).ex (Ex.new _ _))
      have HB00 := Lib.hid (((HB0.out.alloc (.cells #[] 2)).alloc (.cells #[.int .i64 2, .slice (some ⟨w1.heap.size, 0, none⟩) 0 0] 24)))
      have HEW := Lib.hid HE.out
      have HBW := Lib.hid HB0.out
      have hlt0 := HB0.out.lt
      clear d0 d1 f0 f1 hl HE HB0 HC hz hmul hpl
      generalize (w1.alloc (.cells #[] 2)).alloc (.cells #[.int .i64 2, .slice (some ⟨w1.heap.size, 0, none⟩) 0 0] 24) = W1 at *
      go_loopw [12] (fun i wr => ∃ (p : Nat) (v : Value), 1 ≤ p ∧ p ≤ N ∧ i = .int .i64 (p : Int) ∧ Hid (Ex w wr) ∧ Hid (Has wr w.heap.size 24 #[.int .i64 0, .slice none 0 0]) ∧ Hid (Has wr (w1.heap.size + 1) 24 #[.int .i64 2, v]) ∧ Hid (GrowI wr w.heap.size v ((p - 1) * (N - 1)) ((List.range ((p - 1) * (N - 1))).map (wrV N (X : Int))))) (fun i _ => N - (intOf i).toNat)
      case atStart => exact ⟨1, _, Nat.le_refl _, hn1, rfl, HX0, HB00, HD0, HG0⟩
      case round =>
        clear HX0 HB00 HD0 HG0
        obtain ⟨p, v, hp1, hp, rfl, HE, HR, HB, HG⟩ := hrel
        by_cases hlt : p < N
        · have hsq : (p - 1) * (N - 1) ≤ 49 := by
            have := Nat.mul_le_mul (show p - 1 ≤ 7 by omega) (show N - 1 ≤ 7 by omega)
            omega
          have HGS : Hid (GrowI wr w.heap.size v ((p - 1) * (N - 1) + (1 - 1)) ((List.range ((p - 1) * (N - 1) + (1 - 1))).map (wrV N (X : Int)))) := HG
          go_wp2_with fail
          obtain ⟨wq, hwq⟩ : ∃ x, x = wr := ⟨_, rfl⟩
          subst hwq
          clear HG
          go_loopw [13] (fun j wr => ∃ (q : Nat) (v : Value), 1 ≤ q ∧ q ≤ N ∧ j = .int .i64 (q : Int) ∧ Hid (Ex w wr) ∧ Hid (Has wr w.heap.size 24 #[.int .i64 0, .slice none 0 0]) ∧ Hid (Has wr (w1.heap.size + 1) 24 #[.int .i64 2, v]) ∧ Hid (GrowI wr w.heap.size v ((p - 1) * (N - 1) + (q - 1)) ((List.range ((p - 1) * (N - 1) + (q - 1))).map (wrV N (X : Int))))) (fun j _ => N - (intOf j).toNat)
          case atStart => exact ⟨1, _, Nat.le_refl _, hn1, rfl, HE, HR, HB, HGS⟩
          case round =>
            clear HE HR HB HGS
            obtain ⟨q, v, hq1, hq, rfl, HE, HR, HB, HG⟩ := hrel
            by_cases hlq : q < N
            · have hv := wrV_on (X : Int) hp1 hlt hq1 hlq
              obtain ⟨A, cc, rfl⟩ := HG.out.form
              by_cases hsum : p + q < N
              · rw [if_pos hsum] at hv
                have HV := Lib.hid hv
                clear hv
                have HA1 := Lib.hid (HG.out.ex (Ex.new wr (.cells #[.int .i64 0] 2)))
                have HB1 := Lib.hid (HB.out.alloc (.cells #[.int .i64 0] 2))
                have HR1 := Lib.hid (HR.out.alloc (.cells #[.int .i64 0] 2))
                have HE1 := Lib.hid (HE.out.alloc (.cells #[.int .i64 0] 2))
                have c1 := HB.out.cell 1
                have c1' := HB1.out.cell 1
                go_wp2_with (at_builtin; refine wpList_append_own _ rfl _ _ 22 rfl w.heap.size 2 i0 (.int .i64 0) 1 8 Tryd.underlying22 hi hz0 hz1 hz2 rfl (by decide) _ _ _ rfl HA1.out.1 ⟨wr.heap.size, 0, none⟩ 1 1 [.int .i64 0] rfl rfl (cell_one_new _ _ _) (by simp [Value.oneCell']) (by unfold maxLen; omega) (by omega) (by have := HE.out.size; simp; omega) ?_; intro v' w3 hown3 hgrow3 _; obtain ⟨g3, cap3, rfl⟩ := ownsRow_succ hown3; have hb3 := HB1.out.grew (by decide) HA1.out hgrow3; have hc3 := hb3.cell 1; have hf3 := hb3.free 1; have hl3 := hb3.lt)
                go_roundw
                case rel =>
                  have hx3 := Ex.grew HE1.out HA1.out (Nat.le_refl _) hgrow3
                  have hg3 := HA1.out.snoc hown3
                  have hr3 := Has.grew HR1.out (by decide) HA1.out hgrow3
                  refine ⟨q + 1, _, by omega, by omega, by go_num, Lib.hid (hx3.setCell (p := ⟨w1.heap.size + 1, 1, none⟩) (by show w.heap.size ≤ w1.heap.size + 1; omega) _), Lib.hid (hr3.far (p := ⟨w1.heap.size + 1, 1, none⟩) (by show w.heap.size ≠ w1.heap.size + 1; omega) _), Lib.hid (hb3.put 1 _), ?_⟩
                  rw [show (p - 1) * (N - 1) + (q + 1 - 1) = (p - 1) * (N - 1) + (q - 1) + 1 by omega, range_snoc, HV.out]
                  exact Lib.hid (hg3.set hb3 (by decide) 1 _)
                case measure => simp [intOf]; omega
              · rw [if_neg hsum] at hv
                have HV := Lib.hid hv
                clear hv
                have HA1 := Lib.hid (HG.out.ex (Ex.new wr (.cells #[.int .i64 (X : Int)] 2)))
                have HB1 := Lib.hid (HB.out.alloc (.cells #[.int .i64 (X : Int)] 2))
                have HR1 := Lib.hid (HR.out.alloc (.cells #[.int .i64 (X : Int)] 2))
                have HE1 := Lib.hid (HE.out.alloc (.cells #[.int .i64 (X : Int)] 2))
                have c1 := HB.out.cell 1
                have c1' := HB1.out.cell 1
                go_wp2_with (at_builtin; refine wpList_append_own _ rfl _ _ 22 rfl w.heap.size 2 i0 (.int .i64 0) 1 8 Tryd.underlying22 hi hz0 hz1 hz2 rfl (by decide) _ _ _ rfl HA1.out.1 ⟨wr.heap.size, 0, none⟩ 1 1 [.int .i64 (X : Int)] rfl rfl (cell_one_new _ _ _) (by simp [Value.oneCell']) (by unfold maxLen; omega) (by omega) (by have := HE.out.size; simp; omega) ?_; intro v' w3 hown3 hgrow3 _; obtain ⟨g3, cap3, rfl⟩ := ownsRow_succ hown3; have hb3 := HB1.out.grew (by decide) HA1.out hgrow3; have hc3 := hb3.cell 1; have hf3 := hb3.free 1; have hl3 := hb3.lt)
                go_roundw
                case rel =>
                  have hx3 := Ex.grew HE1.out HA1.out (Nat.le_refl _) hgrow3
                  have hg3 := HA1.out.snoc hown3
                  have hr3 := Has.grew HR1.out (by decide) HA1.out hgrow3
                  refine ⟨q + 1, _, by omega, by omega, by go_num, Lib.hid (hx3.setCell (p := ⟨w1.heap.size + 1, 1, none⟩) (by show w.heap.size ≤ w1.heap.size + 1; omega) _), Lib.hid (hr3.far (p := ⟨w1.heap.size + 1, 1, none⟩) (by show w.heap.size ≠ w1.heap.size + 1; omega) _), Lib.hid (hb3.put 1 _), ?_⟩
                  rw [show (p - 1) * (N - 1) + (q + 1 - 1) = (p - 1) * (N - 1) + (q - 1) + 1 by omega, range_snoc, HV.out]
                  exact Lib.hid (hg3.set hb3 (by decide) 1 _)
                case measure => simp [intOf]; omega
            · obtain rfl : q = N := by omega
              go_wp2_with fail
              go_roundw
              case rel => exact ⟨p + 1, v, by omega, by omega, by go_num, HE, HR, HB, by rw [show (p + 1 - 1) * (q - 1) = (p - 1) * (q - 1) + (q - 1) by rw [← Nat.succ_mul, show (p - 1).succ = p + 1 - 1 by omega]]; exact HG⟩
              case measure => simp [intOf]; omega
        · obtain rfl : p = N := by omega
          obtain ⟨A, cc, rfl⟩ := HG.out.form
          have hcc : cellsN p 2 = (p - 1) * (p - 1) := by unfold cellsN; rw [Nat.pow_two]
          rw [hcc] at HQ
          have hln : ((List.range ((p - 1) * (p - 1))).map (wrV p (X : Int))).length = (p - 1) * (p - 1) := by simp
          have HLN := Lib.hid hln
          obtain ⟨xs, hxs⟩ : ∃ xs, (List.range ((p - 1) * (p - 1))).map (wrV p (X : Int)) = xs := ⟨_, rfl⟩
          rw [hxs] at HG HQ HLN
          obtain ⟨cn, hcn⟩ : ∃ cn, (p - 1) * (p - 1) = cn := ⟨_, rfl⟩
          rw [hcn] at HG HB HLN
          have k0 := HB.out.cell 0
          have k1 := HB.out.cell 1
          have d0 := HR.out.cell 0
          have d1 := HR.out.cell 1
          have f0 := HR.out.free 0
          have f1 := HR.out.free 1
          have hl := HR.out.lt
          clear hln hxs hcn hcc
          go_wp2_with fail
          have H4 := HR.out.put2 (u := .int .i64 2) (v := .slice A cn cc)
          have g0 := H4.cell 0
          have g1 := H4.cell 1
          have hg := (HG.out.set HR.out (by decide) 0 (.int .i64 2)).set (HR.out.put 0 (.int .i64 2)) (by decide) 1 (.slice A cn cc)
          obtain ⟨A2, c2, he2, ho2⟩ := hg.own
          rw [HLN.out] at he2
          cases he2
          refine bodyPost_ret (v := .tuple #[.agg #[.int .i64 2, .slice A cn cc], .int .i64 0]) (by simp [results, Tryd.results6, go_sem, g0, g1]) rfl ⟨A, cc, by rw [HQ.out.1, HQ.out.2.1, HQ.out.2.2, HLN.out], ?_, ?_⟩
          · exact (HE.out.setCell (Nat.le_refl _) _).setCell (Nat.le_refl _) _
          · rw [HQ.out.2.1]
            exact ho2
    · have HQ := Lib.hid (wrap_off hc hz)
      clear hc
      go_enter Tryd.func6, Tryd.ntmps6
      go_wp2_with fail
      generalize (w.alloc (.cells #[.int .i64 0, .slice none 0 0] 24)) = W0 at *
      refine HC.out.mono ?_
      rintro e w1 ⟨rfl, rfl⟩
      go_wp2_with fail
      have H4 := HB0.out.put2 (u := .int .i64 0) (v := .slice none 0 0)
      have g0 := H4.cell 0
      have g1 := H4.cell 1
      refine bodyPost_ret (v := .tuple #[.agg #[.int .i64 0, .slice none 0 0], .int .i64 5]) (by simp [results, Tryd.results6, go_sem, g0, g1]) rfl ⟨none, 0, by rw [HQ.out.1, HQ.out.2.1, HQ.out.2.2]; rfl, ?_, ?_⟩
      · exact (HE.out.setCell (Nat.le_refl _) _).setCell (Nat.le_refl _) _
      · rw [HQ.out.2.1]
        exact OwnL.nil _ _ _ (Nat.le_refl _)

end Go.Proofs.YtfnjpbjlikajbaaDoor
