/- LadderOf: the specification's contract. -/
import Derived.Test.YtfnjpbjlikajbaaDoorJr
import Derived.Test.YtfnjpbjlikajbaaDoorJs
namespace Go.Proofs.YtfnjpbjlikajbaaDoor
open Go.RowKit Go.Shelf

attribute [local go_sem] Oper.semAt_some

theorem late_world {P : Program} {md : Region.Mode} {ops : Array Oper} {Q : Exit → Act → World → Prop} {C : World → Prop} {need : Nat → Bool} {k : Nat} {done : Array Bool} {a : Act} {w : World} (F : World → Prop) (hF : F w) (h : ∀ X, F X → Late P md ops Q C need k done a X) : Late P md ops Q C need k done a w := h w hF

theorem laV_eq {M U X P : Nat} (hP : 1 ≤ P) : laV M U X (P - 1) = ((X * pws M U P % M : Nat) : Int) := by
  unfold laV
  rw [show P - 1 + 1 = P by omega, hrn_eq, Nat.mul_mod_mod]

set_option maxRecDepth 100000 in
set_option maxHeartbeats 4000000 in
theorem specLadderOf_ex (m0 m1 m2 m3 : Int) : ∀ (W : World), Calls Tryd.prog 11 #[.int .i64 m0, .int .i64 m1, .int .i64 m2, .int .i64 m3] W fun e W' => ∃ (C0 : Option Addr) (e0 : Nat), e = .returned (.tuple #[.agg #[.int .i64 (qLadderOf0 m0 m1 m2 m3), .slice C0 (yLadderOf0 m0 m1 m2 m3).length e0], .int .i64 (qLadderOf1 m0 m1 m2 m3)]) ∧ Ex W W' ∧ OwnL W' W.heap.size W'.heap.size C0 (yLadderOf0 m0 m1 m2 m3) := by
  intro w
  have e0 : Ex w (w.alloc (.cells #[.int .i64 0, .slice none 0 0] 24)) := (Ex.refl w).alloc _
  have b0 : Has (w.alloc (.cells #[.int .i64 0, .slice none 0 0] 24)) (w.heap.size) 24 #[.int .i64 0, .slice none 0 0] := (Has.newAt (w := w) (e := 24) (cs := #[.int .i64 0, .slice none 0 0]) (k := w.heap.size) (by simp))
  have HB0 := Lib.hid b0
  have HE := Lib.hid e0
  have d0 := b0.cell 0
  have d1 := b0.cell 1
  have f0 := b0.free 0
  have f1 := b0.free 1
  have hl := b0.lt
  have HC := Lib.hid (l09Given_w m0 m1 m2 m3 (w.alloc (.cells #[.int .i64 0, .slice none 0 0] 24)))
  clear b0 e0
  cases hc : okW m0 m1 m2 m3 with
  | false =>
    have HQ := Lib.hid (ladder_no hc)
    rw [codW_no hc] at HC
    clear hc
    go_enter Tryd.func11, Tryd.ntmps11
    go_wp2_with fail
    generalize (w.alloc (.cells #[.int .i64 0, .slice none 0 0] 24)) = W0 at *
    refine HC.out.mono ?_
    rintro e w1 ⟨rfl, rfl⟩
    go_wp2_with fail
    have H4 := HB0.out.put2 (u := .int .i64 0) (v := .slice none 0 0)
    have g0 := H4.cell 0
    have g1 := H4.cell 1
    refine bodyPost_ret (v := .tuple #[.agg #[.int .i64 0, .slice none 0 0], .int .i64 2]) (by simp [results, Tryd.results11, go_sem, g0, g1]) rfl ⟨none, 0, by rw [HQ.out.1, HQ.out.2.1, HQ.out.2.2]; rfl, ?_, ?_⟩
    · exact (HE.out.setCell (Nat.le_refl _) _).setCell (Nat.le_refl _) _
    · rw [HQ.out.2.1]
      exact OwnL.nil _ _ _ (Nat.le_refl _)
  | true =>
    rw [codW_yes hc] at HC
    obtain ⟨N, M, U, X, rfl, rfl, rfl, rfl, hn1, hn2, hm1, hm2, hu1, hu2, hxm⟩ := okW_nat hc
    have HNO := Lib.hid (fun W => l09Norm_any M U N W (by omega) (by omega) (by omega) (by omega))
    have hh := hrn_lt U (show 0 < M by omega) N
    have hoff := ladder_off hc
    have hon := ladder_on hc
    obtain ⟨v, hv⟩ : ∃ v, hrn M U N = v := ⟨_, rfl⟩
    rw [hv] at HNO hh hoff hon
    have hpl : v * X ≤ 40000 := mul_200 (by omega) (by omega)
    have hmul : IntKind.i64.wrap ((v : Int) * (X : Int)) = ((v * X : Nat) : Int) := by rw [← Int.natCast_mul]; exact IntWalk.i64_in _ (by omega)
    have hne : ¬ M = 0 := by omega
    by_cases hz : v * X % M = 0
    · have hzi : ((v : Int) * (X : Int) % (M : Int)) = 0 := by rw [← Int.natCast_mul, ← Int.natCast_emod, hz]; rfl
      have HQ := Lib.hid (hon hz)
      obtain ⟨i0, hi, hi0, hi1, hi2⟩ := info_parts infoI
      have HPW := Lib.hid (fun k (hk : k ≤ 60) W => l09Power_any M U k W (by omega) (by omega) (by omega) hk)
      clear hc hoff hon hv hz
      go_enter Tryd.func11, Tryd.ntmps11
      go_wp2_with fail
      generalize (w.alloc (.cells #[.int .i64 0, .slice none 0 0] 24)) = W0 at *
      refine HC.out.mono ?_
      rintro e w1 ⟨rfl, rfl⟩
      go_wp2_with fail
      refine (HNO.out _).mono ?_
      rintro e w2 ⟨rfl, rfl⟩
      go_wp2_with fail
      have hzw := HE.out.size
      have HX0 := Lib.hid ((HE.out.alloc (.cells #[] 2)).alloc (.cells #[.int .i64 1, .slice (some ⟨w2.heap.size, 0, none⟩) 0 0] 24))
      have HD0 : Hid (Has ((w2.alloc (.cells #[] 2)).alloc (.cells #[.int .i64 1, .slice (some ⟨w2.heap.size, 0, none⟩) 0 0] 24)) (w2.heap.size + 1) 24 #[.int .i64 1, .slice (some ⟨w2.heap.size, 0, none⟩) 0 0]) := Lib.hid (Has.newAt (by simp))
      have HG0 : Hid (GrowI ((w2.alloc (.cells #[] 2)).alloc (.cells #[.int .i64 1, .slice (some ⟨w2.heap.size, 0, none⟩) 0 0] 24)) w.heap.size (.slice (some ⟨w2.heap.size, 0, none⟩) 0 0) (1 - 1) ((List.range (1 - 1)).map (laV M U X))) := Lib.hid (by
        rw [Nat.sub_self]
        exact (GrowI.empty w2 hzw).ex (Ex.new _ _))
      have HB00 := Lib.hid (((HB0.out.alloc (.cells #[] 2)).alloc (.cells #[.int .i64 1, .slice (some ⟨w2.heap.size, 0, none⟩) 0 0] 24)))
      have hlt0 := HB0.out.lt
      have HS0 : Hid (pws M U (1 - 1) = 0) := Lib.hid rfl
      clear d0 d1 f0 f1 hl HE HB0 HC hzi hmul hpl
      generalize (w2.alloc (.cells #[] 2)).alloc (.cells #[.int .i64 1, .slice (some ⟨w2.heap.size, 0, none⟩) 0 0] 24) = W1 at *
      go_loopw [12, 13] (fun s i wr => ∃ (p : Nat) (v : Value), 1 ≤ p ∧ p ≤ N ∧ s = .int .i64 (pws M U (p - 1) : Int) ∧ i = .int .i64 (p : Int) ∧ Hid (Ex w wr) ∧ Hid (Has wr w.heap.size 24 #[.int .i64 0, .slice none 0 0]) ∧ Hid (Has wr (w2.heap.size + 1) 24 #[.int .i64 1, v]) ∧ Hid (GrowI wr w.heap.size v (p - 1) ((List.range (p - 1)).map (laV M U X)))) (fun _ i _ => N - (intOf i).toNat)
      case atStart => exact ⟨1, _, Nat.le_refl _, hn1, by rw [HS0.out]; rfl, rfl, HX0, HB00, HD0, HG0⟩
      case round =>
        clear HX0 HB00 HD0 HG0
        obtain ⟨p, v, hp1, hp, rfl, rfl, HE, HR, HB, HG⟩ := hrel
        obtain ⟨A, cc, rfl⟩ := HG.out.form
        by_cases hlt : p < N
        · have hs : ((p - 1 : Nat) : Int) = (p : Int) - 1 := by omega
          have hcon := HPW.out (p - 1) (by omega) wr
          rw [hs] at hcon
          have hl1 := pws_le U (show 0 < M by omega) (p - 1)
          have hl2 := pwm_lt U (show 0 < M by omega) (p - 1)
          have hl3 := Nat.mul_le_mul (show p - 1 ≤ 8 by omega) hm2
          have hst : pws M U p = pws M U (p - 1) + pwm M U (p - 1) := by
            obtain ⟨r, rfl⟩ : ∃ r, p = r + 1 := ⟨p - 1, by omega⟩
            rfl
          have hlv := laV_eq (M := M) (U := U) (X := X) hp1
          have HN1 : Hid (pws M U (p + 1 - 1) = pws M U p) := Lib.hid (by rw [Nat.add_sub_cancel])
          obtain ⟨a, ha⟩ : ∃ a, pws M U (p - 1) = a := ⟨_, rfl⟩
          obtain ⟨b, hb⟩ : ∃ b, pwm M U (p - 1) = b := ⟨_, rfl⟩
          rw [hb] at hcon hst hl2
          rw [ha] at hst hl1
          rw [ha]
          have HST := Lib.hid hst
          rw [hst] at hlv
          have HPC := Lib.hid hcon
          obtain ⟨c, hcc⟩ : ∃ c, a + b = c := ⟨_, rfl⟩
          rw [hcc] at hlv HST
          have hcl : c ≤ 200 := by omega
          have hab : (a : Int) + (b : Int) = (c : Int) := by omega
          have hpl : X * c ≤ 40000 := mul_200 (by omega) hcl
          have hmul : IntKind.i64.wrap ((X : Int) * (c : Int)) = ((X * c : Nat) : Int) := by rw [← Int.natCast_mul]; exact IntWalk.i64_in _ (by omega)
          have hmod := tmod_nat (X * c) M
          obtain ⟨z, hz⟩ : ∃ z, X * c % M = z := ⟨_, rfl⟩
          rw [hz] at hmod hlv
          have HV := Lib.hid hlv
          obtain ⟨y, hy⟩ : ∃ y, X * c = y := ⟨_, rfl⟩
          rw [hy] at hmul hmod hpl
          have hwab : IntKind.i64.wrap ((a : Int) + (b : Int)) = (c : Int) := by rw [hab]; exact IntWalk.i64_in _ (by omega)
          have HAB := Lib.hid hab
          clear hs hcon hl1 hl2 hl3 hst hlv ha hb hcc hz hy hab
          go_wp2_with fail
          refine HPC.out.mono ?_
          rintro e w4 ⟨rfl, rfl⟩
          go_wp2_with fail
          have hz1 := hlt0
          have c1 := HB.out.cell 1
          refine Late.region (C := fun w' => w'.cell? ⟨w2.heap.size + 1, 1, none⟩ = some (.slice A (p - 1) cc)) (fun j => decide (j < 9)) (by kernel_rfl) c1 (fun hC => ?_)
          refine Late.take (i := 0) (oi := _) (v := ?_) rfl (by kernel_rfl) (by kernel_rfl) (by kernel_rfl) (by kernel_rfl) (fun _ _ _ h => h) (Or.inl ⟨by rfl, ?_⟩) hC ?_
          rotate_left
          · (intro w hSw; (try dsimp only at hSw); go_simp; first | done | with_reducible rfl)
          simp only [Act.put]
          refine Late.take (i := 1) (oi := _) (v := ?_) rfl (by kernel_rfl) (by kernel_rfl) (by kernel_rfl) (by kernel_rfl) (fun _ _ _ h => h) (Or.inl ⟨by rfl, ?_⟩) hC ?_
          rotate_left
          · (intro w hSw; (try dsimp only at hSw); go_simp; first | done | with_reducible rfl)
          simp only [Act.put]
          refine Late.take (i := 2) (oi := _) (v := ?_) rfl (by kernel_rfl) (by kernel_rfl) (by kernel_rfl) (by kernel_rfl) (fun _ _ _ h => h) (Or.inl ⟨by rfl, ?_⟩) hC ?_
          rotate_left
          · (intro w hSw; (try dsimp only at hSw); go_simp; first | done | with_reducible rfl)
          simp only [Act.put]
          refine Late.take (i := 3) (oi := _) (v := ?_) rfl (by kernel_rfl) (by kernel_rfl) (by kernel_rfl) (by kernel_rfl) (fun _ _ _ h => h) (Or.inl ⟨by rfl, ?_⟩) hC ?_
          rotate_left
          · (intro w hSw; (try dsimp only at hSw); go_simp; first | done | with_reducible rfl)
          simp only [Act.put]
          refine Late.take (i := 4) (oi := _) (v := ?_) rfl (by kernel_rfl) (by kernel_rfl) (by kernel_rfl) (by kernel_rfl) (fun _ _ _ h => h) (Or.inl ⟨by rfl, ?_⟩) hC ?_
          rotate_left
          · (intro w hSw; (try dsimp only at hSw); go_simp; first | done | with_reducible rfl)
          simp only [Act.put]
          refine Late.take (i := 5) (oi := _) (v := ?_) rfl (by kernel_rfl) (by kernel_rfl) (by kernel_rfl) (by kernel_rfl) (fun _ _ _ h => h) (Or.inl ⟨by rfl, ?_⟩) hC ?_
          rotate_left
          · (intro w hSw; (try dsimp only at hSw); go_simp; first | done | with_reducible rfl)
          simp only [Act.put]
          refine Late.take (i := 6) (oi := _) (v := ?_) rfl (by kernel_rfl) (by kernel_rfl) (by kernel_rfl) (by kernel_rfl) (fun _ _ _ h => h) (Or.inl ⟨by rfl, ?_⟩) hC ?_
          rotate_left
          · (intro w hSw; (try dsimp only at hSw); go_simp; first | done | with_reducible rfl)
          simp only [Act.put]
          refine late_world (fun X2 => Hid (Ex w X2) ∧ Hid (Has X2 w.heap.size 24 #[.int .i64 0, .slice none 0 0]) ∧ Hid (Has X2 (w2.heap.size + 1) 24 #[.int .i64 1, .slice A (p - 1) cc]) ∧ Hid (GrowI X2 w.heap.size (.slice A (p - 1) cc) (p - 1) ((List.range (p - 1)).map (laV M U X)))) ⟨Lib.hid HE.out.drew, HR, HB, Lib.hid (HG.out.ex (Ex.refl _).drew)⟩ (fun X2 hF => ?_)
          clear hC HE HR HB HG c1
          obtain ⟨HE, HR, HB, HG⟩ := hF
          refine Late.one (i := 7) (o := _) (by kernel_rfl) rfl (fun K' hK' => ?_)
          go_simp
          have e1 := HE.out.alloc (.cells #[.int .i64 (z : Int)] 2)
          have HR1 := HR.out.alloc (.cells #[.int .i64 (z : Int)] 2)
          have HB1 := HB.out.alloc (.cells #[.int .i64 (z : Int)] 2)
          have g1 := HG.out.ex (Ex.new X2 (.cells #[.int .i64 (z : Int)] 2))
          have hn1 := cell_one_new X2 (.int .i64 (z : Int)) 2
          have hz1 : X2.heap.size + 1 = (X2.alloc (.cells #[.int .i64 (z : Int)] 2)).heap.size := by simp
          have hx1 := Ex.new X2 (.cells #[.int .i64 (z : Int)] 2)
          refine hK'.out _ _ (fun _ => HB1.cell 1) (fun _ => ?_)
          clear hK' K'
          generalize X2.alloc (.cells #[.int .i64 (z : Int)] 2) = w1 at *
          try simp only [Act.put, List.setIfInBounds_toArray, List.set_cons_zero, List.set_cons_succ]
          refine Late.one (i := 8) (o := _) (by kernel_rfl) rfl (fun K' hK' => ?_)
          rw [if_pos (by rfl)]
          refine wp_append_own _ _ _ 22 rfl w.heap.size 2 i0 (.int .i64 0) 1 8 Tryd.underlying22 hi hi0 hi1 hi2 rfl (by decide) _ _ _ rfl g1.1 ⟨X2.heap.size, 0, none⟩ 1 1 [.int .i64 (z : Int)] rfl rfl hn1 (by simp [Value.oneCell']) (by unfold maxLen; omega) (by omega) (by have := e1.size; omega) ?_
          intro v' w3 hown3 hgrow3 _
          obtain ⟨g3, cap3, rfl⟩ := ownsRow_succ hown3
          have HE3 := Lib.hid (Ex.grew e1 g1 (Nat.le_refl _) hgrow3)
          have HR3 := Lib.hid (Has.grew HR1 (by decide) g1 hgrow3)
          have HB3 := Lib.hid (Has.grew HB1 (by decide) g1 hgrow3)
          have HG3 := Lib.hid (g1.snoc hown3)
          have c33 := HB3.out.cell 1
          have f33 := HB3.out.free 1
          refine hK'.out _ _ (fun _ => HB3.out.cell 1) (fun _ => ?_)
          clear hK' K' hown3 hgrow3 g1 e1 hn1 hx1 HR1 HB1
          try simp only [Act.put]
          refine Late.one (i := 9) (o := _) (by kernel_rfl) rfl (fun K' hK' => ?_)
          go_simp
          refine hK'.out _ _ (fun h => by cases h) (fun _ => ?_)
          clear hK' K'
          try simp only [Act.put, List.setIfInBounds_toArray, List.set_cons_zero, List.set_cons_succ]
          refine Late.one (i := 10) (o := _) (by kernel_rfl) rfl (fun K' hK' => ?_)
          go_simp
          refine hK'.out _ _ (fun h => by cases h) (fun _ => ?_)
          clear hK' K'
          try simp only [Act.put, List.setIfInBounds_toArray, List.set_cons_zero, List.set_cons_succ]
          refine Late.done (by kernel_rfl) ?_ _
          go_wp2_with fail
          refine ⟨?rel, ?measure⟩
          case rel =>
            refine ⟨p + 1, _, by omega, by omega, by rw [HN1.out, HST.out], by go_num, Lib.hid (HE3.out.setCell (p := ⟨w2.heap.size + 1, 1, none⟩) (by show w.heap.size ≤ w2.heap.size + 1; omega) _), Lib.hid (HR3.out.far (p := ⟨w2.heap.size + 1, 1, none⟩) (by show w.heap.size ≠ w2.heap.size + 1; omega) _), Lib.hid (HB3.out.put 1 _), Lib.hid ?_⟩
            have hpe : p - 1 + 1 = p := by omega
            have hr := range_snoc (laV M U X) (p - 1)
            rw [hpe, HV.out] at hr
            have hg3 := HG3.out
            rw [hpe, ← hr] at hg3
            rw [show p + 1 - 1 = p by omega]
            exact hg3.set HB3.out (by decide) _ _
          case measure => simp [intOf]; omega
        · obtain rfl : p = N := by omega
          have hcc : cellsN p 1 = p - 1 := by unfold cellsN; rw [Nat.pow_one]
          rw [hcc] at HQ
          have hln : ((List.range (p - 1)).map (laV M U X)).length = p - 1 := by simp
          have HLN := Lib.hid hln
          obtain ⟨xs, hxs⟩ : ∃ xs, (List.range (p - 1)).map (laV M U X) = xs := ⟨_, rfl⟩
          rw [hxs] at HG HQ HLN
          obtain ⟨cn, hcn⟩ : ∃ cn, p - 1 = cn := ⟨_, rfl⟩
          rw [hcn] at HG HB HLN
          have k0 := HB.out.cell 0
          have k1 := HB.out.cell 1
          have d0 := HR.out.cell 0
          have d1 := HR.out.cell 1
          have f0 := HR.out.free 0
          have f1 := HR.out.free 1
          have hl := HR.out.lt
          clear hln hxs hcn hcc
          go_wp2_with fail
          have H4 := HR.out.put2 (u := .int .i64 1) (v := .slice A cn cc)
          have g0 := H4.cell 0
          have g1 := H4.cell 1
          have hg := (HG.out.set HR.out (by decide) 0 (.int .i64 1)).set (HR.out.put 0 (.int .i64 1)) (by decide) 1 (.slice A cn cc)
          obtain ⟨A2, c2, he2, ho2⟩ := hg.own
          rw [HLN.out] at he2
          cases he2
          refine bodyPost_ret (v := .tuple #[.agg #[.int .i64 1, .slice A cn cc], .int .i64 0]) (by simp [results, Tryd.results11, go_sem, g0, g1]) rfl ⟨A, cc, by rw [HQ.out.1, HQ.out.2.1, HQ.out.2.2, HLN.out], ?_, ?_⟩
          · exact (HE.out.setCell (Nat.le_refl _) _).setCell (Nat.le_refl _) _
          · rw [HQ.out.2.1]
            exact ho2
    · have HQ := Lib.hid (hoff hz)
      have hzi : ¬ ((v : Int) * (X : Int) % (M : Int)) = 0 := by rw [← Int.natCast_mul, ← Int.natCast_emod]; omega
      clear hc hoff hon hv hz
      go_enter Tryd.func11, Tryd.ntmps11
      go_wp2_with fail
      generalize (w.alloc (.cells #[.int .i64 0, .slice none 0 0] 24)) = W0 at *
      refine HC.out.mono ?_
      rintro e w1 ⟨rfl, rfl⟩
      go_wp2_with fail
      refine (HNO.out _).mono ?_
      rintro e w2 ⟨rfl, rfl⟩
      go_wp2_with fail
      have H4 := HB0.out.put2 (u := .int .i64 0) (v := .slice none 0 0)
      have g0 := H4.cell 0
      have g1 := H4.cell 1
      refine bodyPost_ret (v := .tuple #[.agg #[.int .i64 0, .slice none 0 0], .int .i64 5]) (by simp [results, Tryd.results11, go_sem, g0, g1]) rfl ⟨none, 0, by rw [HQ.out.1, HQ.out.2.1, HQ.out.2.2]; rfl, ?_, ?_⟩
      · exact (HE.out.setCell (Nat.le_refl _) _).setCell (Nat.le_refl _) _
      · rw [HQ.out.2.1]
        exact OwnL.nil _ _ _ (Nat.le_refl _)

end Go.Proofs.YtfnjpbjlikajbaaDoor
