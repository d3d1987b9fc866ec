/- LadderOf: the model and the program's contract. -/
import Derived.Deep.DeepCutAuto
import Derived.Test.YtfnjpbjlikajbaaDoorJq
namespace Go.Proofs.YtfnjpbjlikajbaaDoor
open Go.RowKit Go.Shelf

attribute [local go_sem] Oper.semAt_some

/-- The value of a ladder at the list number k. -/
def laV (M U X k : Nat) : Int := ((X * hrn M U (k + 1) % M : Nat) : Int)
/-- May there be a ladder? -/
def okL (n m u x : Int) : Bool := okW n m u x && (hrn m.toNat u.toNat n.toNat * x.toNat % m.toNat == 0)
def qLadderOf0 (n m u x : Int) : Int := if okL n m u x = true then 1 else 0
def yLadderOf0 (n m u x : Int) : List Int := if okL n m u x = true then (List.range (cellsN n.toNat 1)).map (laV m.toNat u.toNat x.toNat) else []
def qLadderOf1 (n m u x : Int) : Int := if okW n m u x = true then (if hrn m.toNat u.toNat n.toNat * x.toNat % m.toNat = 0 then 0 else 5) else 2
theorem ladderOf_small0 (n m u x : Int) : (yLadderOf0 n m u x).length ≤ 1048576 := by
  unfold yLadderOf0
  split
  · rename_i h
    simp only [okL, Bool.and_eq_true] at h
    obtain ⟨-, h8, -⟩ := okW_iff.1 h.1
    have := cellsN_le (N := n.toNat) (j := 1) (by omega) (by omega)
    simp
    omega
  · simp
theorem ladder_no {n m u x : Int} (h : okW n m u x = false) : qLadderOf0 n m u x = 0 ∧ yLadderOf0 n m u x = [] ∧ qLadderOf1 n m u x = 2 := by
  simp [qLadderOf0, yLadderOf0, qLadderOf1, okL, h]
theorem ladder_off {N M U X : Nat} (h : okW (N : Int) (M : Int) (U : Int) (X : Int) = true) (h2 : ¬ hrn M U N * X % M = 0) : qLadderOf0 (N : Int) (M : Int) (U : Int) (X : Int) = 0 ∧ yLadderOf0 (N : Int) (M : Int) (U : Int) (X : Int) = [] ∧ qLadderOf1 (N : Int) (M : Int) (U : Int) (X : Int) = 5 := by
  simp [qLadderOf0, yLadderOf0, qLadderOf1, okL, h, h2]
theorem ladder_on {N M U X : Nat} (h : okW (N : Int) (M : Int) (U : Int) (X : Int) = true) (h2 : hrn M U N * X % M = 0) : qLadderOf0 (N : Int) (M : Int) (U : Int) (X : Int) = 1 ∧ yLadderOf0 (N : Int) (M : Int) (U : Int) (X : Int) = (List.range (cellsN N 1)).map (laV M U X) ∧ qLadderOf1 (N : Int) (M : Int) (U : Int) (X : Int) = 0 := by
  simp [qLadderOf0, yLadderOf0, qLadderOf1, okL, h, h2]
theorem dN_one {N k : Nat} (h : k < N - 1) : dN N 1 k 0 = k + 1 := by
  unfold dN
  rw [show 1 - 1 - 0 = 0 by omega, Nat.pow_zero, Nat.div_one, Nat.mod_eq_of_lt h]
theorem ints1_at {N k : Nat} {B : Option Addr} {w : World} (h : IntsW w B (lsL N 1 k)) : ∃ b o, B = some ⟨b, o, none⟩ ∧ b < w.heap.size ∧ w.cell? ⟨b, o, none⟩ = some (.int .i64 (dN N 1 k 0 : Int)) := by
  obtain ⟨b, o, e, hb, h0⟩ := h.ints.at_ (j := 0) (by rw [lsL_len]; omega)
  exact ⟨b, o, e, hb, h0⟩

set_option maxRecDepth 100000 in
set_option maxHeartbeats 2000000 in
theorem ladder1_any (N M U X Bx Bc Bm k e : Nat) (B : Option Addr) (w : World) (hX : Has w Bx 2 #[.int .i64 (X : Int)]) (hC : Has w Bc 44 #[.int .i64 (N : Int), .int .i64 (M : Int), .int .i64 (U : Int)]) (hM : Has w Bm 2 #[.int .i64 (M : Int)])
    (hN8 : N ≤ 8) (hm1 : 2 ≤ M) (hm2 : M ≤ 12) (hu : U < M) (hx : X < M) (hk : k < N - 1) (hL : IntsW w B (lsL N 1 k)) :
    Calls Tryd.prog 30 #[.slice B (lsL N 1 k).length e, .pointer (some ⟨Bx, 0, none⟩), .pointer (some ⟨Bc, 0, none⟩), .pointer (some ⟨Bm, 0, none⟩)] w fun e w' => e = .returned (.int .i64 (laV M U X k)) ∧ Ex w w' := by
  obtain ⟨b, o, rfl, hb, h0⟩ := ints1_at hL
  rw [lsL_len]
  rw [dN_one hk] at h0
  have hh := hrn_lt U (show 0 < M by omega) (k + 1)
  have HSU := Lib.hid (fun W => sumOfPowers_any (N : Int) M U (k + 1) W hm1 (by omega) (by omega) (by omega))
  have HV : Hid (laV M U X k = ((X * hrn M U (k + 1) % M : Nat) : Int)) := Lib.hid rfl
  obtain ⟨h, hh'⟩ : ∃ h, hrn M U (k + 1) = h := ⟨_, rfl⟩
  rw [hh'] at HSU HV hh
  obtain ⟨K, hK⟩ : ∃ K, k + 1 = K := ⟨_, rfl⟩
  rw [hK] at HSU h0
  have hpl : X * h ≤ 40000 := mul_200 (by omega) (by omega)
  have hmul : IntKind.i64.wrap ((X : Int) * (h : Int)) = ((X * h : Nat) : Int) := by rw [← Int.natCast_mul]; exact IntWalk.i64_in _ (by omega)
  have hmod := tmod_nat (X * h) M
  have hne : ¬ M = 0 := by omega
  obtain ⟨y, hy⟩ : ∃ y, X * h = y := ⟨_, rfl⟩
  rw [hy] at hmul hmod HV hpl
  have HSK := Lib.hid (fun (W' : World) (hb2 : Ex w.drew W') => And.intro ((Has.ex (w := w.drew) hX hb2).cell 0) (And.intro ((Has.ex (w := w.drew) hC hb2).cell 0) (And.intro ((Has.ex (w := w.drew) hC hb2).cell 1) (And.intro ((Has.ex (w := w.drew) hC hb2).cell 2) (And.intro ((Has.ex (w := w.drew) hM hb2).cell 0) ((hb2.below.cell (p := ⟨b, o, none⟩) hb).trans h0))))))
  clear hL hX hC hM hh' hK hy hh
  go_enter Tryd.func30, Tryd.ntmps30
  go_wp2_with fail
  refine wp_region_quiet (C := fun w' => Ex w.drew w') (by kernel_rfl) (by kernel_rfl) (Ex.refl _) ?_
  refine BigFrame.wpQuiet_want (by rfl) fun K hK => ⟨?_, fun w' hC => ?_, hK _ ?_⟩
  rotate_left
  · (obtain ⟨q0, q1, q2, q3, q4, q5⟩ := HSK.out _ hC; go_simp; first | done | with_reducible rfl | exact ⟨rfl, hC⟩)
  clear hK K
  simp only [Act.put, List.setIfInBounds_toArray, List.set_cons_zero, List.set_cons_succ]
  refine BigFrame.wpQuiet_want (by rfl) fun K hK => ⟨?_, fun w' hC => ?_, hK _ ?_⟩
  rotate_left
  · (obtain ⟨q0, q1, q2, q3, q4, q5⟩ := HSK.out _ hC; go_simp; first | done | with_reducible rfl | exact ⟨rfl, hC⟩)
  clear hK K
  simp only [Act.put, List.setIfInBounds_toArray, List.set_cons_zero, List.set_cons_succ]
  refine BigFrame.wpQuiet_want (by rfl) fun K hK => ⟨?_, fun w' hC => ?_, hK _ ?_⟩
  rotate_left
  · (obtain ⟨q0, q1, q2, q3, q4, q5⟩ := HSK.out _ hC; go_simp; first | done | with_reducible rfl | exact ⟨rfl, hC⟩)
  clear hK K
  simp only [Act.put, List.setIfInBounds_toArray, List.set_cons_zero, List.set_cons_succ]
  refine BigFrame.wpQuiet_want (by rfl) fun K hK => ⟨?_, fun w' hC => ?_, hK _ ?_⟩
  rotate_left
  · (obtain ⟨q0, q1, q2, q3, q4, q5⟩ := HSK.out _ hC; go_simp; first | done | with_reducible rfl | exact ⟨rfl, hC⟩)
  clear hK K
  simp only [Act.put, List.setIfInBounds_toArray, List.set_cons_zero, List.set_cons_succ]
  refine BigFrame.wpQuiet_want (by rfl) fun K hK => ⟨?_, fun w' hC => ?_, hK _ ?_⟩
  rotate_left
  · (obtain ⟨q0, q1, q2, q3, q4, q5⟩ := HSK.out _ hC; go_simp; first | done | with_reducible rfl | exact ⟨rfl, hC⟩)
  clear hK K
  simp only [Act.put, List.setIfInBounds_toArray, List.set_cons_zero, List.set_cons_succ]
  refine BigFrame.wpQuiet_want (by rfl) fun K hK => ⟨.int .i64 (h : Int), fun w' hC => (by go_simp; refine ((HSU.out w')).mono ?_; rintro e w2 ⟨rfl, hb⟩; exact ⟨rfl, hC.trans hb⟩), hK _ ?_⟩
  clear hK K
  simp only [Act.put, List.setIfInBounds_toArray, List.set_cons_zero, List.set_cons_succ]
  refine BigFrame.wpQuiet_want (by rfl) fun K hK => ⟨?_, fun w' hC => ?_, hK _ ?_⟩
  rotate_left
  · (obtain ⟨q0, q1, q2, q3, q4, q5⟩ := HSK.out _ hC; go_simp; first | done | with_reducible rfl | exact ⟨rfl, hC⟩)
  clear hK K
  simp only [Act.put, List.setIfInBounds_toArray, List.set_cons_zero, List.set_cons_succ]
  refine BigFrame.wpQuiet_want (by rfl) fun K hK => ⟨?_, fun w' hC => ?_, hK _ ?_⟩
  rotate_left
  · (obtain ⟨q0, q1, q2, q3, q4, q5⟩ := HSK.out _ hC; go_simp; first | done | with_reducible rfl | exact ⟨rfl, hC⟩)
  clear hK K
  simp only [Act.put, List.setIfInBounds_toArray, List.set_cons_zero, List.set_cons_succ]
  refine BigFrame.wpQuiet_want (by rfl) fun K hK => ⟨?_, fun w' hC => ?_, hK _ ?_⟩
  rotate_left
  · (obtain ⟨q0, q1, q2, q3, q4, q5⟩ := HSK.out _ hC; go_simp; first | done | with_reducible rfl | exact ⟨rfl, hC⟩)
  clear hK K
  simp only [Act.put, List.setIfInBounds_toArray, List.set_cons_zero, List.set_cons_succ]
  refine BigFrame.wpQuiet_want (by rfl) fun K hK => ⟨?_, fun w' hC => ?_, hK _ ?_⟩
  rotate_left
  · (obtain ⟨q0, q1, q2, q3, q4, q5⟩ := HSK.out _ hC; go_simp; first | done | with_reducible rfl | exact ⟨rfl, hC⟩)
  clear hK K
  simp only [Act.put, List.setIfInBounds_toArray, List.set_cons_zero, List.set_cons_succ]
  refine wpQuiet_nil ?_
  intro w2 hC2
  have HC2 := Lib.hid hC2
  clear hC2
  go_wp2_with fail
  go_ret
  exact ⟨by rw [HV.out]; rfl, (Ex.refl w).drew.trans HC2.out⟩

set_option maxRecDepth 100000 in
set_option maxHeartbeats 4000000 in
theorem implLadderOf_ex (m0 m1 m2 m3 : Int) : ∀ (W : World), Calls Tryd.prog 12 #[.int .i64 m0, .int .i64 m1, .int .i64 m2, .int .i64 m3] W fun e W' => ∃ (C0 : Option Addr) (e0 : Nat), e = .returned (.tuple #[.agg #[.int .i64 (qLadderOf0 m0 m1 m2 m3), .slice C0 (yLadderOf0 m0 m1 m2 m3).length e0], .int .i64 (qLadderOf1 m0 m1 m2 m3)]) ∧ Ex W W' ∧ OwnL W' W.heap.size W'.heap.size C0 (yLadderOf0 m0 m1 m2 m3) := by
  intro w
  have e0 : Ex w (((w.alloc (.cells #[.int .i64 m1] 2)).alloc (.cells #[.int .i64 m3] 2)).alloc (.cells #[.int .i64 0, .slice none 0 0] 24)) := (((Ex.refl w).alloc _).alloc _).alloc _
  have b0 : Has (((w.alloc (.cells #[.int .i64 m1] 2)).alloc (.cells #[.int .i64 m3] 2)).alloc (.cells #[.int .i64 0, .slice none 0 0] 24)) (w.heap.size) 2 #[.int .i64 m1] := (((Has.newAt (w := w) (e := 2) (cs := #[.int .i64 m1]) (k := w.heap.size) (by simp)).alloc _).alloc _)
  have b1 : Has (((w.alloc (.cells #[.int .i64 m1] 2)).alloc (.cells #[.int .i64 m3] 2)).alloc (.cells #[.int .i64 0, .slice none 0 0] 24)) (w.heap.size + 1) 2 #[.int .i64 m3] := ((Has.newAt (w := (w.alloc (.cells #[.int .i64 m1] 2))) (e := 2) (cs := #[.int .i64 m3]) (k := w.heap.size + 1) (by simp)).alloc _)
  have b2 : Has (((w.alloc (.cells #[.int .i64 m1] 2)).alloc (.cells #[.int .i64 m3] 2)).alloc (.cells #[.int .i64 0, .slice none 0 0] 24)) (w.heap.size + 1 + 1) 24 #[.int .i64 0, .slice none 0 0] := (Has.newAt (w := ((w.alloc (.cells #[.int .i64 m1] 2)).alloc (.cells #[.int .i64 m3] 2))) (e := 24) (cs := #[.int .i64 0, .slice none 0 0]) (k := w.heap.size + 1 + 1) (by simp))
  have HB0 := Lib.hid b0
  have HB1 := Lib.hid b1
  have HB2 := Lib.hid b2
  have HE := Lib.hid e0
  have c0 := b0.cell 0
  have c1 := b1.cell 0
  clear b0 b1 b2 e0
  cases hc : okW m0 m1 m2 m3 with
  | false =>
    have HQ := Lib.hid (ladder_no hc)
    have HC := Lib.hid (fun W => circleWith_no m0 m1 m2 m3 W hc)
    clear hc
    go_enter Tryd.func12, Tryd.ntmps12
    go_wp2_with fail
    generalize (((w.alloc (.cells #[.int .i64 m1] 2)).alloc (.cells #[.int .i64 m3] 2)).alloc (.cells #[.int .i64 0, .slice none 0 0] 24)) = W0 at *
    refine (HC.out W0).mono ?_
    rintro e w1 ⟨rfl, he1⟩
    have he2 := he1.alloc (.cells #[.int .i64 0, .int .i64 0, .int .i64 0] 44)
    have hb1 := HB2.out.ex he2
    have HB3 := Lib.hid hb1
    have d0 := hb1.cell 0
    have d1 := hb1.cell 1
    have f0 := hb1.free 0
    have f1 := hb1.free 1
    have hl := hb1.lt
    clear hb1 c0 c1
    go_wp2_with fail
    have H4 := HB3.out.put2 (u := .int .i64 0) (v := .slice none 0 0)
    have g0 := H4.cell 0
    have g1 := H4.cell 1
    refine bodyPost_ret (v := .tuple #[.agg #[.int .i64 0, .slice none 0 0], .int .i64 2]) (by simp [results, Tryd.results12, go_sem, g0, g1]) rfl ⟨none, 0, by rw [HQ.out.1, HQ.out.2.1, HQ.out.2.2]; rfl, ?_, ?_⟩
    · exact ((HE.out.trans he2).setCell (by show w.heap.size ≤ w.heap.size + 1 + 1; omega) _).setCell (by show w.heap.size ≤ w.heap.size + 1 + 1; omega) _
    · rw [HQ.out.2.1]
      refine OwnL.nil _ _ _ (Nat.le_refl _)
  | true =>
    have HC := Lib.hid (fun W => circleWith_yes m0 m1 m2 m3 W hc)
    obtain ⟨N, M, U, X, rfl, rfl, rfl, rfl, hn1, hn2, hm1, hm2, hu1, hu2, hxm⟩ := okW_nat hc
    have HNO := Lib.hid (fun W => norm_any N M U W hm1 (by omega) (by omega) (by omega))
    have hh := hrn_lt U (show 0 < M by omega) N
    have hoff := ladder_off hc
    have hon := ladder_on hc
    obtain ⟨v, hv⟩ : ∃ v, hrn M U N = v := ⟨_, rfl⟩
    rw [hv] at HNO hh hoff hon
    have hpl : v * X ≤ 40000 := mul_200 (by omega) (by omega)
    have hmul : IntKind.i64.wrap ((v : Int) * (X : Int)) = ((v * X : Nat) : Int) := by rw [← Int.natCast_mul]; exact IntWalk.i64_in _ (by omega)
    have hmod := tmod_nat (v * X) M
    have hne : ¬ M = 0 := by omega
    obtain ⟨y, hy⟩ : ∃ y, v * X = y := ⟨_, rfl⟩
    rw [hy] at hmul hmod hpl hoff hon
    by_cases hz : y % M = 0
    · have HQ := Lib.hid (hon hz)
      have hkl : ∀ k, k < cellsN N 1 → k < N - 1 := fun k hk => by simpa [cellsN] using hk
      have HCW := Lib.hid (fun (Bx Bc Bm : Nat) (W : World) (hX : Has W Bx 2 #[.int .i64 (X : Int)]) (hC : Has W Bc 44 #[.int .i64 (N : Int), .int .i64 (M : Int), .int .i64 (U : Int)]) (hM : Has W Bm 2 #[.int .i64 (M : Int)]) => circleCochain_any N 1 30 (M : Int) (U : Int) #[.pointer (some ⟨Bx, 0, none⟩), .pointer (some ⟨Bc, 0, none⟩), .pointer (some ⟨Bm, 0, none⟩)] (laV M U X) W hn2 hn1 (by omega) (enters_of Tryd.func30 (by kernel_rfl) rfl) (fun W' he k hk B e hL _ => ladder1_any N M U X Bx Bc Bm k e B W' (hX.ex he) (hC.ex he) (hM.ex he) hn2 hm1 hm2 hu2 hxm (hkl k hk) hL))
      have hmf : ∀ (fn : Fn) (first cap : Array Value) (w : World), (Instr.makeFunc fn first cap).run Tryd.prog w = .ok (.func fn first cap) w := fun _ _ _ _ => rfl
      rw [hz] at hmod
      obtain ⟨cn, hcn⟩ : ∃ cn, cellsN N 1 = cn := ⟨_, rfl⟩
      rw [hcn] at HCW HQ
      clear hc hoff hon hv hy hz hcn hkl hh
      go_enter Tryd.func12, Tryd.ntmps12
      go_wp2_with fail
      generalize (((w.alloc (.cells #[.int .i64 (M : Int)] 2)).alloc (.cells #[.int .i64 (X : Int)] 2)).alloc (.cells #[.int .i64 0, .slice none 0 0] 24)) = W0 at *
      refine (HC.out W0).mono ?_
      rintro e w1 ⟨rfl, he1⟩
      have he2 := he1.alloc (.cells #[.int .i64 (N : Int), .int .i64 (M : Int), .int .i64 (U : Int)] 44)
      have HX2 := Lib.hid he2
      have hn := Has.new w1 44 #[.int .i64 (N : Int), .int .i64 (M : Int), .int .i64 (U : Int)]
      have HN := Lib.hid hn
      clear hn he2 c0 c1
      go_wp2_with fail
      generalize w1.alloc (.cells #[.int .i64 (N : Int), .int .i64 (M : Int), .int .i64 (U : Int)] 44) = W1 at *
      have HSK := Lib.hid (fun (W' : World) (hb : Ex W1.drew W') => And.intro ((Has.ex (w := W1.drew) HN.out hb).cell 0) (And.intro ((Has.ex (w := W1.drew) HN.out hb).cell 1) (And.intro ((Has.ex (w := W1.drew) HN.out hb).cell 2) (And.intro ((Has.ex (w := W1.drew) (HB1.out.ex HX2.out.drew) hb).cell 0) ((Has.ex (w := W1.drew) (HB0.out.ex HX2.out.drew) hb).cell 0)))))
      refine wp_region_quiet (C := fun w' => Ex W1.drew w') (by kernel_rfl) (by kernel_rfl) (Ex.refl _) ?_
      refine BigFrame.wpQuiet_want (by rfl) fun K hK => ⟨?_, fun w' hC => ?_, hK _ ?_⟩
      rotate_left
      · (obtain ⟨q0, q1, q2, q3, q4⟩ := HSK.out _ hC; go_simp; first | done | with_reducible rfl | exact ⟨rfl, hC⟩)
      clear hK K
      simp only [Act.put, List.setIfInBounds_toArray, List.set_cons_zero, List.set_cons_succ]
      refine BigFrame.wpQuiet_want (by rfl) fun K hK => ⟨.int .i64 (v : Int), fun w' hC => (by go_simp; refine ((HNO.out w')).mono ?_; rintro e w2 ⟨rfl, hb⟩; exact ⟨rfl, hC.trans hb⟩), hK _ ?_⟩
      clear hK K
      simp only [Act.put, List.setIfInBounds_toArray, List.set_cons_zero, List.set_cons_succ]
      refine BigFrame.wpQuiet_want (by rfl) fun K hK => ⟨?_, fun w' hC => ?_, hK _ ?_⟩
      rotate_left
      · (obtain ⟨q0, q1, q2, q3, q4⟩ := HSK.out _ hC; go_simp; first | done | with_reducible rfl | exact ⟨rfl, hC⟩)
      clear hK K
      simp only [Act.put, List.setIfInBounds_toArray, List.set_cons_zero, List.set_cons_succ]
      refine BigFrame.wpQuiet_want (by rfl) fun K hK => ⟨?_, fun w' hC => ?_, hK _ ?_⟩
      rotate_left
      · (obtain ⟨q0, q1, q2, q3, q4⟩ := HSK.out _ hC; go_simp; first | done | with_reducible rfl | exact ⟨rfl, hC⟩)
      clear hK K
      simp only [Act.put, List.setIfInBounds_toArray, List.set_cons_zero, List.set_cons_succ]
      refine BigFrame.wpQuiet_want (by rfl) fun K hK => ⟨?_, fun w' hC => ?_, hK _ ?_⟩
      rotate_left
      · (obtain ⟨q0, q1, q2, q3, q4⟩ := HSK.out _ hC; go_simp; first | done | with_reducible rfl | exact ⟨rfl, hC⟩)
      clear hK K
      simp only [Act.put, List.setIfInBounds_toArray, List.set_cons_zero, List.set_cons_succ]
      refine BigFrame.wpQuiet_want (by rfl) fun K hK => ⟨?_, fun w' hC => ?_, hK _ ?_⟩
      rotate_left
      · (obtain ⟨q0, q1, q2, q3, q4⟩ := HSK.out _ hC; go_simp; first | done | with_reducible rfl | exact ⟨rfl, hC⟩)
      clear hK K
      simp only [Act.put, List.setIfInBounds_toArray, List.set_cons_zero, List.set_cons_succ]
      refine BigFrame.wpQuiet_want (by rfl) fun K hK => ⟨?_, fun w' hC => ?_, hK _ ?_⟩
      rotate_left
      · (obtain ⟨q0, q1, q2, q3, q4⟩ := HSK.out _ hC; go_simp; first | done | with_reducible rfl | exact ⟨rfl, hC⟩)
      clear hK K
      simp only [Act.put, List.setIfInBounds_toArray, List.set_cons_zero, List.set_cons_succ]
      refine wpQuiet_nil ?_
      intro w2 hC2
      have hx2 : Ex W0 w2 := HX2.out.trans ((Ex.refl W1).drew.trans hC2)
      have HXX := Lib.hid hx2
      have HN2 : Hid (Has w2 w1.heap.size _ _) := Lib.hid (Has.ex (w := W1.drew) HN.out hC2)
      have HB22 := Lib.hid (HB2.out.ex hx2)
      have k0 := HN2.out.cell 0
      have k1 := HN2.out.cell 1
      have k2 := HN2.out.cell 2
      clear hC2 hx2 HSK
      go_wp2_with fail
      refine (HCW.out (w.heap.size + 1) w1.heap.size w.heap.size w2 (HB1.out.ex HXX.out) HN2.out (HB0.out.ex HXX.out)).mono ?_
      rintro e w3 ⟨A, n, rfl, he3, ho3⟩
      have HO3 := Lib.hid ho3
      have hb3 := HB22.out.ex he3
      have HB3 := Lib.hid hb3
      have d0 := hb3.cell 0
      have d1 := hb3.cell 1
      have f0 := hb3.free 0
      have f1 := hb3.free 1
      have hl := hb3.lt
      have hl2 := HB22.out.lt
      have hzz := (HE.out.trans HXX.out).size
      clear hb3 ho3 k0 k1 k2
      go_wp2_with fail
      have H4 := HB3.out.put2 (u := .int .i64 1) (v := .slice A cn n)
      have g0 := H4.cell 0
      have g1 := H4.cell 1
      refine bodyPost_ret (v := .tuple #[.agg #[.int .i64 1, .slice A cn n], .int .i64 0]) (by simp [results, Tryd.results12, go_sem, g0, g1]) rfl ⟨A, n, by rw [HQ.out.1, HQ.out.2.1, HQ.out.2.2]; simp, ?_, ?_⟩
      · exact (((HE.out.trans HXX.out).trans he3).setCell (by show w.heap.size ≤ w.heap.size + 1 + 1; omega) _).setCell (by show w.heap.size ≤ w.heap.size + 1 + 1; omega) _
      · rw [HQ.out.2.1]
        refine ((HO3.out.above (Only.set _ (w.heap.size + 1 + 1) 0 (.int .i64 1)) (by omega)).above (Only.set _ (w.heap.size + 1 + 1) 1 (.slice A cn n)) (by omega)).mono hzz ?_ ?_ <;> simp
    · have HQ := Lib.hid (hoff hz)
      have hml := Nat.mod_lt y (show 0 < M by omega)
      obtain ⟨r, hr⟩ : ∃ r, y % M = r := ⟨_, rfl⟩
      rw [hr] at hmod hz hml
      have hrz : ((r : Int) != 0) = true := by simp; omega
      clear hc hoff hon hv hy hr hz hh
      go_enter Tryd.func12, Tryd.ntmps12
      go_wp2_with fail
      generalize (((w.alloc (.cells #[.int .i64 (M : Int)] 2)).alloc (.cells #[.int .i64 (X : Int)] 2)).alloc (.cells #[.int .i64 0, .slice none 0 0] 24)) = W0 at *
      refine (HC.out W0).mono ?_
      rintro e w1 ⟨rfl, he1⟩
      have he2 := he1.alloc (.cells #[.int .i64 (N : Int), .int .i64 (M : Int), .int .i64 (U : Int)] 44)
      have HX2 := Lib.hid he2
      have hn := Has.new w1 44 #[.int .i64 (N : Int), .int .i64 (M : Int), .int .i64 (U : Int)]
      have HN := Lib.hid hn
      clear hn he2 c0 c1
      go_wp2_with fail
      generalize w1.alloc (.cells #[.int .i64 (N : Int), .int .i64 (M : Int), .int .i64 (U : Int)] 44) = W1 at *
      have HSK := Lib.hid (fun (W' : World) (hb : Ex W1.drew W') => And.intro ((Has.ex (w := W1.drew) HN.out hb).cell 0) (And.intro ((Has.ex (w := W1.drew) HN.out hb).cell 1) (And.intro ((Has.ex (w := W1.drew) HN.out hb).cell 2) (And.intro ((Has.ex (w := W1.drew) (HB1.out.ex HX2.out.drew) hb).cell 0) ((Has.ex (w := W1.drew) (HB0.out.ex HX2.out.drew) hb).cell 0)))))
      refine wp_region_quiet (C := fun w' => Ex W1.drew w') (by kernel_rfl) (by kernel_rfl) (Ex.refl _) ?_
      refine BigFrame.wpQuiet_want (by rfl) fun K hK => ⟨?_, fun w' hC => ?_, hK _ ?_⟩
      rotate_left
      · (obtain ⟨q0, q1, q2, q3, q4⟩ := HSK.out _ hC; go_simp; first | done | with_reducible rfl | exact ⟨rfl, hC⟩)
      clear hK K
      simp only [Act.put, List.setIfInBounds_toArray, List.set_cons_zero, List.set_cons_succ]
      refine BigFrame.wpQuiet_want (by rfl) fun K hK => ⟨.int .i64 (v : Int), fun w' hC => (by go_simp; refine ((HNO.out w')).mono ?_; rintro e w2 ⟨rfl, hb⟩; exact ⟨rfl, hC.trans hb⟩), hK _ ?_⟩
      clear hK K
      simp only [Act.put, List.setIfInBounds_toArray, List.set_cons_zero, List.set_cons_succ]
      refine BigFrame.wpQuiet_want (by rfl) fun K hK => ⟨?_, fun w' hC => ?_, hK _ ?_⟩
      rotate_left
      · (obtain ⟨q0, q1, q2, q3, q4⟩ := HSK.out _ hC; go_simp; first | done | with_reducible rfl | exact ⟨rfl, hC⟩)
      clear hK K
      simp only [Act.put, List.setIfInBounds_toArray, List.set_cons_zero, List.set_cons_succ]
      refine BigFrame.wpQuiet_want (by rfl) fun K hK => ⟨?_, fun w' hC => ?_, hK _ ?_⟩
      rotate_left
      · (obtain ⟨q0, q1, q2, q3, q4⟩ := HSK.out _ hC; go_simp; first | done | with_reducible rfl | exact ⟨rfl, hC⟩)
      clear hK K
      simp only [Act.put, List.setIfInBounds_toArray, List.set_cons_zero, List.set_cons_succ]
      refine BigFrame.wpQuiet_want (by rfl) fun K hK => ⟨?_, fun w' hC => ?_, hK _ ?_⟩
      rotate_left
      · (obtain ⟨q0, q1, q2, q3, q4⟩ := HSK.out _ hC; go_simp; first | done | with_reducible rfl | exact ⟨rfl, hC⟩)
      clear hK K
      simp only [Act.put, List.setIfInBounds_toArray, List.set_cons_zero, List.set_cons_succ]
      refine BigFrame.wpQuiet_want (by rfl) fun K hK => ⟨?_, fun w' hC => ?_, hK _ ?_⟩
      rotate_left
      · (obtain ⟨q0, q1, q2, q3, q4⟩ := HSK.out _ hC; go_simp; first | done | with_reducible rfl | exact ⟨rfl, hC⟩)
      clear hK K
      simp only [Act.put, List.setIfInBounds_toArray, List.set_cons_zero, List.set_cons_succ]
      refine BigFrame.wpQuiet_want (by rfl) fun K hK => ⟨?_, fun w' hC => ?_, hK _ ?_⟩
      rotate_left
      · (obtain ⟨q0, q1, q2, q3, q4⟩ := HSK.out _ hC; go_simp; first | done | with_reducible rfl | exact ⟨rfl, hC⟩)
      clear hK K
      simp only [Act.put, List.setIfInBounds_toArray, List.set_cons_zero, List.set_cons_succ]
      refine wpQuiet_nil ?_
      intro w2 hC2
      have hx2 : Ex W0 w2 := HX2.out.trans ((Ex.refl W1).drew.trans hC2)
      have HXX := Lib.hid hx2
      have HN2 : Hid (Has w2 w1.heap.size _ _) := Lib.hid (Has.ex (w := W1.drew) HN.out hC2)
      have HB22 := Lib.hid (HB2.out.ex hx2)
      have d0 := HB22.out.cell 0
      have d1 := HB22.out.cell 1
      have f0 := HB22.out.free 0
      have f1 := HB22.out.free 1
      have hl := HB22.out.lt
      clear hC2 hx2 HSK
      go_wp2_with fail
      have H4 := HB22.out.put2 (u := .int .i64 0) (v := .slice none 0 0)
      have g0 := H4.cell 0
      have g1 := H4.cell 1
      refine bodyPost_ret (v := .tuple #[.agg #[.int .i64 0, .slice none 0 0], .int .i64 5]) (by simp [results, Tryd.results12, go_sem, g0, g1]) rfl ⟨none, 0, by rw [HQ.out.1, HQ.out.2.1, HQ.out.2.2]; rfl, ?_, ?_⟩
      · exact ((HE.out.trans HXX.out).setCell (by show w.heap.size ≤ w.heap.size + 1 + 1; omega) _).setCell (by show w.heap.size ≤ w.heap.size + 1 + 1; omega) _
      · rw [HQ.out.2.1]
        refine OwnL.nil _ _ _ (Nat.le_refl _)

end Go.Proofs.YtfnjpbjlikajbaaDoor
