/- WrapOf: the model and the program's contract. -/
import Derived.Deep.DeepCutAuto
import Derived.Test.YtfnjpbjlikajbaaDoorJo
import Derived.Test.YtfnjpbjlikajbaaDoorMvt
namespace Go.Proofs.YtfnjpbjlikajbaaDoor
open Go.RowKit Go.Shelf

attribute [local go_sem] Oper.semAt_some

/-- The value of a wrap at the list number k. -/
def wrV (N : Nat) (x : Int) (k : Nat) : Int := if dN N 2 k 0 + dN N 2 k 1 < N then 0 else x
/-- May there be a wrap? -/
def okR (n m u x : Int) : Bool := okW n m u x && (u * x % m == x)
def qWrapOf0 (n m u x : Int) : Int := if okR n m u x = true then 2 else 0
noncomputable def yWrapOf0 (n m u x : Int) : List Int := if okR n m u x = true then (List.range (cellsN n.toNat 2)).map (wrV n.toNat x) else []
def qWrapOf1 (n m u x : Int) : Int := if okW n m u x = true then (if u * x % m = x then 0 else 5) else 2
theorem wrapOf_small0 (n m u x : Int) : (yWrapOf0 n m u x).length ≤ 1048576 := by
  unfold yWrapOf0
  split
  · rename_i h
    simp only [okR, Bool.and_eq_true] at h
    obtain ⟨-, h8, -⟩ := okW_iff.1 h.1
    have := cellsN_le (N := n.toNat) (j := 2) (by omega) (by omega)
    simp
    omega
  · simp
theorem wrap_no {n m u x : Int} (h : okW n m u x = false) : qWrapOf0 n m u x = 0 ∧ yWrapOf0 n m u x = [] ∧ qWrapOf1 n m u x = 2 := by
  simp [qWrapOf0, yWrapOf0, qWrapOf1, okR, h]
theorem wrap_off {n m u x : Int} (h : okW n m u x = true) (h2 : ¬ u * x % m = x) : qWrapOf0 n m u x = 0 ∧ yWrapOf0 n m u x = [] ∧ qWrapOf1 n m u x = 5 := by
  simp [qWrapOf0, yWrapOf0, qWrapOf1, okR, h, h2]
theorem wrap_on {n m u x : Int} (h : okW n m u x = true) (h2 : u * x % m = x) : qWrapOf0 n m u x = 2 ∧ yWrapOf0 n m u x = (List.range (cellsN n.toNat 2)).map (wrV n.toNat x) ∧ qWrapOf1 n m u x = 0 := by
  simp [qWrapOf0, yWrapOf0, qWrapOf1, okR, h, h2]
/-- A circle for cochains in natural numbers. -/
theorem okW_nat {n m u x : Int} (h : okW n m u x = true) : ∃ N M U X : Nat, n = (N : Int) ∧ m = (M : Int) ∧ u = (U : Int) ∧ x = (X : Int) ∧ 1 ≤ N ∧ N ≤ 8 ∧ 2 ≤ M ∧ M ≤ 12 ∧ 1 ≤ U ∧ U < M ∧ X < M := by
  obtain ⟨hc, h8, h12, hx0, hx1⟩ := okW_iff.1 h
  obtain ⟨N, M, U, rfl, rfl, rfl, hn1, hn2, hm1, hm2, hu1, hu2, -, -⟩ := circ_of hc
  exact ⟨N, M, U, x.toNat, rfl, rfl, rfl, by omega, hn1, by omega, hm1, by omega, hu1, hu2, by omega⟩
theorem wrap_iff {M U X : Nat} (hU : 1 ≤ U) (hX : X < M) : (U - 1) * X % M = 0 ↔ U * X % M = X := by
  obtain ⟨V, rfl⟩ : ∃ V, U = V + 1 := ⟨U - 1, by omega⟩
  rw [Nat.add_sub_cancel, Nat.add_mul, Nat.one_mul]
  constructor
  · intro h
    rw [Nat.add_mod, h, Nat.zero_add, Nat.mod_mod, Nat.mod_eq_of_lt hX]
  · intro h
    have hd := Nat.div_add_mod (V * X + X) M
    rw [h] at hd
    have : V * X = M * ((V * X + X) / M) := by omega
    rw [this]
    exact Nat.mul_mod_right _ _

theorem ints2_at {N k : Nat} {B : Option Addr} {w : World} (h : IntsW w B (lsL N 2 k)) : ∃ b o, B = some ⟨b, o, none⟩ ∧ w.cell? ⟨b, o, none⟩ = some (.int .i64 (dN N 2 k 0 : Int)) ∧ w.cell? ⟨b, o + 1, none⟩ = some (.int .i64 (dN N 2 k 1 : Int)) := by
  obtain ⟨b, o, e, -, h0⟩ := h.ints.at_ (j := 0) (by rw [lsL_len]; omega)
  obtain ⟨b', o', e', -, h1⟩ := h.ints.at_ (j := 1) (by rw [lsL_len]; omega)
  rw [e] at e'
  cases e'
  exact ⟨b, o, e, h0, h1⟩

set_option maxRecDepth 100000 in
set_option maxHeartbeats 1000000 in
theorem wrap1_any (N Bn Bx k e : Nat) (x : Int) (B : Option Addr) (w : World) (hB : Has w Bn 2 #[.int .i64 (N : Int)]) (hX : Has w Bx 2 #[.int .i64 x]) (hN8 : N ≤ 8) (hN2 : 2 ≤ N) (hL : IntsW w B (lsL N 2 k)) :
    Calls Tryd.prog 24 #[.slice B (lsL N 2 k).length e, .pointer (some ⟨Bn, 0, none⟩), .pointer (some ⟨Bx, 0, none⟩)] w fun e w' => e = .returned (.int .i64 (wrV N x k)) ∧ Ex w w' := by
  obtain ⟨b, o, rfl, h0, h1⟩ := ints2_at hL
  rw [lsL_len]
  have c0 := hB.cell 0
  have cx := hX.cell 0
  have d0 := (dN_in (N := N) (n := 2) (i := k) (p := 0) hN2).2
  have d1 := (dN_in (N := N) (n := 2) (i := k) (p := 1) hN2).2
  have HV : Hid (wrV N x k = if dN N 2 k 0 + dN N 2 k 1 < N then 0 else x) := Lib.hid rfl
  obtain ⟨p, hp⟩ : ∃ p, dN N 2 k 0 = p := ⟨_, rfl⟩
  obtain ⟨q, hq⟩ : ∃ q, dN N 2 k 1 = q := ⟨_, rfl⟩
  rw [hp] at HV d0 h0
  rw [hq] at HV d1 h1
  have hw : IntKind.i64.wrap ((p : Int) + (q : Int)) = (p : Int) + (q : Int) := IntWalk.i64_in _ (by omega)
  by_cases hlt : p + q < N
  · have hd : decide ((p : Int) + (q : Int) < (N : Int)) = true := by simp; omega
    rw [if_pos hlt] at HV
    clear hL hB hX hp hq hlt
    go_enter Tryd.func24, Tryd.ntmps24
    go_wp2_with fail
    go_quiet (fail)
    go_wp2_with fail
    go_ret
    exact ⟨by rw [HV.out]; rfl, (Ex.refl _).drewN _⟩
  · have hd : decide ((p : Int) + (q : Int) < (N : Int)) = false := by simp; omega
    rw [if_neg hlt] at HV
    clear hL hB hX hp hq hlt
    go_enter Tryd.func24, Tryd.ntmps24
    go_wp2_with fail
    go_quiet (fail)
    go_wp2_with fail
    go_ret
    exact ⟨by rw [HV.out]; rfl, (Ex.refl _).drewN _⟩

set_option maxRecDepth 100000 in
set_option maxHeartbeats 4000000 in
theorem implWrapOf_ex (m0 m1 m2 m3 : Int) : ∀ (W : World), Calls Tryd.prog 7 #[.int .i64 m0, .int .i64 m1, .int .i64 m2, .int .i64 m3] W fun e W' => ∃ (C0 : Option Addr) (e0 : Nat), e = .returned (.tuple #[.agg #[.int .i64 (qWrapOf0 m0 m1 m2 m3), .slice C0 (yWrapOf0 m0 m1 m2 m3).length e0], .int .i64 (qWrapOf1 m0 m1 m2 m3)]) ∧ Ex W W' ∧ OwnL W' W.heap.size W'.heap.size C0 (yWrapOf0 m0 m1 m2 m3) := by
  intro w
  have e0 : Ex w (((w.alloc (.cells #[.int .i64 m0] 2)).alloc (.cells #[.int .i64 m3] 2)).alloc (.cells #[.int .i64 0, .slice none 0 0] 24)) := (((Ex.refl w).alloc _).alloc _).alloc _
  have b0 : Has (((w.alloc (.cells #[.int .i64 m0] 2)).alloc (.cells #[.int .i64 m3] 2)).alloc (.cells #[.int .i64 0, .slice none 0 0] 24)) (w.heap.size) 2 #[.int .i64 m0] := (((Has.newAt (w := w) (e := 2) (cs := #[.int .i64 m0]) (k := w.heap.size) (by simp)).alloc _).alloc _)
  have b1 : Has (((w.alloc (.cells #[.int .i64 m0] 2)).alloc (.cells #[.int .i64 m3] 2)).alloc (.cells #[.int .i64 0, .slice none 0 0] 24)) (w.heap.size + 1) 2 #[.int .i64 m3] := ((Has.newAt (w := (w.alloc (.cells #[.int .i64 m0] 2))) (e := 2) (cs := #[.int .i64 m3]) (k := w.heap.size + 1) (by simp)).alloc _)
  have b2 : Has (((w.alloc (.cells #[.int .i64 m0] 2)).alloc (.cells #[.int .i64 m3] 2)).alloc (.cells #[.int .i64 0, .slice none 0 0] 24)) (w.heap.size + 1 + 1) 24 #[.int .i64 0, .slice none 0 0] := (Has.newAt (w := ((w.alloc (.cells #[.int .i64 m0] 2)).alloc (.cells #[.int .i64 m3] 2))) (e := 24) (cs := #[.int .i64 0, .slice none 0 0]) (k := w.heap.size + 1 + 1) (by simp))
  have HB0 := Lib.hid b0
  have HB1 := Lib.hid b1
  have HB2 := Lib.hid b2
  have HE := Lib.hid e0
  have c0 := b0.cell 0
  have c1 := b1.cell 0
  clear b0 b1 b2 e0
  cases hc : okW m0 m1 m2 m3 with
  | false =>
    have HQ := Lib.hid (wrap_no hc)
    have HC := Lib.hid (fun W => circleWith_no m0 m1 m2 m3 W hc)
    clear hc
    go_enter Tryd.func7, Tryd.ntmps7
    go_wp2_with fail
    generalize (((w.alloc (.cells #[.int .i64 m0] 2)).alloc (.cells #[.int .i64 m3] 2)).alloc (.cells #[.int .i64 0, .slice none 0 0] 24)) = W0 at *
    refine (HC.out W0).mono ?_
    rintro e w1 ⟨rfl, he1⟩
    have he2 := he1.alloc (.cells #[.int .i64 0, .int .i64 0, .int .i64 0] 44)
    have hb1 := HB2.out.ex he2
    have HB3 := Lib.hid hb1
    have d0 := hb1.cell 0
    have d1 := hb1.cell 1
    have f0 := hb1.free 0
    have f1 := hb1.free 1
    have hl := hb1.lt
    clear hb1 c0 c1
    go_wp2_with fail
    have H4 := HB3.out.put2 (u := .int .i64 0) (v := .slice none 0 0)
    have g0 := H4.cell 0
    have g1 := H4.cell 1
    refine bodyPost_ret (v := .tuple #[.agg #[.int .i64 0, .slice none 0 0], .int .i64 2]) (by simp [results, Tryd.results7, go_sem, g0, g1]) rfl ⟨none, 0, by rw [HQ.out.1, HQ.out.2.1, HQ.out.2.2]; rfl, ?_, ?_⟩
    · exact ((HE.out.trans he2).setCell (by show w.heap.size ≤ w.heap.size + 1 + 1; omega) _).setCell (by show w.heap.size ≤ w.heap.size + 1 + 1; omega) _
    · rw [HQ.out.2.1]
      refine OwnL.nil _ _ _ (Nat.le_refl _)
  | true =>
    have HC := Lib.hid (fun W => circleWith_yes m0 m1 m2 m3 W hc)
    obtain ⟨N, M, U, X, rfl, rfl, rfl, rfl, hn1, hn2, hm1, hm2, hu1, hu2, hxm⟩ := okW_nat hc
    have HDI := Lib.hid (fun W => difference_any (N : Int) (M : Int) U W hu1 (by omega))
    have hpl : (U - 1) * X ≤ 40000 := mul_200 (by omega) (by omega)
    have hmul : IntKind.i64.wrap (((U - 1 : Nat) : Int) * (X : Int)) = (((U - 1) * X : Nat) : Int) := by rw [← Int.natCast_mul]; exact IntWalk.i64_in _ (by omega)
    have hmod := tmod_nat ((U - 1) * X) M
    have hne : ¬ M = 0 := by omega
    have hif := wrap_iff (M := M) hu1 hxm
    obtain ⟨v, hv⟩ : ∃ v, U - 1 = v := ⟨_, rfl⟩
    rw [hv] at HDI hmul hmod hif hpl
    obtain ⟨y, hy⟩ : ∃ y, v * X = y := ⟨_, rfl⟩
    rw [hy] at hmul hmod hif hpl
    by_cases hz : y % M = 0
    · have hux : (U : Int) * (X : Int) % (M : Int) = (X : Int) := by rw [← Int.natCast_mul, ← Int.natCast_emod, hif.1 hz]
      have HQ := Lib.hid (wrap_on hc hux)
      rw [Int.toNat_natCast] at HQ
      have hpos : ∀ k, k < cellsN N 2 → 2 ≤ N := fun k hk => by
        rcases Nat.eq_or_lt_of_le hn1 with h | h
        · subst h
          simp [cellsN] at hk
        · exact h
      have HCW := Lib.hid (fun (Bn Bx : Nat) (W : World) (hB : Has W Bn 2 #[.int .i64 (N : Int)]) (hX : Has W Bx 2 #[.int .i64 (X : Int)]) => circleCochain_any N 2 24 (M : Int) (U : Int) #[.pointer (some ⟨Bn, 0, none⟩), .pointer (some ⟨Bx, 0, none⟩)] (wrV N (X : Int)) W hn2 hn1 (by omega) (enters_of Tryd.func24 (by kernel_rfl) rfl) (fun W' he k hk B e hL _ => wrap1_any N Bn Bx k e (X : Int) B W' (hB.ex he) (hX.ex he) hn2 (hpos k hk) hL))
      have hmf : ∀ (fn : Fn) (first cap : Array Value) (w : World), (Instr.makeFunc fn first cap).run Tryd.prog w = .ok (.func fn first cap) w := fun _ _ _ _ => rfl
      rw [hz] at hmod
      obtain ⟨cn, hcn⟩ : ∃ cn, cellsN N 2 = cn := ⟨_, rfl⟩
      rw [hcn] at HCW HQ
      clear hc hif hux hv hy hz hcn hpos
      go_enter Tryd.func7, Tryd.ntmps7
      go_wp2_with fail
      generalize (((w.alloc (.cells #[.int .i64 (N : Int)] 2)).alloc (.cells #[.int .i64 (X : Int)] 2)).alloc (.cells #[.int .i64 0, .slice none 0 0] 24)) = W0 at *
      refine (HC.out W0).mono ?_
      rintro e w1 ⟨rfl, he1⟩
      have he2 := he1.alloc (.cells #[.int .i64 (N : Int), .int .i64 (M : Int), .int .i64 (U : Int)] 44)
      have HX2 := Lib.hid he2
      have hn := Has.new w1 44 #[.int .i64 (N : Int), .int .i64 (M : Int), .int .i64 (U : Int)]
      have HN := Lib.hid hn
      clear hn he2 c0 c1
      go_wp2_with fail
      generalize w1.alloc (.cells #[.int .i64 (N : Int), .int .i64 (M : Int), .int .i64 (U : Int)] 44) = W1 at *
      have HSK := Lib.hid (fun (W' : World) (hb : Ex W1.drew W') => And.intro ((Has.ex (w := W1.drew) HN.out hb).cell 0) (And.intro ((Has.ex (w := W1.drew) HN.out hb).cell 1) (And.intro ((Has.ex (w := W1.drew) HN.out hb).cell 2) ((Has.ex (w := W1.drew) (HB1.out.ex HX2.out.drew) hb).cell 0))))
      refine wp_region_quiet (C := fun w' => Ex W1.drew w') (by kernel_rfl) (by kernel_rfl) (Ex.refl _) ?_
      refine BigFrame.wpQuiet_want (by rfl) fun K hK => ⟨?_, fun w' hC => ?_, hK _ ?_⟩
      rotate_left
      · (obtain ⟨q0, q1, q2, q3⟩ := HSK.out _ hC; go_simp; first | done | with_reducible rfl | exact ⟨rfl, hC⟩)
      clear hK K
      simp only [Act.put, List.setIfInBounds_toArray, List.set_cons_zero, List.set_cons_succ]
      refine BigFrame.wpQuiet_want (by rfl) fun K hK => ⟨.int .i64 (v : Int), fun w' hC => (by go_simp; refine ((HDI.out w')).mono ?_; rintro e w2 ⟨rfl, hb⟩; exact ⟨rfl, hC.trans hb⟩), hK _ ?_⟩
      clear hK K
      simp only [Act.put, List.setIfInBounds_toArray, List.set_cons_zero, List.set_cons_succ]
      refine BigFrame.wpQuiet_want (by rfl) fun K hK => ⟨?_, fun w' hC => ?_, hK _ ?_⟩
      rotate_left
      · (obtain ⟨q0, q1, q2, q3⟩ := HSK.out _ hC; go_simp; first | done | with_reducible rfl | exact ⟨rfl, hC⟩)
      clear hK K
      simp only [Act.put, List.setIfInBounds_toArray, List.set_cons_zero, List.set_cons_succ]
      refine BigFrame.wpQuiet_want (by rfl) fun K hK => ⟨?_, fun w' hC => ?_, hK _ ?_⟩
      rotate_left
      · (obtain ⟨q0, q1, q2, q3⟩ := HSK.out _ hC; go_simp; first | done | with_reducible rfl | exact ⟨rfl, hC⟩)
      clear hK K
      simp only [Act.put, List.setIfInBounds_toArray, List.set_cons_zero, List.set_cons_succ]
      refine BigFrame.wpQuiet_want (by rfl) fun K hK => ⟨?_, fun w' hC => ?_, hK _ ?_⟩
      rotate_left
      · (obtain ⟨q0, q1, q2, q3⟩ := HSK.out _ hC; go_simp; first | done | with_reducible rfl | exact ⟨rfl, hC⟩)
      clear hK K
      simp only [Act.put, List.setIfInBounds_toArray, List.set_cons_zero, List.set_cons_succ]
      refine BigFrame.wpQuiet_want (by rfl) fun K hK => ⟨?_, fun w' hC => ?_, hK _ ?_⟩
      rotate_left
      · (obtain ⟨q0, q1, q2, q3⟩ := HSK.out _ hC; go_simp; first | done | with_reducible rfl | exact ⟨rfl, hC⟩)
      clear hK K
      simp only [Act.put, List.setIfInBounds_toArray, List.set_cons_zero, List.set_cons_succ]
      refine BigFrame.wpQuiet_want (by rfl) fun K hK => ⟨?_, fun w' hC => ?_, hK _ ?_⟩
      rotate_left
      · (obtain ⟨q0, q1, q2, q3⟩ := HSK.out _ hC; go_simp; first | done | with_reducible rfl | exact ⟨rfl, hC⟩)
      clear hK K
      simp only [Act.put, List.setIfInBounds_toArray, List.set_cons_zero, List.set_cons_succ]
      refine wpQuiet_nil ?_
      intro w2 hC2
      have hx2 : Ex W0 w2 := HX2.out.trans ((Ex.refl W1).drew.trans hC2)
      have HXX := Lib.hid hx2
      have HN2 : Hid (Has w2 w1.heap.size _ _) := Lib.hid (Has.ex (w := W1.drew) HN.out hC2)
      have HB22 := Lib.hid (HB2.out.ex hx2)
      have k0 := HN2.out.cell 0
      have k1 := HN2.out.cell 1
      have k2 := HN2.out.cell 2
      clear hC2 hx2 HSK
      go_wp2_with fail
      refine (HCW.out w.heap.size (w.heap.size + 1) w2 (HB0.out.ex HXX.out) (HB1.out.ex HXX.out)).mono ?_
      rintro e w3 ⟨A, n, rfl, he3, ho3⟩
      have HO3 := Lib.hid ho3
      have hb3 := HB22.out.ex he3
      have HB3 := Lib.hid hb3
      have d0 := hb3.cell 0
      have d1 := hb3.cell 1
      have f0 := hb3.free 0
      have f1 := hb3.free 1
      have hl := hb3.lt
      have hl2 := HB22.out.lt
      have hzz := (HE.out.trans HXX.out).size
      clear hb3 ho3 k0 k1 k2
      go_wp2_with fail
      have H4 := HB3.out.put2 (u := .int .i64 2) (v := .slice A cn n)
      have g0 := H4.cell 0
      have g1 := H4.cell 1
      refine bodyPost_ret (v := .tuple #[.agg #[.int .i64 2, .slice A cn n], .int .i64 0]) (by simp [results, Tryd.results7, go_sem, g0, g1]) rfl ⟨A, n, by rw [HQ.out.1, HQ.out.2.1, HQ.out.2.2]; simp, ?_, ?_⟩
      · exact (((HE.out.trans HXX.out).trans he3).setCell (by show w.heap.size ≤ w.heap.size + 1 + 1; omega) _).setCell (by show w.heap.size ≤ w.heap.size + 1 + 1; omega) _
      · rw [HQ.out.2.1]
        refine ((HO3.out.above (Only.set _ (w.heap.size + 1 + 1) 0 (.int .i64 2)) (by omega)).above (Only.set _ (w.heap.size + 1 + 1) 1 (.slice A cn n)) (by omega)).mono hzz ?_ ?_ <;> simp
    · have hux : ¬ (U : Int) * (X : Int) % (M : Int) = (X : Int) := by
        rw [← Int.natCast_mul, ← Int.natCast_emod]
        exact fun h => hz (hif.2 (Int.ofNat.inj h))
      have HQ := Lib.hid (wrap_off hc hux)
      have hml := Nat.mod_lt y (show 0 < M by omega)
      obtain ⟨r, hr⟩ : ∃ r, y % M = r := ⟨_, rfl⟩
      rw [hr] at hmod hz hml
      have hrz : ((r : Int) != 0) = true := by simp; omega
      clear hc hif hux hv hy hr hz
      go_enter Tryd.func7, Tryd.ntmps7
      go_wp2_with fail
      generalize (((w.alloc (.cells #[.int .i64 (N : Int)] 2)).alloc (.cells #[.int .i64 (X : Int)] 2)).alloc (.cells #[.int .i64 0, .slice none 0 0] 24)) = W0 at *
      refine (HC.out W0).mono ?_
      rintro e w1 ⟨rfl, he1⟩
      have he2 := he1.alloc (.cells #[.int .i64 (N : Int), .int .i64 (M : Int), .int .i64 (U : Int)] 44)
      have HX2 := Lib.hid he2
      have hn := Has.new w1 44 #[.int .i64 (N : Int), .int .i64 (M : Int), .int .i64 (U : Int)]
      have HN := Lib.hid hn
      clear hn he2 c0 c1
      go_wp2_with fail
      generalize w1.alloc (.cells #[.int .i64 (N : Int), .int .i64 (M : Int), .int .i64 (U : Int)] 44) = W1 at *
      have HSK := Lib.hid (fun (W' : World) (hb : Ex W1.drew W') => And.intro ((Has.ex (w := W1.drew) HN.out hb).cell 0) (And.intro ((Has.ex (w := W1.drew) HN.out hb).cell 1) (And.intro ((Has.ex (w := W1.drew) HN.out hb).cell 2) ((Has.ex (w := W1.drew) (HB1.out.ex HX2.out.drew) hb).cell 0))))
      refine wp_region_quiet (C := fun w' => Ex W1.drew w') (by kernel_rfl) (by kernel_rfl) (Ex.refl _) ?_
      refine BigFrame.wpQuiet_want (by rfl) fun K hK => ⟨?_, fun w' hC => ?_, hK _ ?_⟩
      rotate_left
      · (obtain ⟨q0, q1, q2, q3⟩ := HSK.out _ hC; go_simp; first | done | with_reducible rfl | exact ⟨rfl, hC⟩)
      clear hK K
      simp only [Act.put, List.setIfInBounds_toArray, List.set_cons_zero, List.set_cons_succ]
      refine BigFrame.wpQuiet_want (by rfl) fun K hK => ⟨.int .i64 (v : Int), fun w' hC => (by go_simp; refine ((HDI.out w')).mono ?_; rintro e w2 ⟨rfl, hb⟩; exact ⟨rfl, hC.trans hb⟩), hK _ ?_⟩
      clear hK K
      simp only [Act.put, List.setIfInBounds_toArray, List.set_cons_zero, List.set_cons_succ]
      refine BigFrame.wpQuiet_want (by rfl) fun K hK => ⟨?_, fun w' hC => ?_, hK _ ?_⟩
      rotate_left
      · (obtain ⟨q0, q1, q2, q3⟩ := HSK.out _ hC; go_simp; first | done | with_reducible rfl | exact ⟨rfl, hC⟩)
      clear hK K
      simp only [Act.put, List.setIfInBounds_toArray, List.set_cons_zero, List.set_cons_succ]
      refine BigFrame.wpQuiet_want (by rfl) fun K hK => ⟨?_, fun w' hC => ?_, hK _ ?_⟩
      rotate_left
      · (obtain ⟨q0, q1, q2, q3⟩ := HSK.out _ hC; go_simp; first | done | with_reducible rfl | exact ⟨rfl, hC⟩)
      clear hK K
      simp only [Act.put, List.setIfInBounds_toArray, List.set_cons_zero, List.set_cons_succ]
      refine BigFrame.wpQuiet_want (by rfl) fun K hK => ⟨?_, fun w' hC => ?_, hK _ ?_⟩
      rotate_left
      · (obtain ⟨q0, q1, q2, q3⟩ := HSK.out _ hC; go_simp; first | done | with_reducible rfl | exact ⟨rfl, hC⟩)
      clear hK K
      simp only [Act.put, List.setIfInBounds_toArray, List.set_cons_zero, List.set_cons_succ]
      refine BigFrame.wpQuiet_want (by rfl) fun K hK => ⟨?_, fun w' hC => ?_, hK _ ?_⟩
      rotate_left
      · (obtain ⟨q0, q1, q2, q3⟩ := HSK.out _ hC; go_simp; first | done | with_reducible rfl | exact ⟨rfl, hC⟩)
      clear hK K
      simp only [Act.put, List.setIfInBounds_toArray, List.set_cons_zero, List.set_cons_succ]
      refine BigFrame.wpQuiet_want (by rfl) fun K hK => ⟨?_, fun w' hC => ?_, hK _ ?_⟩
      rotate_left
      · (obtain ⟨q0, q1, q2, q3⟩ := HSK.out _ hC; go_simp; first | done | with_reducible rfl | exact ⟨rfl, hC⟩)
      clear hK K
      simp only [Act.put, List.setIfInBounds_toArray, List.set_cons_zero, List.set_cons_succ]
      refine wpQuiet_nil ?_
      intro w2 hC2
      have hx2 : Ex W0 w2 := HX2.out.trans ((Ex.refl W1).drew.trans hC2)
      have HXX := Lib.hid hx2
      have HN2 : Hid (Has w2 w1.heap.size _ _) := Lib.hid (Has.ex (w := W1.drew) HN.out hC2)
      have HB22 := Lib.hid (HB2.out.ex hx2)
      have d0 := HB22.out.cell 0
      have d1 := HB22.out.cell 1
      have f0 := HB22.out.free 0
      have f1 := HB22.out.free 1
      have hl := HB22.out.lt
      clear hC2 hx2 HSK
      go_wp2_with fail
      have H4 := HB22.out.put2 (u := .int .i64 0) (v := .slice none 0 0)
      have g0 := H4.cell 0
      have g1 := H4.cell 1
      refine bodyPost_ret (v := .tuple #[.agg #[.int .i64 0, .slice none 0 0], .int .i64 5]) (by simp [results, Tryd.results7, go_sem, g0, g1]) rfl ⟨none, 0, by rw [HQ.out.1, HQ.out.2.1, HQ.out.2.2]; rfl, ?_, ?_⟩
      · exact ((HE.out.trans HXX.out).setCell (by show w.heap.size ≤ w.heap.size + 1 + 1; omega) _).setCell (by show w.heap.size ≤ w.heap.size + 1 + 1; omega) _
      · rw [HQ.out.2.1]
        refine OwnL.nil _ _ _ (Nat.le_refl _)

end Go.Proofs.YtfnjpbjlikajbaaDoor
