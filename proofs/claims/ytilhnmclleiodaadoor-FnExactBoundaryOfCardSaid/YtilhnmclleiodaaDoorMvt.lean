/- Mv Tk in one text. -/
import Derived.IntWalk
import Derived.Test.YtilhnmclleiodaaDoorLst
import Derived.Test.YtilhnmclleiodaaDoorCel
import Derived.Test.YtilhnmclleiodaaDoorVal
/- MoveCochain: the program's closures. -/
namespace Go.Proofs.YtilhnmclleiodaaDoor
open Go.RowKit

theorem inR_belowL {N : Nat} {xs : List Int} (h : InR N xs) : belowB (N : Int) xs = true := by
  refine List.all_eq_true.2 fun x hx => ?_
  obtain ⟨j, hj, rfl⟩ := List.getElem_of_mem hx
  have h1 := h j hj
  rw [show nth xs j = xs[j] by simp [nth, hj]] at h1
  exact inB_of h1.1 (by omega)
theorem dN_in {N n i p : Nat} (h : 2 ≤ N) : 1 ≤ dN N n i p ∧ dN N n i p < N := by
  have := Nat.mod_lt (i / (N - 1) ^ (n - 1 - p)) (show N - 1 > 0 by omega)
  unfold dN
  omega
/-- The list with the number k, each element conjugated. -/
noncomputable def movL (t : List (List Int)) (d k b : Nat) : List Int := (List.range d).map fun j => (con t (dN t.length d k j) b : Int)
theorem movL_len (t : List (List Int)) (d k b : Nat) : (movL t d k b).length = d := by simp [movL]
theorem movL_in {t : List (List Int)} (hg : IsGrp t) {d k b : Nat} (hb : b < t.length) (hd : d = 0 ∨ 2 ≤ t.length) : InR t.length (movL t d k b) := fun i hi => by
  rw [movL_len] at hi
  have h := con_lt hg (dN_in (n := d) (i := k) (p := i) (show 2 ≤ t.length by omega)).2 hb
  have e : nth (movL t d k b) i = (con t (dN t.length d k i) b : Int) := by simp [nth, movL, hi]
  rw [e]
  omega
/-- The value there. -/
noncomputable def movV (t : List (List Int)) (M : Nat) (us fs : List Int) (d k b c : Nat) : Int := nth us c * valR t.length fs (movL t d k b) % (M : Int)

set_option maxHeartbeats 1000000 in
theorem mvc1_ex (Bg Bb : Nat) (A : Option Addr) (t : List (List Int)) (c x b : Nat) (w : World) (hG : Has w Bg 31 #[.slice A t.length c]) (hB : Has w Bb 2 #[.int .i64 (b : Int)]) (hR : RwsW w A t) (hg : IsGrp t) (hx : x < t.length) (hb : b < t.length) :
    Calls Tryd.prog 96 #[.int .i64 (x : Int), .pointer (some ⟨Bg, 0, none⟩), .pointer (some ⟨Bb, 0, none⟩)] w fun e w' => e = .returned (.int .i64 (con t x b : Int)) ∧ Ex w w' := by
  have HC := Lib.hid (conjugateOf_any A t c x b w hR hg hx hb)
  have c0 := hG.cell 0
  have c1 := hB.cell 0
  clear hG hB hR hg
  go_enter Tryd.func96, Tryd.ntmps96
  go_wp2_with fail
  refine HC.out.mono ?_
  rintro e' w' ⟨rfl, he⟩
  have HE := Lib.hid he
  clear he
  go_wp2_with fail
  go_ret
  exact ⟨rfl, HE.out⟩

set_option maxRecDepth 100000 in
set_option maxHeartbeats 2000000 in
theorem mvc_ex (Bg Bb Bm Bc Bf : Nat) (A U F L : Option Addr) (t : List (List Int)) (M d k b c : Nat) (us fs : List Int) (c0 c1 c2 c3 : Nat) (w : World)
    (hG : Has w Bg 31 #[.slice A t.length c0]) (hB : Has w Bb 2 #[.int .i64 (b : Int)]) (hM : Has w Bm 28 #[.int .i64 (M : Int), .slice U us.length c1]) (hC : Has w Bc 2 #[.int .i64 (c : Int)]) (hFc : Has w Bf 43 #[.int .i64 (d : Int), .slice F fs.length c2])
    (hR : RwsW w A t) (hU : IntsW w U us) (hF : IntsW w F fs) (hL : IntsW w L (lsL t.length d k)) (hm : ModF t M us) (hb : b < t.length) (hc : c < t.length) (hd : d ≤ 4) (hdN : d = 0 ∨ 2 ≤ t.length) (hfl : fs.length = cellsN t.length d) (hfr : InR M fs) :
    Calls Tryd.prog 95 #[.slice L (lsL t.length d k).length c3, .pointer (some ⟨Bg, 0, none⟩), .pointer (some ⟨Bb, 0, none⟩), .pointer (some ⟨Bm, 0, none⟩), .pointer (some ⟨Bc, 0, none⟩), .pointer (some ⟨Bf, 0, none⟩)] w fun e w' => e = .returned (.int .i64 (movV t M us fs d k b c)) ∧ Ex w w' := by
  have hmf : ∀ (fn : Fn) (first cap : Array Value) (w : World), (Instr.makeFunc fn first cap).run Tryd.prog w = .ok (.func fn first cap) w := fun _ _ _ _ => rfl
  have hgr := hm.g
  have hn8 := hgr.n8
  have hn1 := hgr.n1
  have hml := mappedList_any L (lsL t.length d k) c3 96 #[.pointer (some ⟨Bg, 0, none⟩), .pointer (some ⟨Bb, 0, none⟩)] (fun j => (con t (dN t.length d k j) b : Int)) w hL (by rw [lsL_len]; omega)
    (enters_of Tryd.func96 (by kernel_rfl) rfl)
    (fun W' he j hj => by
      rw [lsL_len] at hj
      rw [nth_lsL hj]
      exact mvc1_ex Bg Bb A t c0 _ b W' (hG.ex he) (hB.ex he) (hR.ex he) hgr (dN_in (by omega)).2 hb)
  rw [lsL_len] at hml ⊢
  have HML : Hid (Calls Tryd.prog 90 #[.slice L d c3, .func (.func 96) #[] #[.pointer (some ⟨Bg, 0, none⟩), .pointer (some ⟨Bb, 0, none⟩)]] w fun e w' => ∃ C0 e0, e = .returned (.slice C0 (movL t d k b).length e0) ∧ Ex w w' ∧ OwnL w' w.heap.size w'.heap.size C0 (movL t d k b)) := Lib.hid hml
  have HVA := Lib.hid (fun (X : Option Addr) (e : Nat) W (he : Ex w W) (hX : IntsW W X (movL t d k b)) => valueAt_yes A F X d t.length fs (movL t d k b) c0 c2 e W (hF.ex he) hX hn8 hn1 hd (movL_len t d k b) hfl (inR_belowL (movL_in hgr hb hdN)))
  have hvb : 0 ≤ valR t.length fs (movL t d k b) ∧ valR t.length fs (movL t d k b) < (M : Int) := by
    have hm2 := hm.m2
    unfold valR
    by_cases hz : (movL t d k b).any (fun x => x == 0) = true
    · rw [if_pos hz]
      omega
    · rw [if_neg hz]
      have hnz : ∀ j, j < (movL t d k b).length → nth (movL t d k b) j ≠ 0 := fun j hj h => hz (any_zero hj h)
      have hlt := cellF_lt (N := t.length) (xs := movL t d k b) (movL t d k b).length (fun j hj => by
        have h1 := movL_in hgr hb hdN (k := k) j hj
        have h2 := hnz j hj
        omega)
      refine hfr _ ?_
      rw [hfl]
      have e := movL_len t d k b
      rw [e] at hlt ⊢
      exact hlt
  have hub := hm.rng c (by rw [hm.len]; exact hc)
  have hm12 := hm.m12
  have hm2 := hm.m2
  obtain ⟨bu, ou, rfl, hbu, hcu⟩ := hU.ints.at_ (show c < us.length by rw [hm.len]; exact hc)
  have hcl : c < us.length := by rw [hm.len]; exact hc
  obtain ⟨v, hv⟩ : ∃ v, valR t.length fs (movL t d k b) = v := ⟨_, rfl⟩
  obtain ⟨u, hu⟩ : ∃ u, nth us c = u := ⟨_, rfl⟩
  have HR : Hid (movV t M us fs d k b c = u * v % (M : Int)) := Lib.hid (by rw [movV, hv, hu])
  rw [hv] at HVA hvb
  rw [hu] at hub hcu
  have huv0 : 0 ≤ u * v := Int.mul_nonneg hub.1 hvb.1
  have huv : u * v ≤ 144 := by
    have h1 : u * v ≤ 12 * v := Int.mul_le_mul_of_nonneg_right (by omega) hvb.1
    omega
  have hM0 : ¬ M = 0 := by omega
  have hwm : IntKind.i64.wrap (u * v) = u * v := IntWalk.i64_in _ (by omega)
  have HTM : Hid (Int.tmod (u * v) (M : Int) = u * v % (M : Int)) := Lib.hid (Int.tmod_eq_emod_of_nonneg huv0)
  have HCU := Lib.hid (fun W (he : Ex w W) => And.intro ((hG.ex he).cell 0) (And.intro ((hM.ex he).cell 0) (And.intro ((hM.ex he).cell 1) (And.intro ((hC.ex he).cell 0) (And.intro ((hFc.ex he).cell 0) (And.intro ((hFc.ex he).cell 1) ((he.below.cell (p := ⟨bu, ou + c, none⟩) hbu).trans hcu)))))))
  clear hml hG hB hM hC hFc hR hU hF hL hm hgr hfl hfr hcu hv hu hdN
  go_enter Tryd.func95, Tryd.ntmps95
  go_wp2_with fail
  refine HML.out.mono ?_
  rintro e' W1 ⟨X, e1, rfl, he1, ho1⟩
  have HE1 := Lib.hid he1
  have HX1 := Lib.hid ho1.ints
  clear he1 ho1 HML
  have HSK := Lib.hid (fun W' (he : Ex W1.drew W') => HCU.out W' (HE1.out.drew.trans he))
  go_wp2_with fail
  refine wp_region_quiet (C := fun w' => Ex W1.drew w') (by kernel_rfl) (by kernel_rfl) (Ex.refl _) ?_
  refine BigFrame.wpQuiet_want (by rfl) fun K hK => ⟨?_, fun w' hC => ?_, hK _ ?_⟩
  rotate_left
  · (obtain ⟨q0, q1, q2, q3, q4, q5, q6⟩ := HSK.out _ hC; go_simp; first | done | with_reducible rfl | exact ⟨rfl, hC⟩)
  clear hK K
  simp only [Act.put, List.setIfInBounds_toArray, List.set_cons_zero, List.set_cons_succ]
  refine BigFrame.wpQuiet_want (by rfl) fun K hK => ⟨?_, fun w' hC => ?_, hK _ ?_⟩
  rotate_left
  · (obtain ⟨q0, q1, q2, q3, q4, q5, q6⟩ := HSK.out _ hC; go_simp; first | done | with_reducible rfl | exact ⟨rfl, hC⟩)
  clear hK K
  simp only [Act.put, List.setIfInBounds_toArray, List.set_cons_zero, List.set_cons_succ]
  refine BigFrame.wpQuiet_want (by rfl) fun K hK => ⟨?_, fun w' hC => ?_, hK _ ?_⟩
  rotate_left
  · (obtain ⟨q0, q1, q2, q3, q4, q5, q6⟩ := HSK.out _ hC; go_simp; first | done | with_reducible rfl | exact ⟨rfl, hC⟩)
  clear hK K
  simp only [Act.put, List.setIfInBounds_toArray, List.set_cons_zero, List.set_cons_succ]
  refine BigFrame.wpQuiet_want (by rfl) fun K hK => ⟨?_, fun w' hC => ?_, hK _ ?_⟩
  rotate_left
  · (obtain ⟨q0, q1, q2, q3, q4, q5, q6⟩ := HSK.out _ hC; go_simp; first | done | with_reducible rfl | exact ⟨rfl, hC⟩)
  clear hK K
  simp only [Act.put, List.setIfInBounds_toArray, List.set_cons_zero, List.set_cons_succ]
  refine BigFrame.wpQuiet_want (by rfl) fun K hK => ⟨?_, fun w' hC => ?_, hK _ ?_⟩
  rotate_left
  · (obtain ⟨q0, q1, q2, q3, q4, q5, q6⟩ := HSK.out _ hC; go_simp; first | done | with_reducible rfl | exact ⟨rfl, hC⟩)
  clear hK K
  simp only [Act.put, List.setIfInBounds_toArray, List.set_cons_zero, List.set_cons_succ]
  refine BigFrame.wpQuiet_want (by rfl) fun K hK => ⟨?_, fun w' hC => ?_, hK _ ?_⟩
  rotate_left
  · (obtain ⟨q0, q1, q2, q3, q4, q5, q6⟩ := HSK.out _ hC; go_simp; first | done | with_reducible rfl | exact ⟨rfl, hC⟩)
  clear hK K
  simp only [Act.put, List.setIfInBounds_toArray, List.set_cons_zero, List.set_cons_succ]
  refine BigFrame.wpQuiet_want (by rfl) fun K hK => ⟨?_, fun w' hC => ?_, hK _ ?_⟩
  rotate_left
  · (obtain ⟨q0, q1, q2, q3, q4, q5, q6⟩ := HSK.out _ hC; go_simp; first | done | with_reducible rfl | exact ⟨rfl, hC⟩)
  clear hK K
  simp only [Act.put, List.setIfInBounds_toArray, List.set_cons_zero, List.set_cons_succ]
  refine BigFrame.wpQuiet_want (by rfl) fun K hK => ⟨?_, fun w' hC => ?_, hK _ ?_⟩
  rotate_left
  · (obtain ⟨q0, q1, q2, q3, q4, q5, q6⟩ := HSK.out _ hC; go_simp; first | done | with_reducible rfl | exact ⟨rfl, hC⟩)
  clear hK K
  simp only [Act.put, List.setIfInBounds_toArray, List.set_cons_zero, List.set_cons_succ]
  refine BigFrame.wpQuiet_want (by rfl) fun K hK => ⟨.int .i64 v, fun w' hC => (by go_simp; refine ((HVA.out X e1 w' (HE1.out.drew.trans hC) (HX1.out.ex ((Ex.refl W1).drew.trans hC)))).mono ?_; rintro e w2 ⟨rfl, hb⟩; exact ⟨rfl, hC.trans hb⟩), hK _ ?_⟩
  clear hK K
  simp only [Act.put, List.setIfInBounds_toArray, List.set_cons_zero, List.set_cons_succ]
  refine BigFrame.wpQuiet_want (by rfl) fun K hK => ⟨?_, fun w' hC => ?_, hK _ ?_⟩
  rotate_left
  · (obtain ⟨q0, q1, q2, q3, q4, q5, q6⟩ := HSK.out _ hC; go_simp; first | done | with_reducible rfl | exact ⟨rfl, hC⟩)
  clear hK K
  simp only [Act.put, List.setIfInBounds_toArray, List.set_cons_zero, List.set_cons_succ]
  refine BigFrame.wpQuiet_want (by rfl) fun K hK => ⟨?_, fun w' hC => ?_, hK _ ?_⟩
  rotate_left
  · (obtain ⟨q0, q1, q2, q3, q4, q5, q6⟩ := HSK.out _ hC; go_simp; first | done | with_reducible rfl | exact ⟨rfl, hC⟩)
  clear hK K
  simp only [Act.put, List.setIfInBounds_toArray, List.set_cons_zero, List.set_cons_succ]
  refine BigFrame.wpQuiet_want (by rfl) fun K hK => ⟨?_, fun w' hC => ?_, hK _ ?_⟩
  rotate_left
  · (obtain ⟨q0, q1, q2, q3, q4, q5, q6⟩ := HSK.out _ hC; go_simp; first | done | with_reducible rfl | exact ⟨rfl, hC⟩)
  clear hK K
  simp only [Act.put, List.setIfInBounds_toArray, List.set_cons_zero, List.set_cons_succ]
  refine BigFrame.wpQuiet_want (by rfl) fun K hK => ⟨?_, fun w' hC => ?_, hK _ ?_⟩
  rotate_left
  · (obtain ⟨q0, q1, q2, q3, q4, q5, q6⟩ := HSK.out _ hC; go_simp; first | done | with_reducible rfl | exact ⟨rfl, hC⟩)
  clear hK K
  simp only [Act.put, List.setIfInBounds_toArray, List.set_cons_zero, List.set_cons_succ]
  refine BigFrame.wpQuiet_want (by rfl) fun K hK => ⟨?_, fun w' hC => ?_, hK _ ?_⟩
  rotate_left
  · (obtain ⟨q0, q1, q2, q3, q4, q5, q6⟩ := HSK.out _ hC; go_simp; first | done | with_reducible rfl | exact ⟨rfl, hC⟩)
  clear hK K
  simp only [Act.put, List.setIfInBounds_toArray, List.set_cons_zero, List.set_cons_succ]
  refine wpQuiet_nil ?_
  intro w2 hC2
  have HC2 := Lib.hid hC2
  clear hC2
  go_wp2_with fail
  go_ret
  exact ⟨by rw [HR.out, ← HTM.out]; rfl, HE1.out.drew.trans HC2.out⟩

end Go.Proofs.YtilhnmclleiodaaDoor

/- Parts of lists, products of lists of elements, values in range. -/
namespace Go.Proofs.YtilhnmclleiodaaDoor
open Go.RowKit

/-- The product of the first elements of a list. -/
noncomputable def plF (t : List (List Int)) (xs : List Int) : Nat → Nat
  | 0 => 0
  | k + 1 => mul t (plF t xs k) (nth xs k).toNat
theorem plF_lt {t : List (List Int)} (hg : IsGrp t) {xs : List Int} (hx : InR t.length xs) : ∀ k, k ≤ xs.length → plF t xs k < t.length
  | 0, _ => hg.pos
  | k + 1, h => by
    have h1 := hx k (by omega)
    exact hg.mul_lt (plF_lt hg hx k (by omega)) (by omega)
theorem nth_take {xs : List Int} {p k : Nat} (h : k < p) : nth (xs.take p) k = nth xs k := by simp [nth, h]
theorem nth_drop (xs : List Int) (p k : Nat) : nth (xs.drop p) k = nth xs (p + k) := by simp [nth]
theorem plF_take (t : List (List Int)) (xs : List Int) {p : Nat} : ∀ k, k ≤ p → plF t (xs.take p) k = plF t xs k
  | 0, _ => rfl
  | k + 1, h => by rw [plF, plF, plF_take t xs k (by omega), nth_take (by omega)]
theorem InR.take {N : Nat} {xs : List Int} (h : InR N xs) (p : Nat) : InR N (xs.take p) := fun i hi => by
  rw [List.length_take] at hi
  rw [nth_take (by omega)]
  exact h i (by omega)
theorem InR.drop {N : Nat} {xs : List Int} (h : InR N xs) (p : Nat) : InR N (xs.drop p) := fun i hi => by
  rw [List.length_drop] at hi
  rw [nth_drop]
  exact h _ (by omega)
theorem lsL_in {N d k : Nat} (h : d = 0 ∨ 2 ≤ N) : InR N (lsL N d k) := fun i hi => by
  rw [lsL_len] at hi
  have := dN_in (N := N) (n := d) (i := k) (p := i) (by omega)
  rw [nth_lsL hi]
  omega
theorem IntsW.take {w : World} {A : Option Addr} {xs : List Int} (h : IntsW w A xs) (p : Nat) : IntsW w A (xs.take p) := by
  rcases h with rfl | ⟨b, o, rfl, hb, hc⟩
  · exact .inl (by simp)
  · refine .inr ⟨b, o, rfl, hb, fun j hj => ?_⟩
    rw [List.length_take] at hj
    rw [nth_take (by omega)]
    exact hc j (by omega)
theorem IntsW.drop {w : World} {b o : Nat} {xs : List Int} (h : IntsW w (some ⟨b, o, none⟩) xs) (p : Nat) : IntsW w (some ⟨b, o + p, none⟩) (xs.drop p) := by
  rcases h with rfl | ⟨b', o', e, hb, hc⟩
  · exact .inl (by simp)
  · simp only [Option.some.injEq, Addr.mk.injEq, and_true] at e
    obtain ⟨rfl, rfl⟩ := e
    refine .inr ⟨_, _, rfl, hb, fun j hj => ?_⟩
    rw [List.length_drop] at hj
    rw [nth_drop, Nat.add_assoc]
    exact hc _ (by omega)
/-- A value of a cochain is in range. -/
theorem valR_in {N M d : Nat} {fs xs : List Int} (hM : 0 < M) (hx : InR N xs) (hl : xs.length = d) (hf : fs.length = cellsN N d) (hr : InR M fs) : 0 ≤ valR N fs xs ∧ valR N fs xs < (M : Int) := by
  unfold valR
  by_cases hz : xs.any (fun x => x == 0) = true
  · rw [if_pos hz]
    omega
  · rw [if_neg hz]
    refine hr _ ?_
    rw [hf]
    have h := cellF_lt (N := N) (xs := xs) xs.length (fun j hj => by
      have h1 := hx j hj
      have h2 : nth xs j ≠ 0 := fun h => hz (any_zero hj h)
      omega)
    rw [hl] at h ⊢
    exact h

end Go.Proofs.YtilhnmclleiodaaDoor
