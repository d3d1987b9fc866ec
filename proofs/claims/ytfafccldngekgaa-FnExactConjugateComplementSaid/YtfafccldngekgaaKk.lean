/- ConjugateComplement: the program's side. -/
import Derived.Deep.RegionHeld3
import Derived.Deep.DeepCutAuto
import Derived.Deep.RegionWith
import Derived.Test.YtfafccldngekgaaKj
namespace Go.Proofs.Ytfafccldngekgaa
open Go.RowKit

theorem pairOf0_any (B1 : Option Addr) (M n d1 m : Nat) (w : World) (hM12 : M ≤ 12) (hm : m ≤ 12) :
    Calls Try.prog 75 #[.agg #[.int .i64 (M : Int), .slice B1 n d1], .int .i64 (m : Int), .int .i64 0] w fun e w' => e = .returned (.int .i64 (m : Int)) ∧ Ex w w' := by
  have h := pairOf_any B1 M n d1 m 0 w hM12 (by omega) hm
  rw [Nat.mul_zero, Nat.zero_add] at h
  exact h

theorem leaf_new1 (w : World) (e : TypeId) (cs : Array Value) (o : Obj) : Has ((w.alloc (.cells cs e)).alloc o) w.heap.size e cs := (Has.new w e cs).alloc _
theorem leaf_new2 (w : World) (e : TypeId) (cs : Array Value) (o : Obj) : Has ((w.alloc o).alloc (.cells cs e)) (w.heap.size + 1) e cs := Has.newAt (by simp)
theorem leaf_set_new (w : World) (p : Addr) (v : Value) (e : TypeId) (cs : Array Value) : Has ((w.setCell p v).alloc (.cells cs e)) w.heap.size e cs := Has.newAt (by simp)
theorem leaf_put_alloc {w : World} {b : Nat} {T : TypeId} {u v : Value} {o : Obj} (h : Has w b T #[u]) : Has ((w.setCell ⟨b, 0, none⟩ v).alloc o) b T #[v] := h.put1.alloc _
theorem leaf_put_far {w : World} {b c : Nat} {T : TypeId} {u v v' : Value} (h : Has w b T #[u]) (hne : b ≠ c) : Has ((w.setCell ⟨b, 0, none⟩ v).setCell ⟨c, 0, none⟩ v') b T #[v] := h.put1.far hne _
theorem leaf_far_put {w : World} {b c : Nat} {T : TypeId} {u v v' : Value} (h : Has w c T #[u]) (hne : c ≠ b) : Has ((w.setCell ⟨b, 0, none⟩ v).setCell ⟨c, 0, none⟩ v') c T #[v'] := (h.far hne _).put1

set_option maxRecDepth 100000 in
set_option maxHeartbeats 2000000 in
theorem cjc_ex (Bg Ba Bf Bl : Nat) (A U : Option Addr) (t0 : List (List Int)) (M m r p : Nat) (us : List Int) (c0 c1 : Nat) (w : World) (hG : Has w Bg 32 #[.slice A t0.length c0]) (hA : Has w Ba 34 #[.int .i64 (M : Int), .slice U us.length c1]) (hm1 : Has w Bf 2 #[.int .i64 (m : Int)]) (hr1 : Has w Bl 2 #[.int .i64 (r : Int)])
    (hR : RwsW w A t0) (hX : IntsW w U us) (hm : ModF t0 M us) (hmM : m < M * t0.length) (hrM : r < M * t0.length) (hp : p < M * t0.length) :
    Calls Try.prog 84 #[.int .i64 (p : Int), .pointer (some ⟨Bg, 0, none⟩), .pointer (some ⟨Ba, 0, none⟩), .pointer (some ⟨Bf, 0, none⟩), .pointer (some ⟨Bl, 0, none⟩)] w fun e w' => e = .returned (.int .i64 (pairV t0 M us (pairV t0 M us m p) r : Int)) ∧ Ex w w' := by
  have H1 := Lib.hid (fun W (he : Ex w W) => pairProduct_any A U t0 M us c0 c1 m p W (hR.ex he) (hX.ex he) hm hmM hp)
  have H2 := Lib.hid (fun W (he : Ex w W) => pairProduct_any A U t0 M us c0 c1 (pairV t0 M us m p) r W (hR.ex he) (hX.ex he) hm (pairV_lt hm hmM hp) hrM)
  obtain ⟨v1, hv1⟩ : ∃ v1, pairV t0 M us m p = v1 := ⟨_, rfl⟩
  rw [hv1] at H1 ⊢
  simp only [hv1] at H2
  obtain ⟨v2, hv2⟩ : ∃ v2, pairV t0 M us v1 r = v2 := ⟨_, rfl⟩
  rw [hv2] at ⊢
  simp only [hv2] at H2
  have HSK := Lib.hid (fun (W' : World) (hb : Ex w W') => And.intro ((hG.ex hb).cell 0) (And.intro ((hA.ex hb).cell 0) (And.intro ((hA.ex hb).cell 1) (And.intro ((hm1.ex hb).cell 0) ((hr1.ex hb).cell 0)))))
  clear hG hA hm1 hr1 hR hX hm hmM hrM hp hv1 hv2
  go_enter Try.func84, Try.ntmps84
  go_wp2_with fail
  refine wp_region_quiet (C := fun w' => Ex w w') (by kernel_rfl) (by kernel_rfl) (Ex.refl w).drew ?_
  refine BigFrame.wpQuiet_want (by rfl) fun K hK => ⟨?_, fun w' hC => ?_, hK _ ?_⟩
  rotate_left
  · (obtain ⟨q0, q1, q2, q3, q4⟩ := HSK.out _ hC; go_simp; first | done | with_reducible rfl | exact ⟨rfl, hC⟩)
  clear hK K
  simp only [Act.put, List.setIfInBounds_toArray, List.set_cons_zero, List.set_cons_succ]
  refine BigFrame.wpQuiet_want (by rfl) fun K hK => ⟨?_, fun w' hC => ?_, hK _ ?_⟩
  rotate_left
  · (obtain ⟨q0, q1, q2, q3, q4⟩ := HSK.out _ hC; go_simp; first | done | with_reducible rfl | exact ⟨rfl, hC⟩)
  clear hK K
  simp only [Act.put, List.setIfInBounds_toArray, List.set_cons_zero, List.set_cons_succ]
  refine BigFrame.wpQuiet_want (by rfl) fun K hK => ⟨?_, fun w' hC => ?_, hK _ ?_⟩
  rotate_left
  · (obtain ⟨q0, q1, q2, q3, q4⟩ := HSK.out _ hC; go_simp; first | done | with_reducible rfl | exact ⟨rfl, hC⟩)
  clear hK K
  simp only [Act.put, List.setIfInBounds_toArray, List.set_cons_zero, List.set_cons_succ]
  refine BigFrame.wpQuiet_want (by rfl) fun K hK => ⟨?_, fun w' hC => ?_, hK _ ?_⟩
  rotate_left
  · (obtain ⟨q0, q1, q2, q3, q4⟩ := HSK.out _ hC; go_simp; first | done | with_reducible rfl | exact ⟨rfl, hC⟩)
  clear hK K
  simp only [Act.put, List.setIfInBounds_toArray, List.set_cons_zero, List.set_cons_succ]
  refine BigFrame.wpQuiet_want (by rfl) fun K hK => ⟨?_, fun w' hC => ?_, hK _ ?_⟩
  rotate_left
  · (obtain ⟨q0, q1, q2, q3, q4⟩ := HSK.out _ hC; go_simp; first | done | with_reducible rfl | exact ⟨rfl, hC⟩)
  clear hK K
  simp only [Act.put, List.setIfInBounds_toArray, List.set_cons_zero, List.set_cons_succ]
  refine BigFrame.wpQuiet_want (by rfl) fun K hK => ⟨?_, fun w' hC => ?_, hK _ ?_⟩
  rotate_left
  · (obtain ⟨q0, q1, q2, q3, q4⟩ := HSK.out _ hC; go_simp; first | done | with_reducible rfl | exact ⟨rfl, hC⟩)
  clear hK K
  simp only [Act.put, List.setIfInBounds_toArray, List.set_cons_zero, List.set_cons_succ]
  refine BigFrame.wpQuiet_want (by rfl) fun K hK => ⟨.int .i64 (v1 : Int), fun w' hC => (by go_simp; refine (H1.out w' hC).mono ?_; rintro e w2 ⟨rfl, hb⟩; exact ⟨rfl, hC.trans hb⟩), hK _ ?_⟩
  clear hK K
  simp only [Act.put, List.setIfInBounds_toArray, List.set_cons_zero, List.set_cons_succ]
  refine BigFrame.wpQuiet_want (by rfl) fun K hK => ⟨?_, fun w' hC => ?_, hK _ ?_⟩
  rotate_left
  · (obtain ⟨q0, q1, q2, q3, q4⟩ := HSK.out _ hC; go_simp; first | done | with_reducible rfl | exact ⟨rfl, hC⟩)
  clear hK K
  simp only [Act.put, List.setIfInBounds_toArray, List.set_cons_zero, List.set_cons_succ]
  refine BigFrame.wpQuiet_want (by rfl) fun K hK => ⟨.int .i64 (v2 : Int), fun w' hC => (by go_simp; refine (H2.out w' hC).mono ?_; rintro e w2 ⟨rfl, hb⟩; exact ⟨rfl, hC.trans hb⟩), hK _ ?_⟩
  clear hK K
  simp only [Act.put, List.setIfInBounds_toArray, List.set_cons_zero, List.set_cons_succ]
  refine BigFrame.wpQuiet_want (by rfl) fun K hK => ⟨?_, fun w' hC => ?_, hK _ ?_⟩
  rotate_left
  · (obtain ⟨q0, q1, q2, q3, q4⟩ := HSK.out _ hC; go_simp; first | done | with_reducible rfl | exact ⟨rfl, hC⟩)
  clear hK K
  simp only [Act.put, List.setIfInBounds_toArray, List.set_cons_zero, List.set_cons_succ]
  refine wpQuiet_nil ?_
  intro w2 hC2
  have HC2 := Lib.hid hC2
  clear hC2
  go_wp2_with fail
  go_ret
  exact ⟨rfl, HC2.out⟩

set_option maxRecDepth 100000 in
set_option maxHeartbeats 4000000 in
theorem implConjugateComplement_ex (t0 : List (List Int)) (m1 : Int) (t1 : List Int) (t2 : List Int) (m3 : Int) : ∀ (B0 : Option Addr) (d0 : Nat) (B1 : Option Addr) (d1 : Nat) (B2 : Option Addr) (d2 : Nat) (W : World), RwsW W B0 t0 → IntsW W B1 t1 → IntsW W B2 t2 → SmallT t0 → t1.length ≤ 1048576 → t2.length ≤ 1048576 →
    Calls Try.prog 42 #[.agg #[.slice B0 t0.length d0], .agg #[.int .i64 m1, .slice B1 t1.length d1], .slice B2 t2.length d2, .int .i64 m3] W fun e W' => ∃ (C0 : Option Addr) (e0 : Nat), e = .returned (.tuple #[.slice C0 (yConjugateComplement0 t0 m1 t1 t2 m3).length e0, .int .i64 (qConjugateComplement1 t0 m1 t1 t2 m3)]) ∧ Ex W W' ∧ OwnL W' W.heap.size W'.heap.size C0 (yConjugateComplement0 t0 m1 t1 t2 m3) := by
  intro B0 d0 B1 d1 B2 d2 w hR hX hF hs hu hf
  have e0 : Ex w ((w.alloc (.cells #[.slice B0 t0.length d0] 32)).alloc (.cells #[.int .i64 m1, .slice B1 t1.length d1] 34)) := ((Ex.refl w).alloc _).alloc _
  have b0 : Has ((w.alloc (.cells #[.slice B0 t0.length d0] 32)).alloc (.cells #[.int .i64 m1, .slice B1 t1.length d1] 34)) (w.heap.size) 32 #[.slice B0 t0.length d0] := ((Has.newAt (w := w) (e := 32) (cs := #[.slice B0 t0.length d0]) (k := w.heap.size) (by simp)).alloc _)
  have b1 : Has ((w.alloc (.cells #[.slice B0 t0.length d0] 32)).alloc (.cells #[.int .i64 m1, .slice B1 t1.length d1] 34)) (w.heap.size + 1) 34 #[.int .i64 m1, .slice B1 t1.length d1] := (Has.newAt (w := (w.alloc (.cells #[.slice B0 t0.length d0] 32))) (e := 34) (cs := #[.int .i64 m1, .slice B1 t1.length d1]) (k := w.heap.size + 1) (by simp))
  have HC := Lib.hid (pairsCode_ex B0 B1 B2 t0 m1 t1 t2 d0 d1 d2 _ (hR.ex e0) (hX.ex e0) (hF.ex e0) hs hu hf)
  have HE0 := Lib.hid e0
  by_cases hg : prC t0 m1 t1 t2 = 0
  · obtain ⟨hg1, hg2⟩ := prC_zero hg
    obtain ⟨M, rfl, hm⟩ := gmB_f hg1
    have hgz := hg
    rw [hg] at HC
    have hN1 := hm.g.n1
    have hN8 := hm.g.n8
    have hM2 := hm.m2
    have hM12 := hm.m12
    have hrp := below_pairs hg2
    have HT := Lib.hid (fun W (he : Ex w W) => isComplement_any B0 B1 B2 t0 M t1 t2 d0 d1 d2 W (hR.ex he) (hX.ex he) (hF.ex he) hm hrp hf)
    cases hib : inB m3 0 ((M : Int) - 1) with
    | false =>
      have HQ := Lib.hid (cj_out hgz hib)
      have ho := inB_false hib
      by_cases hneg : m3 < 0
      · clear hR hX hF hs hu hf hg hgz hg1 hg2 hm hib hrp HT ho
        go_enter Try.func42, Try.ntmps42
        go_wp2_with fail
        generalize ((w.alloc (.cells #[.slice B0 t0.length d0] 32)).alloc (.cells #[.int .i64 (M : Int), .slice B1 t1.length d1] 34)) = W0 at *
        refine HC.out.mono ?_
        rintro e W1 ⟨rfl, he1⟩
        go_wp2_with fail
        go_ret2
        exact ⟨none, 0, by rw [HQ.out.1, HQ.out.2]; rfl, HE0.out.trans he1, by rw [HQ.out.1]; exact OwnL.nil _ _ _ (Nat.le_refl _)⟩
      · have hge : (M : Int) ≤ m3 := by omega
        clear hR hX hF hs hu hf hg hgz hg1 hg2 hm hib hrp HT ho
        go_enter Try.func42, Try.ntmps42
        go_wp2_with fail
        generalize ((w.alloc (.cells #[.slice B0 t0.length d0] 32)).alloc (.cells #[.int .i64 (M : Int), .slice B1 t1.length d1] 34)) = W0 at *
        refine HC.out.mono ?_
        rintro e W1 ⟨rfl, he1⟩
        have c1 := (b1.ex he1).cell 0
        go_wp2_with fail
        go_ret2
        exact ⟨none, 0, by rw [HQ.out.1, HQ.out.2]; rfl, HE0.out.trans he1, by rw [HQ.out.1]; exact OwnL.nil _ _ _ (Nat.le_refl _)⟩
    | true =>
      obtain ⟨hp0, hp1⟩ := inB_true hib
      obtain ⟨P, rfl⟩ : ∃ P : Nat, m3 = (P : Int) := ⟨m3.toNat, by omega⟩
      have hneg : ¬ (P : Int) < 0 := by omega
      have hge : ¬ M ≤ P := by omega
      cases hcb : cmB t0 M t1 t2 with
      | false =>
        rw [hcb] at HT
        have HQ := Lib.hid (cj_no hgz hib hcb)
        clear hR hX hF hs hu hf hg hgz hg1 hg2 hm hib hrp hcb hp0 hp1
        go_enter Try.func42, Try.ntmps42
        go_wp2_with fail
        generalize ((w.alloc (.cells #[.slice B0 t0.length d0] 32)).alloc (.cells #[.int .i64 (M : Int), .slice B1 t1.length d1] 34)) = W0 at *
        refine HC.out.mono ?_
        rintro e W1 ⟨rfl, he1⟩
        have c0 := (b0.ex he1).cell 0
        have c1 := (b1.ex he1).cell 0
        have c1' := (b1.ex he1).cell 1
        go_wp2_with fail
        refine (HT.out W1 (HE0.out.trans he1)).mono ?_
        rintro e W3 ⟨rfl, he3⟩
        go_wp2_with fail
        go_ret2
        exact ⟨none, 0, by rw [HQ.out.1, HQ.out.2]; rfl, HE0.out.trans (he1.trans he3), by rw [HQ.out.1]; exact OwnL.nil _ _ _ (Nat.le_refl _)⟩
      | true =>
        rw [hcb] at HT
        have HQ := Lib.hid (cj_yes hgz hib hcb)
        have hl8 : t2.length ≤ 8 := by rw [cmB_length hcb]; exact hN8
        have hMN : M * 1 ≤ M * t0.length := Nat.mul_le_mul_left M hN1
        have hPM : P < M * t0.length := by omega
        have hP12 : P ≤ 12 := by omega
        obtain ⟨hne, hnl⟩ := negR_spec (M := M) (m := P) (by omega)
        have hnM : negR M P < M * t0.length := by omega
        have hwP : IntKind.i64.wrap (-(P : Int)) = -(P : Int) := IntWalk.i64_in _ (by omega)
        have HRO := Lib.hid (fun W => hne ▸ (restOf_w (-(P : Int)) M W (by omega) hM12 (by omega) (by omega)))
        have HML := Lib.hid (fun (D E : Nat) W (he : Ex ((w.alloc (.cells #[.slice B0 t0.length d0] 32)).alloc (.cells #[.int .i64 (M : Int), .slice B1 t1.length d1] 34)) W) (hD : Has W D 2 #[.int .i64 (P : Int)]) (hE : Has W E 2 #[.int .i64 (negR M P : Int)]) =>
          mappedList_any B2 t2 d2 84 #[.pointer (some ⟨w.heap.size, 0, none⟩), .pointer (some ⟨w.heap.size + 1, 0, none⟩), .pointer (some ⟨D, 0, none⟩), .pointer (some ⟨E, 0, none⟩)] (fun x => cjX t0 M P t1 t2 x) W (hF.ex (e0.trans he)) hf
            (enters_of Try.func84 (by kernel_rfl) rfl)
            (fun W' he' j hj => by
              obtain ⟨g1, g2⟩ := im_eq hrp hj
              rw [g1]
              exact cjc_ex w.heap.size (w.heap.size + 1) D E B0 B1 t0 M P (negR M P) (im t2 j) t1 d0 d1 W' (b0.ex (he.trans he')) (b1.ex (he.trans he')) (hD.ex he') (hE.ex he') (hR.ex (e0.trans (he.trans he'))) (hX.ex (e0.trans (he.trans he'))) hm hPM hnM g2))
        have hmf : ∀ (fn : Fn) (first cap : Array Value) (w : World), (Instr.makeFunc fn first cap).run Try.prog w = .ok (.func fn first cap) w := fun _ _ _ _ => rfl
        have HML2 : Hid (∀ (D E : Nat) W (he : Ex ((w.alloc (.cells #[.slice B0 t0.length d0] 32)).alloc (.cells #[.int .i64 (M : Int), .slice B1 t1.length d1] 34)) W) (hD : Has W D 2 #[.int .i64 (P : Int)]) (hE : Has W E 2 #[.int .i64 (negR M P : Int)]), Calls Try.prog 83 #[.slice B2 t2.length d2, .func (.func 84) #[] #[.pointer (some ⟨w.heap.size, 0, none⟩), .pointer (some ⟨w.heap.size + 1, 0, none⟩), .pointer (some ⟨D, 0, none⟩), .pointer (some ⟨E, 0, none⟩)]] W fun e w' => ∃ C0 e0, e = .returned (.slice C0 (cjL t0 t2.length M P t1 t2).length e0) ∧ Ex W w' ∧ OwnL w' W.heap.size w'.heap.size C0 (cjL t0 t2.length M P t1 t2)) := HML
        obtain ⟨r, hre⟩ : ∃ r, negR M P = r := ⟨_, rfl⟩
        rw [hre] at HRO hnl
        simp only [hre] at HML2
        have hr12 : r ≤ 12 := by omega
        obtain ⟨ys, hys⟩ : ∃ ys, cjL t0 t2.length M P t1 t2 = ys := ⟨_, rfl⟩
        rw [hys] at HQ
        simp only [hys] at HML2
        clear hR hX hF hs hu hf hg hgz hg1 hg2 hm hib hrp hcb hre hne hnM hPM hMN hp0 hp1 HML hys
        go_enter Try.func42, Try.ntmps42
        go_upto_region 8 with (first | (go_at_call 69; refine HC.out.mono ?_; rintro e W1 ⟨rfl, he1⟩; have c0 := (b0.ex he1).cell 0; have c1 := (b1.ex he1).cell 0; have c1' := (b1.ex he1).cell 1) | (go_at_call 82; refine (HT.out W1 (HE0.out.trans he1)).mono ?_; rintro e W2 ⟨rfl, he2⟩; clear c0 c1 c1'))
        generalize ((w.alloc (.cells #[.slice B0 t0.length d0] 32)).alloc (.cells #[.int .i64 (M : Int), .slice B1 t1.length d1] 34)) = W0 at *
        have he12 := he1.trans he2
        have HB0 := Lib.hid b0
        have HB1 := Lib.hid b1
        have HE2 := Lib.hid he12
        have hz2 := he12.size
        have HK := Lib.hid (fun (W' : World) (hb : Ex W2 W') => And.intro ((b1.ex (he12.trans hb)).cell 0) ((b1.ex (he12.trans hb)).cell 1))
        clear he1 he2 he12 b0 b1 e0
        have hdr : W2.drew.heap.size = W2.heap.size := rfl
        go_cut [11, 12] (fun s11 s12 wx => ∃ (D E : Nat), s11 = .pointer (some ⟨D, 0, none⟩) ∧ s12 = .pointer (some ⟨E, 0, none⟩) ∧ Ex W2 wx ∧ Has wx D 2 #[.int .i64 (P : Int)] ∧ Has wx E 2 #[.int .i64 (r : Int)])
        case first =>
          go_region_held3 (fun w' : World => w'.cell? ⟨w.heap.size + 1, 0, none⟩ = some (.int .i64 (M : Int)) ∧ w'.cell? ⟨w.heap.size + 1, 1, none⟩ = some (.slice B1 t1.length d1))
            (exact HK.out _ (by (repeat' (first | assumption | exact Ex.refl _ | refine Ex.alloc ?_ _ | refine Ex.drew ?_ | refine Ex.setCell ?_ (by first | exact Nat.le_refl _ | assumption | (show _ ≤ _; omega) | (simp; omega) | simp) _ | refine Ex.trans ?_ (by assumption)))))
            (first
              | (go_at_call 76; refine (HRO.out _).mono ?_; rintro e w' ⟨rfl, rfl⟩)
              | (go_at_call_of 75 (Value.int .i64 (P : Int)); refine (pairOf0_any B1 M t1.length d1 P _ hM12 hP12).mono ?_; rintro e w5 ⟨rfl, he5⟩; have hx5 : Ex W2 w5 := Ex.trans (by (repeat' (first | with_reducible exact Ex.refl _ | with_reducible refine Ex.alloc ?_ _ | with_reducible refine Ex.drew ?_))) he5; have hz5 := he5.size; (try simp only [World.size_alloc] at hz5); (first | (have hqA := Has.ex (Has.new _ _ _) he5; (try simp only [World.size_alloc] at hqA); (try rw [hdr] at hqA); have cqA := hqA.cell 0; have fqA := hqA.free 0; have lqA := hqA.lt) | (have hqA := Has.ex (Has.new _ _ _) ((Ex.refl _).drew.trans he5); (try simp only [World.size_alloc] at hqA); (try rw [hdr] at hqA); have cqA := hqA.cell 0; have fqA := hqA.free 0; have lqA := hqA.lt) | skip); (first | (have hqB := Has.ex (Has.alloc (Has.new _ _ _) _) he5; (try simp only [World.size_alloc] at hqB); (try rw [hdr] at hqB); have cqB := hqB.cell 0; have fqB := hqB.free 0; have lqB := hqB.lt) | (have hqB := Has.ex (Has.alloc (Has.new _ _ _) _) ((Ex.refl _).drew.trans he5); (try simp only [World.size_alloc] at hqB); (try rw [hdr] at hqB); have cqB := hqB.cell 0; have fqB := hqB.free 0; have lqB := hqB.lt) | skip))
              | (go_at_call_of 75 (Value.int .i64 (r : Int)); refine (pairOf0_any B1 M t1.length d1 r _ hM12 hr12).mono ?_; rintro e w7 ⟨rfl, he7⟩; have hx7 : Ex W2 w7 := Ex.trans (by (repeat' (first | with_reducible exact hx5 | with_reducible refine Ex.alloc ?_ _ | with_reducible refine Ex.drew ?_))) he7; have hz7 := he7.size; (try simp only [World.size_alloc] at hz7); (first | (have hqC := Has.ex (Has.new _ _ _) he7; (try simp only [World.size_alloc] at hqC); (try rw [hdr] at hqC); have cqC := hqC.cell 0; have fqC := hqC.free 0; have lqC := hqC.lt) | (have hqC := Has.ex (Has.new _ _ _) ((Ex.refl _).drew.trans he7); (try simp only [World.size_alloc] at hqC); (try rw [hdr] at hqC); have cqC := hqC.cell 0; have fqC := hqC.free 0; have lqC := hqC.lt) | skip); (first | (have hqD := Has.ex (Has.alloc (Has.new _ _ _) _) he7; (try simp only [World.size_alloc] at hqD); (try rw [hdr] at hqD); have cqD := hqD.cell 0; have fqD := hqD.free 0; have lqD := hqD.lt) | (have hqD := Has.ex (Has.alloc (Has.new _ _ _) _) ((Ex.refl _).drew.trans he7); (try simp only [World.size_alloc] at hqD); (try rw [hdr] at hqD); have cqD := hqD.cell 0; have fqD := hqD.free 0; have lqD := hqD.lt) | skip); (first | (have hqE := Has.ex hqA he7; (try simp only [World.size_alloc] at hqE); (try rw [hdr] at hqE); have cqE := hqE.cell 0; have fqE := hqE.free 0; have lqE := hqE.lt) | (have hqE := Has.ex (Has.alloc hqA _) he7; (try simp only [World.size_alloc] at hqE); (try rw [hdr] at hqE); have cqE := hqE.cell 0; have fqE := hqE.free 0; have lqE := hqE.lt) | (have hqE := Has.ex (Has.alloc (Has.alloc hqA _) _) he7; (try simp only [World.size_alloc] at hqE); (try rw [hdr] at hqE); have cqE := hqE.cell 0; have fqE := hqE.free 0; have lqE := hqE.lt) | skip); (first | (have hqF := Has.ex hqB he7; (try simp only [World.size_alloc] at hqF); (try rw [hdr] at hqF); have cqF := hqF.cell 0; have fqF := hqF.free 0; have lqF := hqF.lt) | (have hqF := Has.ex (Has.alloc hqB _) he7; (try simp only [World.size_alloc] at hqF); (try rw [hdr] at hqF); have cqF := hqF.cell 0; have fqF := hqF.free 0; have lqF := hqF.lt) | (have hqF := Has.ex (Has.alloc (Has.alloc hqB _) _) he7; (try simp only [World.size_alloc] at hqF); (try rw [hdr] at hqF); have cqF := hqF.cell 0; have fqF := hqF.free 0; have lqF := hqF.lt) | skip)))
          all_goals
            go_wp2_with fail
            go_meet
          all_goals
            refine ⟨_, _, rfl, rfl, ?_, ?_, ?_⟩
            · (repeat' (first | with_reducible exact hx7 | with_reducible refine Ex.alloc ?_ _ | with_reducible refine Ex.drew ?_ | with_reducible refine Ex.setCell ?_ (by dsimp only; omega) _))
            · first | with_reducible exact leaf_new1 _ _ _ _ | with_reducible exact leaf_new2 _ _ _ _ | with_reducible exact leaf_set_new _ _ _ _ _ | with_reducible exact leaf_put_alloc (by assumption) | with_reducible exact leaf_put_far (by assumption) (by omega) | with_reducible exact leaf_far_put (by assumption) (by omega)
            · first | with_reducible exact leaf_new1 _ _ _ _ | with_reducible exact leaf_new2 _ _ _ _ | with_reducible exact leaf_set_new _ _ _ _ _ | with_reducible exact leaf_put_alloc (by assumption) | with_reducible exact leaf_put_far (by assumption) (by omega) | with_reducible exact leaf_far_put (by assumption) (by omega)
        obtain ⟨W3, rfl⟩ : ∃ x : World, x = wc := ⟨_, rfl⟩
        obtain ⟨D, E, rfl, rfl, he3, hbD, hbE⟩ := hcut
        have HCL := Lib.hid (HML2.out D E W3 (HE2.out.trans he3) hbD hbE)
        have HE3 := Lib.hid (HE0.out.trans (HE2.out.trans he3))
        clear HK he3 hbD hbE HML2
        go_wp2_with fail
        refine HCL.out.mono ?_
        rintro e w' ⟨C0, e0, rfl, he4, ho⟩
        have HO := Lib.hid ho
        have HE4 := Lib.hid he4
        clear ho he4
        go_wp2_with fail
        go_ret2
        exact ⟨C0, e0, by rw [HQ.out.1, HQ.out.2]; rfl, HE3.out.trans HE4.out, by rw [HQ.out.1]; exact HO.out.mono HE3.out.size (Nat.le_refl _) HO.out.le⟩
  · have HQ := Lib.hid (cj_code (c := m3) hg)
    obtain ⟨z, hz⟩ : ∃ z, prC t0 m1 t1 t2 = z := ⟨_, rfl⟩
    rw [hz] at HC HQ hg
    have hzb : (z != 0) = true := by simpa using hg
    clear hR hX hF hg hz
    go_enter Try.func42, Try.ntmps42
    go_wp2_with fail
    generalize ((w.alloc (.cells #[.slice B0 t0.length d0] 32)).alloc (.cells #[.int .i64 m1, .slice B1 t1.length d1] 34)) = W0 at *
    refine HC.out.mono ?_
    rintro e W1 ⟨rfl, he1⟩
    go_wp2_with fail
    go_ret2
    exact ⟨none, 0, by rw [HQ.out.1, HQ.out.2]; rfl, HE0.out.trans he1, by rw [HQ.out.1]; exact OwnL.nil _ _ _ (Nat.le_refl _)⟩

end Go.Proofs.Ytfafccldngekgaa
