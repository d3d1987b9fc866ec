/- TransferElement: the model, and the specification's contract. -/
import Derived.Test.YtfnjpbjlikajbaaDoorUt
import Derived.Test.YtfnjpbjlikajbaaDoorUd
import Derived.Test.YtfnjpbjlikajbaaDoorInc
import Derived.Test.YtfnjpbjlikajbaaDoorIa
import Derived.Test.YtfnjpbjlikajbaaDoorCn
namespace Go.Proofs.YtfnjpbjlikajbaaDoor
open Go.RowKit

noncomputable def teC (t : List (List Int)) (xs : List Int) (x : Int) : Int := if sgC t xs [x] = 0 then (if abB (grT t xs) = true then 0 else 5) else sgC t xs [x]
/-- What the coset numbered k gives, and the product of the first k. -/
noncomputable def trB (t : List (List Int)) (S : Cos) (x k : Nat) : Nat := mul t (iv t (fstA S (S.num (mul t x (fstA S k))))) (mul t x (fstA S k))
noncomputable def trP (t : List (List Int)) (S : Cos) (x : Nat) : Nat → Nat
  | 0 => 0
  | k + 1 => mul t (trP t S x k) (trB t S x k)
noncomputable def qTransferElement0 (t : List (List Int)) (xs : List Int) (x : Int) : Int := if teC t xs x = 0 then (trP t (cosS t xs) x.toNat (cosS t xs).fst.length : Int) else 0
noncomputable def qTransferElement1 (t : List (List Int)) (xs : List Int) (x : Int) : Int := teC t xs x
section
variable {t : List (List Int)} {xs : List Int} {x : Int}
theorem teo_no {z : Int} (h : teC t xs x = z) (hz : z ≠ 0) : qTransferElement0 t xs x = 0 ∧ qTransferElement1 t xs x = z := by simp [qTransferElement0, qTransferElement1, h, hz]
theorem teo_yes {x : Nat} (h : teC t xs (x : Int) = 0) : qTransferElement0 t xs (x : Int) = (trP t (cosS t xs) x (cosS t xs).fst.length : Int) ∧ qTransferElement1 t xs (x : Int) = 0 := by simp [qTransferElement0, qTransferElement1, h]
theorem teC_no {z : Int} (h : sgC t xs [x] = z) (hz : z ≠ 0) : teC t xs x = z := by simp [teC, h, hz]
theorem teC_ab (h : sgC t xs [x] = 0) (ha : abB (grT t xs) = false) : teC t xs x = 5 := by simp [teC, h, ha]
theorem teC_yes (h : sgC t xs [x] = 0) (ha : abB (grT t xs) = true) : teC t xs x = 0 := by simp [teC, h, ha]
end

/-- What the cosets of a subgroup give to the walks. -/
theorem stepL_of {t : List (List Int)} {xs : List Int} (h : SubX t xs) : StepL t (cosS t xs).num (fstA (cosS t xs)) ((List.range t.length).map fun x => ((cosS t xs).num x : Int)) ((cosS t xs).fst.map fun x : Nat => (x : Int)) where
  ol := by simp
  at_ y hy := by
    obtain ⟨h1, -, -⟩ := coset_at h.g h.s hy
    exact ⟨by simp [nth, hy], by rw [List.length_map]; exact h1⟩
  fs j hj := by
    rw [List.length_map] at hj
    exact ⟨fstA_nth hj, (cosS_b h.g h.b).lt _ (fstA_mem hj)⟩
theorem trB_lt {t : List (List Int)} {xs : List Int} (h : SubX t xs) {x k : Nat} (hx : x < t.length) (hk : k < (cosS t xs).fst.length) : trB t (cosS t xs) x k < t.length := by
  have hf := (cosS_b h.g h.b).lt _ (fstA_mem hk)
  exact h.s.lt _ (coset_at h.g h.s (h.g.mul_lt hx hf)).2.2
theorem trP_lt {t : List (List Int)} {xs : List Int} (h : SubX t xs) {x : Nat} (hx : x < t.length) : ∀ k, k ≤ (cosS t xs).fst.length → trP t (cosS t xs) x k < t.length
  | 0, _ => h.g.n1
  | k + 1, hk => h.g.mul_lt (trP_lt h hx k (by omega)) (trB_lt h hx (by omega))

set_option maxRecDepth 100000 in
set_option maxHeartbeats 8000000 in
theorem specTransferElement_ex (t0 : List (List Int)) (t1 : List Int) (m2 : Int) : ∀ (B0 : Option Addr) (d0 : Nat) (B1 : Option Addr) (d1 : Nat) (W : World), RwsW W B0 t0 → IntsW W B1 t1 → SmallT t0 → t1.length ≤ 1048576 →
    Calls Tryd.prog 14 #[.agg #[.slice B0 t0.length d0], .slice B1 t1.length d1, .int .i64 m2] W fun e W' => e = .returned (.tuple #[.int .i64 (qTransferElement0 t0 t1 m2), .int .i64 (qTransferElement1 t0 t1 m2)]) ∧ Ex W W' := by
  intro B0 d0 B1 d1 w hR hX hs hu
  have e0 : Ex w (w.alloc (.cells #[.slice B0 t0.length d0] 36)) := (Ex.refl w).alloc _
  have b0 : Has (w.alloc (.cells #[.slice B0 t0.length d0] 36)) (w.heap.size) 36 #[.slice B0 t0.length d0] := (Has.newAt (w := w) (e := 36) (cs := #[.slice B0 t0.length d0]) (k := w.heap.size) (by simp))
  have HC := Lib.hid (l01Set_any B0 B1 t0 t1 d0 d1 _ (hR.ex e0) (hX.ex e0) hs hu)
  by_cases hc : setC t0 t1 = 0
  · obtain ⟨hg, hb⟩ := setC_f hc
    rw [hc] at HC
    have hgr := grpB_iff.1 hg
    have HEL := Lib.hid (fun kb W (he : Ex w W) => l01Elements1_ex B0 t0 d0 kb m2 W (hR.ex he) hs hgr)
    cases hmb : movB t0.length m2 with
    | false =>
      rw [hmb] at HEL
      have HQ := Lib.hid (teo_no (teC_no (sgC_el (xs := t1) hg ((below1 _ _).trans hmb)) (by decide)) (by decide))
      clear hc hg hb hgr hmb hR hX hs hu
      go_enter Tryd.func14, Tryd.ntmps14
      go_wp2_with fail
      generalize (w.alloc (.cells #[.slice B0 t0.length d0] 36)) = W0 at *
      refine HC.out.mono ?_
      rintro e W1 ⟨rfl, he1⟩
      have HE1 := Lib.hid (e0.trans he1)
      have c0 := (b0.ex he1).cell 0
      clear b0 e0 he1
      go_wp2_with fail
      refine (HEL.out W1.heap.size _ (HE1.out.alloc _) (Has.new _ _ _)).mono ?_
      rintro e W2 ⟨rfl, he2⟩
      have HE2 := Lib.hid ((HE1.out.alloc _).trans he2)
      clear he2 c0 HEL
      go_wp2_with fail
      go_ret2
      exact ⟨by rw [HQ.out.1, HQ.out.2]; rfl, HE2.out⟩
    | true =>
      rw [hmb] at HEL
      have hm3 : 0 ≤ m2 ∧ m2 < t0.length := of_decide_eq_true hmb
      obtain ⟨m, rfl⟩ : ∃ m : Nat, m2 = (m : Int) := ⟨m2.toNat, by omega⟩
      have hm : m < t0.length := by omega
      have HC7 := Lib.hid (fun W (he : Ex w W) => l07Code_any B0 B1 t0 t1 d0 d1 W (hR.ex he) (hX.ex he) hs hu)
      have hsg : sgC t0 t1 [(m : Int)] = sgC t0 t1 [] := by simp [sgC, hg, hb, below1, hmb, below_nil]
      by_cases hz : sgC t0 t1 [] = 0
      · have hsx := subX_code hz
        rw [hz] at HC7
        have HGR := Lib.hid (fun W (he : Ex w W) => l07Group_any B0 B1 t0 t1 d0 d1 W (hR.ex he) (hX.ex he) hsx)
        have HCE := Lib.hid (fun CC n W (h : RwsW W CC (grT t0 t1)) => l01Centre_any CC (grT t0 t1) n W h hsx.grp)
        have hgl := grT_len t0 t1
        have HAB : Hid (abB (grT t0 t1) = (((selI (cenP (grT t0 t1)) (grT t0 t1).length).length : Int) == (t1.length : Int))) := Lib.hid (by unfold abB; rw [hgl])
        obtain ⟨gl, hglE⟩ : ∃ gl, grT t0 t1 = gl := ⟨_, rfl⟩
        rw [hglE] at HGR HCE HAB
        obtain ⟨cs, hcs⟩ : ∃ cs, selI (cenP gl) gl.length = cs := ⟨_, rfl⟩
        rw [hcs] at HCE HAB
        cases hab : abB gl with
        | false =>
          rw [hab] at HAB
          have HQ := Lib.hid (teo_no (teC_ab (hsg.trans hz) (by rw [hglE]; exact hab)) (by decide))
          have hne : ((cs.length : Int) != (t1.length : Int)) = true := by simp only [bne, ← HAB.out]; rfl
          clear hc hg hb hgr hmb hR hX hs hu hm3 hm hsg hz hgl hglE hcs hab hsx
          go_enter Tryd.func14, Tryd.ntmps14
          go_wp2_with fail
          generalize (w.alloc (.cells #[.slice B0 t0.length d0] 36)) = W0 at *
          refine HC.out.mono ?_
          rintro e W1 ⟨rfl, he1⟩
          have HE1 := Lib.hid (e0.trans he1)
          have HB1 := Lib.hid (b0.ex he1)
          have c0 := HB1.out.cell 0
          clear b0 e0 he1
          go_wp2_with fail
          refine (HEL.out W1.heap.size _ (HE1.out.alloc _) (Has.new _ _ _)).mono ?_
          rintro e W2 ⟨rfl, he2⟩
          have HE2 := Lib.hid ((HE1.out.alloc _).trans he2)
          have HB2 := Lib.hid ((HB1.out.alloc _).ex he2)
          have c2 := HB2.out.cell 0
          clear he2 c0 HEL
          go_wp2_with fail
          refine (HC7.out W2 HE2.out).mono ?_
          rintro e W3 ⟨rfl, he3⟩
          have HE3 := Lib.hid (HE2.out.trans he3)
          have c3 := (HB2.out.ex he3).cell 0
          clear he3 c2
          go_wp2_with fail
          refine (HGR.out W3 HE3.out).mono ?_
          rintro e W4 ⟨CC, n, rfl, he4, hO⟩
          have HE4 := Lib.hid (HE3.out.trans he4)
          have HCW := Lib.hid (HCE.out CC n W4 hO.rws)
          clear he4 hO c3
          go_wp2_with fail
          refine HCW.out.mono ?_
          rintro e W5 ⟨C5, n5, rfl, he5, -⟩
          have HE5 := Lib.hid (HE4.out.trans he5)
          clear he5
          go_wp2_with fail
          go_ret2
          exact ⟨by rw [HQ.out.1, HQ.out.2]; rfl, HE5.out⟩
        | true =>
          rw [hab] at HAB
          have HQ := Lib.hid (teo_yes (x := m) (teC_yes (hsg.trans hz) (by rw [hglE]; exact hab)))
          have hne : ((cs.length : Int) != (t1.length : Int)) = false := by simp only [bne, ← HAB.out]; rfl
          have HCO := Lib.hid (fun W (he : Ex w W) => l01Cosets_any B0 B1 t0 t1 d0 d1 W (hR.ex he) (hX.ex he) hgr hu (setB_true.1 hb).1)
          rw [show cosK t0 (elsL t1) t0.length = cosS t0 t1 from rfl] at HCO
          have hSL := stepL_of hsx
          have hTB := Lib.hid (fun k (hk : k < (cosS t0 t1).fst.length) => trB_lt hsx hm hk)
          have hTP := Lib.hid (fun k (hk : k ≤ (cosS t0 t1).fst.length) => trP_lt hsx hm k hk)
          have hl8 : (cosS t0 t1).fst.length ≤ 8 := Nat.le_trans (cosS_b hgr hb).len hgr.n8
          have HST := Lib.hid (fun O c1 L c2 r W (he : Ex w W) (hO : IntsW W O ((List.range t0.length).map fun x => ((cosS t0 t1).num x : Int))) (hL : IntsW W L ((cosS t0 t1).fst.map fun x : Nat => (x : Int))) (hr : r < t0.length) => l07Step_any B0 O L t0 (cosS t0 t1).num (fstA (cosS t0 t1)) _ _ d0 c1 c2 m r W (hR.ex he) hO hL hgr hSL (by simpa using hl8) hm hr)
          simp only [List.length_map, List.length_range] at HST
          have HFS := Lib.hid (fun k (hk : k < (cosS t0 t1).fst.length) => And.intro (fstA_nth hk) ((cosS_b hgr hb).lt _ (fstA_mem hk)))
          obtain ⟨bt, ot, bb, oo, C, rfl, hQ⟩ := hR.sq hgr
          have hbw := hQ.1
          have HTQ := Lib.hid hQ
          have HGG := Lib.hid hgr
          have htr : Hid (∀ k, trB t0 (cosS t0 t1) m k = mul t0 (iv t0 (fstA (cosS t0 t1) ((cosS t0 t1).num (mul t0 m (fstA (cosS t0 t1) k))))) (mul t0 m (fstA (cosS t0 t1) k))) := Lib.hid (fun k => rfl)
          have hn8 := hgr.n8
          obtain ⟨S, hSE⟩ : ∃ S, cosS t0 t1 = S := ⟨_, rfl⟩
          rw [hSE] at HQ HCO hTB hTP hl8 HST HFS htr
          obtain ⟨ls, hls⟩ : ∃ ls, S.fst.map (fun x : Nat => (x : Int)) = ls := ⟨_, rfl⟩
          have HLL : Hid (ls.length = S.fst.length) := Lib.hid (by rw [← hls, List.length_map])
          rw [hls] at HCO HST HFS
          obtain ⟨N, hN⟩ : ∃ N, S.fst.length = N := ⟨_, rfl⟩
          rw [hN] at HQ HCO hTB hTP hl8 HST HFS HLL
          clear hc hg hb hgr hmb hR hX hs hu hm3 hsg hz hgl hglE hcs hab hsx hSL hSE hls hN hQ
          go_enter Tryd.func14, Tryd.ntmps14
          go_wp2_with fail
          generalize (w.alloc (.cells #[.slice (some ⟨bt, ot, none⟩) t0.length d0] 36)) = W0 at *
          refine HC.out.mono ?_
          rintro e W1 ⟨rfl, he1⟩
          have HE1 := Lib.hid (e0.trans he1)
          have HB1 := Lib.hid (b0.ex he1)
          have c0 := HB1.out.cell 0
          clear b0 e0 he1
          go_wp2_with fail
          refine (HEL.out W1.heap.size _ (HE1.out.alloc _) (Has.new _ _ _)).mono ?_
          rintro e W2 ⟨rfl, he2⟩
          have HE2 := Lib.hid ((HE1.out.alloc _).trans he2)
          have HB2 := Lib.hid ((HB1.out.alloc _).ex he2)
          have c2 := HB2.out.cell 0
          clear he2 c0 HEL
          go_wp2_with fail
          refine (HC7.out W2 HE2.out).mono ?_
          rintro e W3 ⟨rfl, he3⟩
          have HE3 := Lib.hid (HE2.out.trans he3)
          have HB3 := Lib.hid (HB2.out.ex he3)
          have c3 := HB3.out.cell 0
          clear he3 c2
          go_wp2_with fail
          refine (HGR.out W3 HE3.out).mono ?_
          rintro e W4 ⟨CC, n, rfl, he4, hO⟩
          have HE4 := Lib.hid (HE3.out.trans he4)
          have HB4 := Lib.hid (HB3.out.ex he4)
          have HCW := Lib.hid (HCE.out CC n W4 hO.rws)
          clear he4 hO c3
          go_wp2_with fail
          refine HCW.out.mono ?_
          rintro e W5 ⟨C5, n5, rfl, he5, -⟩
          have HE5 := Lib.hid (HE4.out.trans he5)
          have HB5 := Lib.hid (HB4.out.ex he5)
          have c5 := HB5.out.cell 0
          clear he5
          go_wp2_with fail
          refine (HCO.out W5 HE5.out).mono ?_
          rintro e W6 ⟨D, v, rfl, he6, hlD, hD, hG⟩
          have HE6 := Lib.hid (HE5.out.trans he6)
          have HB6 := Lib.hid (HB5.out.ex he6)
          obtain ⟨LA, lc, rfl, hLO⟩ := hG.own
          have HIO := Lib.hid (OwnL.of_has (xs := (List.range t0.length).map fun x => (S.num x : Int)) (lo := W5.heap.size) (n := t0.length) (e := 2) (by
            have : (tab t0.length fun j => Value.int .i64 (nth ((List.range t0.length).map fun x => (S.num x : Int)) j)) = tab t0.length fun x => Value.int .i64 (S.num x : Int) := tab_congr fun j hj => by simp [nth, hj]
            rw [this]; exact hD) (by simp) hlD).ints
          have HIL := Lib.hid hLO.ints
          rw [HLL.out]
          clear he6 hlD hD hG hLO c5
          go_wp2_with fail
          go_loopw [11, 12] (fun p i wr => ∃ k : Nat, k ≤ N ∧ i = .int .i64 (k : Int) ∧ p = .int .i64 (trP t0 S m k : Int) ∧ Hid (Ex W6 wr)) (fun _ i _ => N - (intOf i).toNat)
          case atStart => exact ⟨0, Nat.zero_le _, rfl, rfl, Lib.hid (Ex.refl _)⟩
          case round =>
            obtain ⟨k, hk, rfl, rfl, HEk⟩ := hrel
            have c0k := (HB6.out.ex HEk.out).cell 0
            by_cases hkN : k < N
            · obtain ⟨hfk, hfl⟩ := HFS.out k hkN
              have hkl : k < ls.length := by rw [HLL.out]; exact hkN
              have hpl := hTP.out k (by omega)
              have hbl := hTB.out k hkN
              have HP1 : Hid (trP t0 S m (k + 1) = mul t0 (trP t0 S m k) (trB t0 S m k)) := Lib.hid rfl
              obtain ⟨bx, ox, rfl, hbx, hcx⟩ := (HIL.out.ex HEk.out).ints.at_ hkl
              rw [hfk] at hcx
              have HSS := Lib.hid (fun W' (he : Ex wr.drew W') => HST.out (some ⟨D, 0, none⟩) t0.length (some ⟨bx, ox, none⟩) lc (fstA S k) W' (HE6.out.trans (HEk.out.drew.trans he)) (HIO.out.ex (HEk.out.drew.trans he)) (HIL.out.ex (HEk.out.drew.trans he)) hfl)
              have HYB := Lib.hid (htr.out k)
              rw [← HYB.out] at HSS
              have HF := Lib.hid (fun W' (he : Ex wr.drew W') => And.intro ((HB6.out.ex (HEk.out.drew.trans he)).cell 0) ((he.below.cell (p := ⟨bx, ox + k, none⟩) hbx).trans hcx))
              have hki : (k : Int) < (N : Int) := by omega
              have hk0 : (0 : Int) ≤ (k : Int) := by omega
              clear hfk hfl hcx
              generalize trB t0 S m k = z at *
              generalize trP t0 S m k = q at *
              generalize fstA S (S.num (mul t0 m (fstA S k))) = f at *
              generalize fstA S k = fk at *
              have hen := HGG.out.ent hpl hbl
              have HEN := Lib.hid hen
              clear hen
              clear htr
              go_wp2_with fail
              refine wp_region_quiet (C := fun w' => Ex wr.drew w') (by kernel_rfl) (by kernel_rfl) (Ex.refl _) ?_
              refine BigFrame.wpQuiet_want (by rfl) fun K hK => ⟨?_, fun w' hC => ?_, hK _ ?_⟩
              rotate_left
              · (obtain ⟨q0, q1⟩ := HF.out _ hC; go_simp; first | done | with_reducible rfl | exact ⟨rfl, hC⟩)
              clear hK K
              simp only [Act.put, List.setIfInBounds_toArray, List.set_cons_zero, List.set_cons_succ]
              refine BigFrame.wpQuiet_want (by rfl) fun K hK => ⟨?_, fun w' hC => ?_, hK _ ?_⟩
              rotate_left
              · (obtain ⟨q0, q1⟩ := HF.out _ hC; go_simp; first | done | with_reducible rfl | exact ⟨rfl, hC⟩)
              clear hK K
              simp only [Act.put, List.setIfInBounds_toArray, List.set_cons_zero, List.set_cons_succ]
              refine BigFrame.wpQuiet_want (by rfl) fun K hK => ⟨?_, fun w' hC => ?_, hK _ ?_⟩
              rotate_left
              · (obtain ⟨q0, q1⟩ := HF.out _ hC; go_simp; first | done | with_reducible rfl | exact ⟨rfl, hC⟩)
              clear hK K
              simp only [Act.put, List.setIfInBounds_toArray, List.set_cons_zero, List.set_cons_succ]
              refine BigFrame.wpQuiet_want (by rfl) fun K hK => ⟨?_, fun w' hC => ?_, hK _ ?_⟩
              rotate_left
              · (obtain ⟨q0, q1⟩ := HF.out _ hC; go_simp; first | done | with_reducible rfl | exact ⟨rfl, hC⟩)
              clear hK K
              simp only [Act.put, List.setIfInBounds_toArray, List.set_cons_zero, List.set_cons_succ]
              refine BigFrame.wpQuiet_want (by rfl) fun K hK => ⟨?_, fun w' hC => ?_, hK _ ?_⟩
              rotate_left
              · (obtain ⟨q0, q1⟩ := HF.out _ hC; go_simp; first | done | with_reducible rfl | exact ⟨rfl, hC⟩)
              clear hK K
              simp only [Act.put, List.setIfInBounds_toArray, List.set_cons_zero, List.set_cons_succ]
              refine BigFrame.wpQuiet_want (by rfl) fun K hK => ⟨?_, fun w' hC => ?_, hK _ ?_⟩
              rotate_left
              · (obtain ⟨q0, q1⟩ := HF.out _ hC; go_simp; first | done | with_reducible rfl | exact ⟨rfl, hC⟩)
              clear hK K
              simp only [Act.put, List.setIfInBounds_toArray, List.set_cons_zero, List.set_cons_succ]
              refine BigFrame.wpQuiet_want (by rfl) fun K hK => ⟨?_, fun w' hC => ?_, hK _ ?_⟩
              rotate_left
              · (obtain ⟨q0, q1⟩ := HF.out _ hC; go_simp; first | done | with_reducible rfl | exact ⟨rfl, hC⟩)
              clear hK K
              simp only [Act.put, List.setIfInBounds_toArray, List.set_cons_zero, List.set_cons_succ]
              refine BigFrame.wpQuiet_want (by rfl) fun K hK => ⟨?_, fun w' hC => ?_, hK _ ?_⟩
              rotate_left
              · (obtain ⟨q0, q1⟩ := HF.out _ hC; go_simp; first | done | with_reducible rfl | exact ⟨rfl, hC⟩)
              clear hK K
              simp only [Act.put, List.setIfInBounds_toArray, List.set_cons_zero, List.set_cons_succ]
              refine BigFrame.wpQuiet_want (by rfl) fun K hK => ⟨.tuple #[.int .i64 (f : Int), .int .i64 (z : Int)], fun w' hC => (by go_simp; refine ((HSS.out w' hC)).mono ?_; rintro e w2 ⟨rfl, hb⟩; exact ⟨rfl, hC.trans hb⟩), hK _ ?_⟩
              clear hK K
              simp only [Act.put, List.setIfInBounds_toArray, List.set_cons_zero, List.set_cons_succ]
              refine BigFrame.wpQuiet_want (by rfl) fun K hK => ⟨?_, fun w' hC => ?_, hK _ ?_⟩
              rotate_left
              · (obtain ⟨q0, q1⟩ := HF.out _ hC; go_simp; first | done | with_reducible rfl | exact ⟨rfl, hC⟩)
              clear hK K
              simp only [Act.put, List.setIfInBounds_toArray, List.set_cons_zero, List.set_cons_succ]
              refine BigFrame.wpQuiet_want (by rfl) fun K hK => ⟨?_, fun w' hC => ?_, hK _ ?_⟩
              rotate_left
              · (obtain ⟨q0, q1⟩ := HF.out _ hC; go_simp; first | done | with_reducible rfl | exact ⟨rfl, hC⟩)
              clear hK K
              simp only [Act.put, List.setIfInBounds_toArray, List.set_cons_zero, List.set_cons_succ]
              refine BigFrame.wpQuiet_want (by rfl) fun K hK => ⟨?_, fun w' hC => ?_, hK _ ?_⟩
              rotate_left
              · (obtain ⟨q0, q1⟩ := HF.out _ hC; go_simp; first | done | with_reducible rfl | exact ⟨rfl, hC⟩)
              clear hK K
              simp only [Act.put, List.setIfInBounds_toArray, List.set_cons_zero, List.set_cons_succ]
              refine BigFrame.wpQuiet_want (by rfl) fun K hK => ⟨?_, fun w' hC => ?_, hK _ ?_⟩
              rotate_left
              · (obtain ⟨q0, q1⟩ := HF.out _ hC; go_simp; first | done | with_reducible rfl | exact ⟨rfl, hC⟩)
              clear hK K
              simp only [Act.put, List.setIfInBounds_toArray, List.set_cons_zero, List.set_cons_succ]
              refine BigFrame.wpQuiet_want (by rfl) fun K hK => ⟨?_, fun w' hC => ?_, hK _ ?_⟩
              rotate_left
              · (obtain ⟨q0, q1⟩ := HF.out _ hC; go_simp; first | done | with_reducible rfl | exact ⟨rfl, hC⟩)
              clear hK K
              simp only [Act.put, List.setIfInBounds_toArray, List.set_cons_zero, List.set_cons_succ]
              refine wpQuiet_nil ?_
              intro w2 hC2
              have HC2 := Lib.hid hC2
              clear hC2
              have c0' := (HB6.out.ex (HEk.out.drew.trans HC2.out)).cell 0
              have HTE := HTQ.out.ex (HE6.out.trans (HEk.out.drew.trans HC2.out))
              have hrow := HTE.row_ hpl
              have hent := HTE.ent_ hpl hbl
              rw [HEN.out] at hent
              clear HTE
              go_wp2_with fail
              go_roundw
              case rel => exact ⟨k + 1, by omega, by go_num, by rw [HP1.out], Lib.hid (HEk.out.drew.trans HC2.out)⟩
              case measure => simp [intOf]; omega
            · obtain rfl : k = N := by omega
              go_wp2_with fail
              go_ret2
              exact ⟨by rw [HQ.out.1, HQ.out.2]; rfl, HE6.out.trans HEk.out⟩
      · obtain ⟨z, hzz⟩ : ∃ z, sgC t0 t1 [] = z := ⟨_, rfl⟩
        have HQ := Lib.hid (teo_no (teC_no (hsg.trans hzz) (hzz ▸ hz)) (hzz ▸ hz))
        rw [hzz] at HC7 hz
        have hzb : (z != 0) = true := by simpa using hz
        clear hc hg hb hgr hmb hR hX hs hu hm3 hm hsg hz hzz
        go_enter Tryd.func14, Tryd.ntmps14
        go_wp2_with fail
        generalize (w.alloc (.cells #[.slice B0 t0.length d0] 36)) = W0 at *
        refine HC.out.mono ?_
        rintro e W1 ⟨rfl, he1⟩
        have HE1 := Lib.hid (e0.trans he1)
        have HB1 := Lib.hid (b0.ex he1)
        have c0 := HB1.out.cell 0
        clear b0 e0 he1
        go_wp2_with fail
        refine (HEL.out W1.heap.size _ (HE1.out.alloc _) (Has.new _ _ _)).mono ?_
        rintro e W2 ⟨rfl, he2⟩
        have HE2 := Lib.hid ((HE1.out.alloc _).trans he2)
        have HB2 := Lib.hid ((HB1.out.alloc _).ex he2)
        have c2 := HB2.out.cell 0
        clear he2 c0 HEL
        go_wp2_with fail
        refine (HC7.out W2 HE2.out).mono ?_
        rintro e W3 ⟨rfl, he3⟩
        have HE3 := Lib.hid (HE2.out.trans he3)
        clear he3 c2
        go_wp2_with fail
        go_ret2
        exact ⟨by rw [HQ.out.1, HQ.out.2]; rfl, HE3.out⟩
  · have hsg : sgC t0 t1 [m2] = setC t0 t1 := by
      rcases setC_cases t0 t1 with ⟨h, h'⟩ | ⟨h, h2, h'⟩ | h
      · rw [h', sgC_no h]
      · rw [h', sgC_set h h2]
      · exact absurd h.2.2 hc
    obtain ⟨z, hz⟩ : ∃ z, setC t0 t1 = z := ⟨_, rfl⟩
    have HQ := Lib.hid (teo_no (teC_no (hsg.trans hz) (hz ▸ hc)) (hz ▸ hc))
    rw [hz] at HC hc
    have hzb : (z != 0) = true := by simpa using hc
    have hzb0 : (z == 0) = false := by simpa using hc
    clear hR hX hs hu hc hsg hz
    go_enter Tryd.func14, Tryd.ntmps14
    go_wp2_with fail
    generalize (w.alloc (.cells #[.slice B0 t0.length d0] 36)) = W0 at *
    refine HC.out.mono ?_
    rintro e W1 ⟨rfl, he1⟩
    have HE1 := Lib.hid (e0.trans he1)
    have c0 := (b0.ex he1).cell 0
    clear b0 e0 he1
    go_wp2_with fail
    go_ret2
    exact ⟨by rw [HQ.out.1, HQ.out.2]; rfl, HE1.out⟩

end Go.Proofs.YtfnjpbjlikajbaaDoor
