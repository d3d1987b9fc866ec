/- PrincipalMap: the program's side, both contracts. -/
import Derived.Test.YtfafccldngekgaaPl
namespace Go.Proofs.Ytfafccldngekgaa
open Go.RowKit

theorem pmc_ex (A K : Nat) (M m u n d : Nat) (L : Option Addr) (w : World) (hA : Has w A 34 #[.int .i64 (M : Int), .slice L n d]) (hK : Has w K 2 #[.int .i64 (m : Int)]) (hM2 : 2 ≤ M) (hM12 : M ≤ 12) (hu : u < M) (hm : m < M) :
    Calls Try.prog 104 #[.int .i64 (u : Int), .pointer (some ⟨K, 0, none⟩), .pointer (some ⟨A, 0, none⟩)] w fun e w' => e = .returned (.int .i64 (((u : Int) * (m : Int) - (m : Int)) % (M : Int))) ∧ Ex w w' := by
  have c0 := hA.cell 0
  have c1 := hK.cell 0
  obtain ⟨z0, hz0⟩ : ∃ z0, u * m = z0 := ⟨_, rfl⟩
  have hz144 : z0 ≤ 144 := by rw [← hz0]; exact Nat.le_trans (Nat.mul_le_mul (show u ≤ 12 by omega) (show m ≤ 12 by omega)) (by omega)
  have hpz : (u : Int) * (m : Int) = (z0 : Int) := by rw [← hz0]; simp
  have hw1 : IntKind.i64.wrap (z0 : Int) = (z0 : Int) := IntWalk.i64_in _ (by omega)
  have hw2 : IntKind.i64.wrap ((z0 : Int) - (m : Int)) = (z0 : Int) - (m : Int) := IntWalk.i64_in _ (by omega)
  have HRO := Lib.hid (fun W => (restOf_w ((z0 : Int) - (m : Int)) M W (by omega) hM12 (by omega) (by omega)))
  rw [hpz]
  clear hA hK hz0
  go_enter Try.func104, Try.ntmps104
  go_wp2_with fail
  refine (HRO.out _).mono ?_
  rintro e w' ⟨rfl, rfl⟩
  go_wp2_with fail
  go_ret
  exact ⟨rfl, Ex.refl _⟩

set_option maxRecDepth 100000 in
set_option maxHeartbeats 4000000 in
theorem principalMap_any (B1 : Option Addr) (M m : Nat) (us : List Int) (d1 : Nat) (w : World) (hX : IntsW w B1 us) (hM2 : 2 ≤ M) (hM12 : M ≤ 12) (hr : InR M us) (hl : us.length ≤ 8) (hm : m < M) :
    Calls Try.prog 66 #[.agg #[.int .i64 (M : Int), .slice B1 us.length d1], .int .i64 (m : Int)] w fun e w' => ∃ A' n', e = .returned (.slice A' (prinL us.length M us m).length n') ∧ Ex w w' ∧ OwnL w' w.heap.size w'.heap.size A' (prinL us.length M us m) := by
  have hmf : ∀ (fn : Fn) (first cap : Array Value) (w : World), (Instr.makeFunc fn first cap).run Try.prog w = .ok (.func fn first cap) w := fun _ _ _ _ => rfl
  have e0 : Ex w ((w.alloc (.cells #[.int .i64 (M : Int), .slice B1 us.length d1] 34)).alloc (.cells #[.int .i64 (m : Int)] 2)) := ((Ex.refl w).alloc _).alloc _
  have b0 : Has ((w.alloc (.cells #[.int .i64 (M : Int), .slice B1 us.length d1] 34)).alloc (.cells #[.int .i64 (m : Int)] 2)) (w.heap.size) 34 #[.int .i64 (M : Int), .slice B1 us.length d1] := ((Has.newAt (w := w) (e := 34) (cs := #[.int .i64 (M : Int), .slice B1 us.length d1]) (k := w.heap.size) (by simp)).alloc _)
  have b1 : Has ((w.alloc (.cells #[.int .i64 (M : Int), .slice B1 us.length d1] 34)).alloc (.cells #[.int .i64 (m : Int)] 2)) (w.heap.size + 1) 2 #[.int .i64 (m : Int)] := (Has.newAt (w := (w.alloc (.cells #[.int .i64 (M : Int), .slice B1 us.length d1] 34))) (e := 2) (cs := #[.int .i64 (m : Int)]) (k := w.heap.size + 1) (by simp))
  have hml := mappedList_any B1 us d1 104 #[.pointer (some ⟨w.heap.size + 1, 0, none⟩), .pointer (some ⟨w.heap.size, 0, none⟩)] (fun x => prinX M us m x) ((w.alloc (.cells #[.int .i64 (M : Int), .slice B1 us.length d1] 34)).alloc (.cells #[.int .i64 (m : Int)] 2)) (hX.ex e0) (by omega)
    (enters_of Try.func104 (by kernel_rfl) rfl)
    (fun W' he' j hj => by
      obtain ⟨g1, g2⟩ := im_eq hr hj
      rw [g1]
      exact pmc_ex w.heap.size (w.heap.size + 1) M m (im us j) us.length d1 B1 W' (b0.ex he') (b1.ex he') hM2 hM12 g2 hm)
  have HML : Hid (Calls Try.prog 83 #[.slice B1 us.length d1, .func (.func 104) #[] #[.pointer (some ⟨w.heap.size + 1, 0, none⟩), .pointer (some ⟨w.heap.size, 0, none⟩)]] ((w.alloc (.cells #[.int .i64 (M : Int), .slice B1 us.length d1] 34)).alloc (.cells #[.int .i64 (m : Int)] 2)) fun e w' => ∃ C0 e0, e = .returned (.slice C0 (prinL us.length M us m).length e0) ∧ Ex ((w.alloc (.cells #[.int .i64 (M : Int), .slice B1 us.length d1] 34)).alloc (.cells #[.int .i64 (m : Int)] 2)) w' ∧ OwnL w' (((w.alloc (.cells #[.int .i64 (M : Int), .slice B1 us.length d1] 34)).alloc (.cells #[.int .i64 (m : Int)] 2))).heap.size w'.heap.size C0 (prinL us.length M us m)) := Lib.hid hml
  have HE0 := Lib.hid e0
  have c0 := b0.cell 1
  clear hml hX hr
  go_enter Try.func66, Try.ntmps66
  go_wp2_with fail
  generalize ((w.alloc (.cells #[.int .i64 (M : Int), .slice B1 us.length d1] 34)).alloc (.cells #[.int .i64 (m : Int)] 2)) = W0 at *
  refine HML.out.mono ?_
  rintro e w' ⟨C0, e0, rfl, he1, ho⟩
  have HO := Lib.hid ho
  have HE1 := Lib.hid he1
  clear ho he1
  go_wp2_with fail
  go_ret
  exact ⟨C0, e0, rfl, HE0.out.trans HE1.out, HO.out.mono HE0.out.size (Nat.le_refl _) HO.out.le⟩

/-- The code of a group, a module and a number. -/
noncomputable def pmC (t : List (List Int)) (m : Int) (us : List Int) (p : Int) : Int := if gmB t m us = true then (if inB p 0 (m - 1) = true then 0 else 2) else 1
noncomputable def yPrincipalMap0 (t : List (List Int)) (m : Int) (us : List Int) (p : Int) : List Int := if pmC t m us p = 0 then prinL t.length m.toNat us p.toNat else []
noncomputable def qPrincipalMap1 (t : List (List Int)) (m : Int) (us : List Int) (p : Int) : Int := pmC t m us p
section
variable {t : List (List Int)} {m p : Int} {M P : Nat} {us : List Int}
theorem pm_mod (h : gmB t m us = false) : yPrincipalMap0 t m us p = [] ∧ qPrincipalMap1 t m us p = 1 := by
  have hc : pmC t m us p = 1 := by simp [pmC, h]
  exact ⟨by rw [yPrincipalMap0, hc]; rfl, hc⟩
theorem pm_out (h : gmB t m us = true) (h2 : inB p 0 (m - 1) = false) : yPrincipalMap0 t m us p = [] ∧ qPrincipalMap1 t m us p = 2 := by
  have hc : pmC t m us p = 2 := by simp [pmC, h, h2]
  exact ⟨by rw [yPrincipalMap0, hc]; rfl, hc⟩
theorem pm_yes (h : gmB t (M : Int) us = true) (h2 : inB (P : Int) 0 ((M : Int) - 1) = true) : yPrincipalMap0 t (M : Int) us (P : Int) = prinL t.length M us P ∧ qPrincipalMap1 t (M : Int) us (P : Int) = 0 := by
  have hc : pmC t (M : Int) us (P : Int) = 0 := by simp [pmC, h, h2]
  exact ⟨by rw [yPrincipalMap0, hc, if_pos rfl, Int.toNat_natCast, Int.toNat_natCast], hc⟩
theorem principalMap_small0 (t : List (List Int)) (m : Int) (us : List Int) (p : Int) : (yPrincipalMap0 t m us p).length ≤ 1048576 := by
  unfold yPrincipalMap0
  split
  · rename_i h
    have hg : gmB t m us = true := by
      unfold pmC at h
      split at h
      · assumption
      · cases h
    obtain ⟨M, _, hF⟩ := gmB_f hg
    have := hF.g.n8
    rw [prinL_len]
    omega
  · simp
end

set_option maxRecDepth 100000 in
set_option maxHeartbeats 4000000 in
theorem specPrincipalMap_ex (t0 : List (List Int)) (m1 : Int) (t1 : List Int) (m2 : Int) : ∀ (B0 : Option Addr) (d0 : Nat) (B1 : Option Addr) (d1 : Nat) (W : World), RwsW W B0 t0 → IntsW W B1 t1 → SmallT t0 → t1.length ≤ 1048576 →
    Calls Try.prog 25 #[.agg #[.slice B0 t0.length d0], .agg #[.int .i64 m1, .slice B1 t1.length d1], .int .i64 m2] W fun e W' => ∃ (C0 : Option Addr) (e0 : Nat), e = .returned (.tuple #[.slice C0 (yPrincipalMap0 t0 m1 t1 m2).length e0, .int .i64 (qPrincipalMap1 t0 m1 t1 m2)]) ∧ Ex W W' ∧ OwnL W' W.heap.size W'.heap.size C0 (yPrincipalMap0 t0 m1 t1 m2) := by
  intro B0 d0 B1 d1 w hR hX hs hu
  have e0 : Ex w ((w.alloc (.cells #[.slice B0 t0.length d0] 32)).alloc (.cells #[.int .i64 m1, .slice B1 t1.length d1] 34)) := ((Ex.refl w).alloc _).alloc _
  have b0 : Has ((w.alloc (.cells #[.slice B0 t0.length d0] 32)).alloc (.cells #[.int .i64 m1, .slice B1 t1.length d1] 34)) (w.heap.size) 32 #[.slice B0 t0.length d0] := ((Has.newAt (w := w) (e := 32) (cs := #[.slice B0 t0.length d0]) (k := w.heap.size) (by simp)).alloc _)
  have b1 : Has ((w.alloc (.cells #[.slice B0 t0.length d0] 32)).alloc (.cells #[.int .i64 m1, .slice B1 t1.length d1] 34)) (w.heap.size + 1) 34 #[.int .i64 m1, .slice B1 t1.length d1] := (Has.newAt (w := (w.alloc (.cells #[.slice B0 t0.length d0] 32))) (e := 34) (cs := #[.int .i64 m1, .slice B1 t1.length d1]) (k := w.heap.size + 1) (by simp))
  have HE0 := Lib.hid e0
  have HI := Lib.hid (l01Is_ex B0 t0 d0 _ (hR.ex e0) hs)
  have HR := Lib.hid (hR.ex e0)
  have HX := Lib.hid (hX.ex e0)
  clear hR hX
  cases hg : grpB t0 with
  | false =>
    rw [hg] at HI
    have HQ := Lib.hid (pm_mod (p := m2) (show gmB t0 m1 t1 = false by rw [gmB, hg]; rfl))
    clear hg
    have c0 := b0.cell 0
    go_enter Try.func25, Try.ntmps25
    go_wp2_with fail
    generalize ((w.alloc (.cells #[.slice B0 t0.length d0] 32)).alloc (.cells #[.int .i64 m1, .slice B1 t1.length d1] 34)) = W0 at *
    refine HI.out.mono ?_
    rintro e W1 ⟨rfl, he1⟩
    go_wp2_with fail
    go_ret2
    exact ⟨none, 0, by rw [HQ.out.1, HQ.out.2]; rfl, HE0.out.trans he1, by rw [HQ.out.1]; exact OwnL.nil _ _ _ (Nat.le_refl _)⟩
  | true =>
    rw [hg] at HI
    have hgr := grpB_iff.1 hg
    have HM := Lib.hid (fun (w' : World) (he : Ex ((w.alloc (.cells #[.slice B0 t0.length d0] 32)).alloc (.cells #[.int .i64 m1, .slice B1 t1.length d1] 34)) w') => l02Is_ex B0 B1 t0 m1 t1 d0 d1 w' (HR.out.ex he) (HX.out.ex he) hgr hu)
    cases hmd : modB t0 m1 t1 with
    | false =>
      rw [hmd] at HM
      have HQ := Lib.hid (pm_mod (p := m2) (show gmB t0 m1 t1 = false by rw [gmB, hmd, Bool.and_false]))
      clear hmd hgr hg
      go_enter Try.func25, Try.ntmps25
      go_wp2_with fail
      generalize ((w.alloc (.cells #[.slice B0 t0.length d0] 32)).alloc (.cells #[.int .i64 m1, .slice B1 t1.length d1] 34)) = W0 at *
      refine HI.out.mono ?_
      rintro e W1 ⟨rfl, he1⟩
      have c0 := (b0.ex he1).cell 0
      have c1 := (b1.ex he1).cell 0
      have c1' := (b1.ex he1).cell 1
      go_wp2_with fail
      refine (HM.out W1 he1).mono ?_
      rintro e W2 ⟨rfl, he2⟩
      go_wp2_with fail
      go_ret2
      exact ⟨none, 0, by rw [HQ.out.1, HQ.out.2]; rfl, HE0.out.trans (he1.trans he2), by rw [HQ.out.1]; exact OwnL.nil _ _ _ (Nat.le_refl _)⟩
    | true =>
      rw [hmd] at HM
      have hgm : gmB t0 m1 t1 = true := by rw [gmB, hg, hmd]; rfl
      obtain ⟨M, rfl, hMF⟩ := gmB_f hgm
      have hm2 := hMF.m2
      have hm12 := hMF.m12
      have hw : IntKind.i64.wrap ((M : Int) - 1) = (M : Int) - 1 := IntWalk.i64_in _ (by omega)
      have HIN := Lib.hid (fun W => l01In_e m2 0 ((M : Int) - 1) W)
      cases hib : inB m2 0 ((M : Int) - 1) with
      | false =>
        rw [hib] at HIN
        have HQ := Lib.hid (pm_out hgm hib)
        clear hmd hgr hg hgm hMF hib
        go_enter Try.func25, Try.ntmps25
        go_wp2_with fail
        generalize ((w.alloc (.cells #[.slice B0 t0.length d0] 32)).alloc (.cells #[.int .i64 (M : Int), .slice B1 t1.length d1] 34)) = W0 at *
        refine HI.out.mono ?_
        rintro e W1 ⟨rfl, he1⟩
        have c0 := (b0.ex he1).cell 0
        have c1 := (b1.ex he1).cell 0
        have c1' := (b1.ex he1).cell 1
        go_wp2_with fail
        refine (HM.out W1 he1).mono ?_
        rintro e W2 ⟨rfl, he2⟩
        have he12 := he1.trans he2
        have c12 := (b1.ex he12).cell 0
        clear c0 c1 c1'
        go_wp2_with fail
        refine (HIN.out _).mono ?_
        rintro e W3 ⟨rfl, he3⟩
        go_wp2_with fail
        go_ret2
        exact ⟨none, 0, by rw [HQ.out.1, HQ.out.2]; rfl, HE0.out.trans (he12.trans he3), by rw [HQ.out.1]; exact OwnL.nil _ _ _ (Nat.le_refl _)⟩
      | true =>
        rw [hib] at HIN
        obtain ⟨hp0, hp1⟩ := inB_true hib
        obtain ⟨P, rfl⟩ : ∃ P : Nat, m2 = (P : Int) := ⟨m2.toNat, by omega⟩
        have HQ := Lib.hid (pm_yes hgm hib)
        have HPR := Lib.hid (fun W (he : Ex _ W) => l05Principal_any B0 B1 t0 M P t1 d0 d1 W (HX.out.ex he) hMF (by omega))
        obtain ⟨ys, hys⟩ : ∃ ys, prinL t0.length M t1 P = ys := ⟨_, rfl⟩
        rw [hys] at HQ HPR
        clear hmd hgr hg hgm hMF hib hys
        go_enter Try.func25, Try.ntmps25
        go_wp2_with fail
        generalize ((w.alloc (.cells #[.slice B0 t0.length d0] 32)).alloc (.cells #[.int .i64 (M : Int), .slice B1 t1.length d1] 34)) = W0 at *
        refine HI.out.mono ?_
        rintro e W1 ⟨rfl, he1⟩
        have c0 := (b0.ex he1).cell 0
        have c1 := (b1.ex he1).cell 0
        have c1' := (b1.ex he1).cell 1
        go_wp2_with fail
        refine (HM.out W1 he1).mono ?_
        rintro e W2 ⟨rfl, he2⟩
        have he12 := he1.trans he2
        have c12 := (b1.ex he12).cell 0
        clear c0 c1 c1'
        go_wp2_with fail
        refine (HIN.out _).mono ?_
        rintro e W3 ⟨rfl, he3⟩
        have he13 := he12.trans he3
        have c03 := (b0.ex he13).cell 0
        have c13 := (b1.ex he13).cell 0
        have c13' := (b1.ex he13).cell 1
        clear c12
        go_wp2_with fail
        refine (HPR.out _ he13).mono ?_
        rintro e W4 ⟨A', n', rfl, he4, ho⟩
        have HO := Lib.hid ho
        have HE4 := Lib.hid (HE0.out.trans (he13.trans he4))
        have hsz := (HE0.out.trans he13).size
        clear ho he4
        go_wp2_with fail
        go_ret2
        exact ⟨A', n', by rw [HQ.out.1, HQ.out.2]; rfl, HE4.out, by rw [HQ.out.1]; exact HO.out.mono hsz (Nat.le_refl _) HO.out.le⟩

set_option maxRecDepth 100000 in
set_option maxHeartbeats 4000000 in
theorem implPrincipalMap_ex (t0 : List (List Int)) (m1 : Int) (t1 : List Int) (m2 : Int) : ∀ (B0 : Option Addr) (d0 : Nat) (B1 : Option Addr) (d1 : Nat) (W : World), RwsW W B0 t0 → IntsW W B1 t1 → SmallT t0 → t1.length ≤ 1048576 →
    Calls Try.prog 26 #[.agg #[.slice B0 t0.length d0], .agg #[.int .i64 m1, .slice B1 t1.length d1], .int .i64 m2] W fun e W' => ∃ (C0 : Option Addr) (e0 : Nat), e = .returned (.tuple #[.slice C0 (yPrincipalMap0 t0 m1 t1 m2).length e0, .int .i64 (qPrincipalMap1 t0 m1 t1 m2)]) ∧ Ex W W' ∧ OwnL W' W.heap.size W'.heap.size C0 (yPrincipalMap0 t0 m1 t1 m2) := by
  intro B0 d0 B1 d1 w hR hX hs hu
  have e0 : Ex w ((w.alloc (.cells #[.slice B0 t0.length d0] 32)).alloc (.cells #[.int .i64 m1, .slice B1 t1.length d1] 34)) := ((Ex.refl w).alloc _).alloc _
  have b0 : Has ((w.alloc (.cells #[.slice B0 t0.length d0] 32)).alloc (.cells #[.int .i64 m1, .slice B1 t1.length d1] 34)) (w.heap.size) 32 #[.slice B0 t0.length d0] := ((Has.newAt (w := w) (e := 32) (cs := #[.slice B0 t0.length d0]) (k := w.heap.size) (by simp)).alloc _)
  have b1 : Has ((w.alloc (.cells #[.slice B0 t0.length d0] 32)).alloc (.cells #[.int .i64 m1, .slice B1 t1.length d1] 34)) (w.heap.size + 1) 34 #[.int .i64 m1, .slice B1 t1.length d1] := (Has.newAt (w := (w.alloc (.cells #[.slice B0 t0.length d0] 32))) (e := 34) (cs := #[.int .i64 m1, .slice B1 t1.length d1]) (k := w.heap.size + 1) (by simp))
  have HE0 := Lib.hid e0
  have HC := Lib.hid (isModule_ex B0 B1 t0 m1 t1 d0 d1 _ (hR.ex e0) (hX.ex e0) hs hu)
  have HX := Lib.hid (hX.ex e0)
  clear hR hX
  cases hg : gmB t0 m1 t1 with
  | false =>
    rw [hg] at HC
    have HQ := Lib.hid (pm_mod (p := m2) hg)
    clear hg
    go_enter Try.func26, Try.ntmps26
    go_wp2_with fail
    generalize ((w.alloc (.cells #[.slice B0 t0.length d0] 32)).alloc (.cells #[.int .i64 m1, .slice B1 t1.length d1] 34)) = W0 at *
    refine HC.out.mono ?_
    rintro e W1 ⟨rfl, he1⟩
    go_wp2_with fail
    go_ret2
    exact ⟨none, 0, by rw [HQ.out.1, HQ.out.2]; rfl, HE0.out.trans he1, by rw [HQ.out.1]; exact OwnL.nil _ _ _ (Nat.le_refl _)⟩
  | true =>
    rw [hg] at HC
    obtain ⟨M, rfl, hMF⟩ := gmB_f hg
    have hm2 := hMF.m2
    have hm12 := hMF.m12
    cases hib : inB m2 0 ((M : Int) - 1) with
    | false =>
      have HQ := Lib.hid (pm_out hg hib)
      have ho := inB_false hib
      by_cases hneg : m2 < 0
      · clear hg hMF hib ho
        go_enter Try.func26, Try.ntmps26
        go_wp2_with fail
        generalize ((w.alloc (.cells #[.slice B0 t0.length d0] 32)).alloc (.cells #[.int .i64 (M : Int), .slice B1 t1.length d1] 34)) = W0 at *
        refine HC.out.mono ?_
        rintro e W1 ⟨rfl, he1⟩
        go_wp2_with fail
        go_ret2
        exact ⟨none, 0, by rw [HQ.out.1, HQ.out.2]; rfl, HE0.out.trans he1, by rw [HQ.out.1]; exact OwnL.nil _ _ _ (Nat.le_refl _)⟩
      · have hge : (M : Int) ≤ m2 := by omega
        clear hg hMF hib ho
        go_enter Try.func26, Try.ntmps26
        go_wp2_with fail
        generalize ((w.alloc (.cells #[.slice B0 t0.length d0] 32)).alloc (.cells #[.int .i64 (M : Int), .slice B1 t1.length d1] 34)) = W0 at *
        refine HC.out.mono ?_
        rintro e W1 ⟨rfl, he1⟩
        have c1 := (b1.ex he1).cell 0
        go_wp2_with fail
        go_ret2
        exact ⟨none, 0, by rw [HQ.out.1, HQ.out.2]; rfl, HE0.out.trans he1, by rw [HQ.out.1]; exact OwnL.nil _ _ _ (Nat.le_refl _)⟩
    | true =>
      obtain ⟨hp0, hp1⟩ := inB_true hib
      obtain ⟨P, rfl⟩ : ∃ P : Nat, m2 = (P : Int) := ⟨m2.toNat, by omega⟩
      have HQ := Lib.hid (pm_yes hg hib)
      have hPM : P < M := by omega
      have hn8 := hMF.g.n8
      have HPR := Lib.hid (fun W (he : Ex _ W) => principalMap_any B1 M P t1 d1 W (HX.out.ex he) hm2 hm12 hMF.rng (by rw [hMF.len]; omega) hPM)
      rw [← hMF.len] at HQ
      obtain ⟨ys, hys⟩ : ∃ ys, prinL t1.length M t1 P = ys := ⟨_, rfl⟩
      rw [hys] at HQ HPR
      have hneg : ¬ (P : Int) < 0 := by omega
      have hge : ¬ M ≤ P := by omega
      clear hg hMF hib hys hp0 hp1
      go_enter Try.func26, Try.ntmps26
      go_wp2_with fail
      generalize ((w.alloc (.cells #[.slice B0 t0.length d0] 32)).alloc (.cells #[.int .i64 (M : Int), .slice B1 t1.length d1] 34)) = W0 at *
      refine HC.out.mono ?_
      rintro e W1 ⟨rfl, he1⟩
      have c1 := (b1.ex he1).cell 0
      have c1' := (b1.ex he1).cell 1
      go_wp2_with fail
      refine (HPR.out _ he1).mono ?_
      rintro e W4 ⟨A', n', rfl, he4, ho⟩
      have HO := Lib.hid ho
      have HE4 := Lib.hid (HE0.out.trans (he1.trans he4))
      have hsz := (HE0.out.trans he1).size
      clear ho he4
      go_wp2_with fail
      go_ret2
      exact ⟨A', n', by rw [HQ.out.1, HQ.out.2]; rfl, HE4.out, by rw [HQ.out.1]; exact HO.out.mono hsz (Nat.le_refl _) HO.out.le⟩

end Go.Proofs.Ytfafccldngekgaa
