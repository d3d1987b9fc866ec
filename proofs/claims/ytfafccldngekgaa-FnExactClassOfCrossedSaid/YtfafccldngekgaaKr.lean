/- ClassOfCrossed: the program's contract, by a sort's contract. -/
import Derived.Test.YtfafccldngekgaaKo
import Derived.Test.YtfafccldngekgaaKq
import Derived.Test.YtfafccldngekgaaRp
namespace Go.Proofs.Ytfafccldngekgaa
open Go.RowKit Go.Shelf

set_option maxRecDepth 100000 in
set_option maxHeartbeats 4000000 in
theorem implClassOfCrossed_of (hsort : SortSaid) (t0 : List (List Int)) (m1 : Int) (t1 : List Int) (t2 : List Int) : ∀ (B0 : Option Addr) (d0 : Nat) (B1 : Option Addr) (d1 : Nat) (B2 : Option Addr) (d2 : Nat) (W : World), RwsW W B0 t0 → IntsW W B1 t1 → IntsW W B2 t2 → SmallT t0 → t1.length ≤ 1048576 → t2.length ≤ 1048576 →
    Calls Try.prog 53 #[.agg #[.slice B0 t0.length d0], .agg #[.int .i64 m1, .slice B1 t1.length d1], .slice B2 t2.length d2] W fun e W' => ∃ (C0 : Option Addr) (e0 : Nat), e = .returned (.tuple #[.slice C0 (yClassOfCrossed0 t0 m1 t1 t2).length e0, .int .i64 (qClassOfCrossed1 t0 m1 t1 t2)]) ∧ Ex W W' ∧ OwnL W' W.heap.size W'.heap.size C0 (yClassOfCrossed0 t0 m1 t1 t2) := by
  intro B0 d0 B1 d1 B2 d2 w hR hX hF hs hu hf
  have e0 : Ex w ((w.alloc (.cells #[.slice B0 t0.length d0] 32)).alloc (.cells #[.int .i64 m1, .slice B1 t1.length d1] 34)) := ((Ex.refl w).alloc _).alloc _
  have b0 : Has ((w.alloc (.cells #[.slice B0 t0.length d0] 32)).alloc (.cells #[.int .i64 m1, .slice B1 t1.length d1] 34)) (w.heap.size) 32 #[.slice B0 t0.length d0] := ((Has.newAt (w := w) (e := 32) (cs := #[.slice B0 t0.length d0]) (k := w.heap.size) (by simp)).alloc _)
  have b1 : Has ((w.alloc (.cells #[.slice B0 t0.length d0] 32)).alloc (.cells #[.int .i64 m1, .slice B1 t1.length d1] 34)) (w.heap.size + 1) 34 #[.int .i64 m1, .slice B1 t1.length d1] := (Has.newAt (w := (w.alloc (.cells #[.slice B0 t0.length d0] 32))) (e := 34) (cs := #[.int .i64 m1, .slice B1 t1.length d1]) (k := w.heap.size + 1) (by simp))
  have HC := Lib.hid (crossedCode_ex B0 B1 B2 t0 m1 t1 t2 d0 d1 d2 _ (hR.ex e0) (hX.ex e0) (hF.ex e0) hs hu hf)
  have HE0 := Lib.hid e0
  by_cases hg : crC t0 m1 t1 t2 = 0
  · obtain ⟨M, rfl, hm, hl, hr⟩ := crC_zero hg
    obtain ⟨iS, hi, hi0, hi1, hi2⟩ := info_parts infoS
    have HQ : Hid (yClassOfCrossed0 t0 (M : Int) t1 t2 = cls M t1 t2 M ∧ qClassOfCrossed1 t0 (M : Int) t1 t2 = 0) := Lib.hid ⟨by rw [yClassOfCrossed0, if_pos hg, Int.toNat_natCast], hg⟩
    rw [hg] at HC
    have hM2 := hm.m2
    have hM12 := hm.m12
    have hN8 := hm.g.n8
    have hlu : t2.length = t1.length := by rw [hl, hm.len]
    have hf8 : t2.length ≤ 8 := by omega
    have HPM := Lib.hid (fun W (he : Ex w W) => principalMaps_of hsort B1 M t1 d1 W (hX.ex he) hM2 hM12 hm.rng (by omega))
    have HF := Lib.hid hF
    have HLU := Lib.hid hlu
    have HFR := Lib.hid (fun i (hi : i < t2.length) => (by obtain ⟨h1, h2⟩ := hr i hi; exact ⟨by omega, by omega⟩ : -1000 ≤ nth t2 i ∧ nth t2 i ≤ 1000))
    have HZ := Lib.hid (shL_zero (us := t1) hr (fun x _ => by simp [prinX]))
    clear hR hX hF hs hu hf hg hr hl hlu hsort hm
    go_enter Try.func53, Try.ntmps53
    go_wp2_with fail
    generalize ((w.alloc (.cells #[.slice B0 t0.length d0] 32)).alloc (.cells #[.int .i64 (M : Int), .slice B1 t1.length d1] 34)) = W0 at *
    refine HC.out.mono ?_
    rintro e W1 ⟨rfl, he1⟩
    have HE1 := Lib.hid (HE0.out.trans he1)
    have HB1 := Lib.hid (b1.ex he1)
    have c10 := HB1.out.cell 0
    have c11 := HB1.out.cell 1
    clear b0 b1 e0 he1
    go_wp2_with fail
    refine (HPM.out W1 HE1.out).mono ?_
    rintro e W2 ⟨b, kk, cap, cs, G, C, idx, rfl, hP⟩
    have HP := Lib.hid hP
    have HE2 := Lib.hid (HE1.out.trans hP.ex)
    have HB2 := Lib.hid (HB1.out.ex hP.ex)
    have hkk := hP.le
    have hkk0 := hP.pos
    have hblt := hP.has.lt
    clear hP c10 c11
    go_wp2_with fail
    go_loopw [9, 22] (fun v i wr => ∃ (q : Nat) (G' C' : Nat → Nat), q ≤ kk ∧ i = .int .i64 (q : Int) ∧ Hid (Ex W2 wr) ∧ Hid (wr.ownsRow W2.heap.size 25 1 v q (rowVs t2.length q G' C')) ∧ Hid (RowsAt wr W2.heap.size t2.length (fun i p => wtX M t2 1 (prinL t1.length M t1 (idx i)) p) q G' C')) (fun _ i _ => kk - (intOf i).toNat)
    case atStart => exact ⟨0, id, id, Nat.zero_le _, rfl, Lib.hid (Ex.refl _), Lib.hid (World.ownsRow_nil _ _ _ _), Lib.hid ⟨fun i hi => by omega, fun i hi => by omega, fun i j hi => by omega⟩⟩
    case round =>
      obtain ⟨q, G', C', hq, rfl, HX, HO, HR⟩ := hrel
      have hq0 : (0 : Int) ≤ (q : Int) := by omega
      by_cases hlt : q < kk
      · have hqn : (q : Int) < (kk : Int) := by omega
        have cq : wr.cell? ⟨b, q, none⟩ = some (.slice (some ⟨G (idx q), 0, none⟩) t1.length (C (idx q))) := (HX.out.below.cell (p := ⟨b, q, none⟩) hblt).trans ((HP.out.has.cell q).trans (HP.out.at_ q hlt).2)
        have cM := (HB2.out.ex HX.out).cell 0
        have hWT := withTimes_has B2 (some ⟨G (idx q), 0, none⟩) t2 (prinL t1.length M t1 (idx q)) M 1 d2 (C (idx q)) wr (HF.out.ex (HE2.out.trans HX.out)) (prin_ints ((HP.out.rows.has (idx q) (HP.out.at_ q hlt).1).ex HX.out)) (by rw [prinL_len, HLU.out]; exact Nat.le_refl _) (by omega) (by omega) hM12 (by decide) (by decide) HFR.out (fun i hi => by
          rw [nth_prinL (by rw [← HLU.out]; exact hi)]
          have := prinX_in (show 0 < M by omega) t1 (idx q) i
          omega)
        rw [prinL_len] at hWT
        have HWT := Lib.hid hWT
        clear hWT
        go_wp2_with fail
        refine HWT.out.mono ?_
        rintro e W3 ⟨g, cg, rfl, he3, hg3, hh3⟩
        have HX3 := Lib.hid (HX.out.trans he3)
        have HO3 := Lib.hid (own_below HO.out he3)
        have HR3 := Lib.hid ((HR.out.ex he3).snoc g cg (Nat.le_trans HX.out.size hg3) hh3 (fun i hi e => by have := (HR.out.has i hi).lt; omega))
        clear he3 hh3 cq cM
        go_wp2_with (at_builtin; refine wpList_append_own _ rfl _ _ 22 rfl W2.heap.size 25 iS (.slice none 0 0) 1 24 Try.underlying22 hi hi0 hi1 hi2 rfl (by decide) _ _ _ rfl (HO3.out.alloc _) ⟨W3.heap.size, 0, none⟩ 1 1 [.slice (some ⟨g, 0, none⟩) t2.length cg] rfl rfl (cell_one_new _ _ _) (by simp [Value.oneCell']) (by unfold maxLen; omega) (by omega) (by have := HX3.out.size; simp; omega) ?_; intro v' w3 hown3 hgrow3 _; have HX4 := Lib.hid (Ex.grewR (HX3.out.alloc _) (HO3.out.alloc _) (Nat.le_refl _) hgrow3); have HR4 := Lib.hid (RowsAt.grew (HR3.out.ex (Ex.new W3 _)) (HO3.out.alloc _) hgrow3); have HO4 := Lib.hid hown3; clear hown3 hgrow3)
        go_roundw
        case rel => exact ⟨q + 1, _, _, by omega, by go_num, HX4, by rw [rowVs_snoc]; exact HO4, HR4⟩
        case measure => simp [intOf]; omega
      · obtain rfl : q = kk := by omega
        obtain ⟨g, c, cs2, rfl, hlo, hnc, hhas, hget⟩ := row_block HO.out hkk0
        have HMF := Lib.hid (minFunc_any g 0 q c (fun i => some ⟨G' i, 0, none⟩) (fun i => wtL M t2 1 (prinL t1.length M t1 (idx i))) C' wr hkk0 (by omega) (fun i hi => by
          rw [Nat.zero_add, hhas.cell, hget i hi, rowVs_get hi]
          simp only [wtL_len]) hhas.lt (fun i hi => by
          refine (OwnL.of_has (n := t2.length) (lo := G' i) (e := 2) ?_ (wtL_len ..).symm (Nat.le_refl _)).ints
          rw [tab_congr (g := fun p => .int .i64 (wtX M t2 1 (prinL t1.length M t1 (idx i)) p)) (fun p hp => by simp [nth, wtL, hp])]
          exact HR.out.has i hi) (fun i _ => by rw [wtL_len]; omega))
        clear hlo hnc hhas hget
        go_wp2_with fail
        refine HMF.out.mono ?_
        rintro e W4 ⟨k, hk, rfl, he4, hmin⟩
        have hcl : wtL M t2 1 (prinL t1.length M t1 (idx k)) = cls M t1 t2 M := by
          rw [shL_wt HLU.out]
          refine cls_eq (by omega) HZ.out (HP.out.at_ k hk).1 fun m hm => ?_
          obtain ⟨l, hl, he⟩ := HP.out.cover m hm
          have h := hmin l hl
          simp only [shL_wt HLU.out] at h
          rw [← shL_wt HLU.out, he, shL_wt HLU.out]
          exact h
        have HCL := Lib.hid hcl
        have HE4 := Lib.hid ((HE2.out.trans HX.out).trans he4)
        have HH := Lib.hid ((HR.out.has k hk).ex he4)
        have HL2 := Lib.hid (Nat.le_trans HE2.out.size (HR.out.lo_le k hk))
        clear hcl hmin he4
        go_wp2_with fail
        go_ret2
        refine ⟨some ⟨G' k, 0, none⟩, C' k, by rw [HQ.out.1, HQ.out.2, ← HCL.out]; rfl, HE4.out, ?_⟩
        rw [HQ.out.1, ← HCL.out]
        refine OwnL.of_has (n := t2.length) (e := 2) ?_ (wtL_len ..).symm HL2.out
        rw [tab_congr (g := fun p => .int .i64 (wtX M t2 1 (prinL t1.length M t1 (idx k)) p)) (fun p hp => by simp [nth, wtL, hp])]
        exact HH.out
  · have HQ : Hid (yClassOfCrossed0 t0 m1 t1 t2 = [] ∧ qClassOfCrossed1 t0 m1 t1 t2 = crC t0 m1 t1 t2) := Lib.hid ⟨by rw [yClassOfCrossed0, if_neg hg], rfl⟩
    obtain ⟨z, hz⟩ : ∃ z, crC t0 m1 t1 t2 = z := ⟨_, rfl⟩
    rw [hz] at HC HQ hg
    have hzb : (z != 0) = true := by simpa using hg
    clear hR hX hF hg hz
    go_enter Try.func53, Try.ntmps53
    go_wp2_with fail
    generalize ((w.alloc (.cells #[.slice B0 t0.length d0] 32)).alloc (.cells #[.int .i64 m1, .slice B1 t1.length d1] 34)) = W0 at *
    refine HC.out.mono ?_
    rintro e W1 ⟨rfl, he1⟩
    go_wp2_with fail
    go_ret2
    exact ⟨none, 0, by rw [HQ.out.1, HQ.out.2]; rfl, HE0.out.trans he1, by rw [HQ.out.1]; exact OwnL.nil _ _ _ (Nat.le_refl _)⟩

end Go.Proofs.Ytfafccldngekgaa
