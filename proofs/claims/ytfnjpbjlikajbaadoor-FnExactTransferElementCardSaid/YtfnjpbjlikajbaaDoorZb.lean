/- TransferElement: the program's contract. -/
import Derived.Test.YtfnjpbjlikajbaaDoorZa
import Derived.Test.YtfnjpbjlikajbaaDoorUv
import Derived.Test.YtfnjpbjlikajbaaDoorIa
namespace Go.Proofs.YtfnjpbjlikajbaaDoor
open Go.RowKit

theorem one_ints {w : World} {k : Nat} {x : Int} (h : Has w k 2 #[.int .i64 x]) : IntsW w (some ⟨k, 0, none⟩) [x] := .inr ⟨k, 0, rfl, h.lt, fun j hj => by
  obtain rfl : j = 0 := by simp at hj; exact hj
  exact h.cell 0⟩
theorem grT_small {t : List (List Int)} {xs : List Int} (h : SubX t xs) : SmallT (grT t xs) := by
  have hg := h.grp
  refine ⟨by have := hg.n8; omega, fun i hi => ?_⟩
  rw [hg.sq i hi]
  have := hg.n8
  omega

set_option maxRecDepth 100000 in
set_option maxHeartbeats 4000000 in
theorem implTE_no (t0 : List (List Int)) (t1 : List Int) (m2 : Int) (hz : ¬ sgC t0 t1 [m2] = 0) : ∀ (B0 : Option Addr) (d0 : Nat) (B1 : Option Addr) (d1 : Nat) (W : World), RwsW W B0 t0 → IntsW W B1 t1 → SmallT t0 → t1.length ≤ 1048576 → TabL W →
    Calls Tryd.prog 17 #[.agg #[.slice B0 t0.length d0], .slice B1 t1.length d1, .int .i64 m2] W fun e W' => e = .returned (.tuple #[.int .i64 (qTransferElement0 t0 t1 m2), .int .i64 (qTransferElement1 t0 t1 m2)]) ∧ Ex W W' := by
  intro B0 d0 B1 d1 w hR hX hs hu hT
  have e0 : Ex w ((w.alloc (.cells #[.slice B0 t0.length d0] 36)).alloc (.cells #[.int .i64 m2] 2)) := ((Ex.refl w).alloc _).alloc _
  have b0 : Has ((w.alloc (.cells #[.slice B0 t0.length d0] 36)).alloc (.cells #[.int .i64 m2] 2)) (w.heap.size) 36 #[.slice B0 t0.length d0] := ((Has.newAt (w := w) (e := 36) (cs := #[.slice B0 t0.length d0]) (k := w.heap.size) (by simp)).alloc _)
  have b1 : Has ((w.alloc (.cells #[.slice B0 t0.length d0] 36)).alloc (.cells #[.int .i64 m2] 2)) (w.heap.size + 1) 2 #[.int .i64 m2] := (Has.newAt (w := (w.alloc (.cells #[.slice B0 t0.length d0] 36))) (e := 2) (cs := #[.int .i64 m2]) (k := w.heap.size + 1) (by simp))
  have HC := Lib.hid (subgroupCode_any B0 B1 (some ⟨w.heap.size + 1, 0, none⟩) t0 t1 [m2] d0 d1 1 _ (hR.ex e0) (hX.ex e0) (one_ints b1) hs hu (by simp) (hT.ex e0))
  have HE0 := Lib.hid e0
  have c0 := b0.cell 0
  obtain ⟨z, hzz⟩ : ∃ z, sgC t0 t1 [m2] = z := ⟨_, rfl⟩
  have HQ := Lib.hid (teo_no (teC_no hzz (hzz ▸ hz)) (hzz ▸ hz))
  rw [hzz] at HC hz
  have hzb : (z != 0) = true := by simpa using hz
  clear hz hzz hR hX hs hu hT b0 b1 e0
  go_enter Tryd.func17, Tryd.ntmps17
  go_wp2_with fail
  generalize ((w.alloc (.cells #[.slice B0 t0.length d0] 36)).alloc (.cells #[.int .i64 m2] 2)) = W0 at *
  refine HC.out.mono ?_
  rintro e W1 ⟨rfl, he1⟩
  go_wp2_with fail
  go_ret2
  exact ⟨by rw [HQ.out.1, HQ.out.2]; rfl, HE0.out.trans he1⟩

set_option maxRecDepth 100000 in
set_option maxHeartbeats 8000000 in
theorem implTE_yes (t0 : List (List Int)) (t1 : List Int) (m2 : Int) (hz : sgC t0 t1 [m2] = 0) : ∀ (B0 : Option Addr) (d0 : Nat) (B1 : Option Addr) (d1 : Nat) (W : World), RwsW W B0 t0 → IntsW W B1 t1 → SmallT t0 → t1.length ≤ 1048576 → TabL W →
    Calls Tryd.prog 17 #[.agg #[.slice B0 t0.length d0], .slice B1 t1.length d1, .int .i64 m2] W fun e W' => e = .returned (.tuple #[.int .i64 (qTransferElement0 t0 t1 m2), .int .i64 (qTransferElement1 t0 t1 m2)]) ∧ Ex W W' := by
  intro B0 d0 B1 d1 w hR hX hs hu hT
  have e0 : Ex w ((w.alloc (.cells #[.slice B0 t0.length d0] 36)).alloc (.cells #[.int .i64 m2] 2)) := ((Ex.refl w).alloc _).alloc _
  have b0 : Has ((w.alloc (.cells #[.slice B0 t0.length d0] 36)).alloc (.cells #[.int .i64 m2] 2)) (w.heap.size) 36 #[.slice B0 t0.length d0] := ((Has.newAt (w := w) (e := 36) (cs := #[.slice B0 t0.length d0]) (k := w.heap.size) (by simp)).alloc _)
  have b1 : Has ((w.alloc (.cells #[.slice B0 t0.length d0] 36)).alloc (.cells #[.int .i64 m2] 2)) (w.heap.size + 1) 2 #[.int .i64 m2] := (Has.newAt (w := (w.alloc (.cells #[.slice B0 t0.length d0] 36))) (e := 2) (cs := #[.int .i64 m2]) (k := w.heap.size + 1) (by simp))
  have HC := Lib.hid (subgroupCode_any B0 B1 (some ⟨w.heap.size + 1, 0, none⟩) t0 t1 [m2] d0 d1 1 _ (hR.ex e0) (hX.ex e0) (one_ints b1) hs hu (by simp) (hT.ex e0))
  have HE0 := Lib.hid e0
  have HB0 := Lib.hid b0
  have c0 := b0.cell 0
  obtain ⟨hgr, hbs, hel, -⟩ := sgC_zero hz
  have hsx := subX_code hz
  have hm3 : 0 ≤ m2 ∧ m2 < t0.length := of_decide_eq_true ((below1 t0.length m2).symm.trans hel)
  obtain ⟨m, rfl⟩ : ∃ m : Nat, m2 = (m : Int) := ⟨m2.toNat, by omega⟩
  have hm : m < t0.length := by omega
  rw [hz] at HC
  have HIN := Lib.hid (fun W (he : Ex w W) => inclusionOf_any B0 B1 t0 t1 d0 d1 W (hR.ex he) (hX.ex he) hsx)
  have hgs := grT_small hsx
  have hgl := grT_len t0 t1
  have HAB := Lib.hid (fun (CC : Option Addr) (n : Nat) W (h : RwsW W CC (grT t0 t1)) => implIsAbelian_ex (grT t0 t1) CC n W h hgs)
  rw [(ia_yes (grpB_iff.2 hsx.grp)).1, (ia_yes (grpB_iff.2 hsx.grp)).2, hgl] at HAB
  have hgT : grT t0 t1 = mkT t1.length t1.length (fun i j => (grV t0 t1 i j : Int)) := rfl
  have hot := fun (G R : Nat) (W : World) (hG : Has W G 2 (tab (t1.length * t1.length) fun p => .int .i64 (grV t0 t1 (p / t1.length) (p % t1.length) : Int))) (hR : Has W R 22 (rowsV G t1.length)) => (OwnT.of_block (lo := 0) (V := fun i j => (grV t0 t1 i j : Int)) hG hR (Nat.zero_le _) (Nat.zero_le _)).rws
  rw [← hgT] at hot
  have HOT := Lib.hid hot
  clear hot hgT
  have HLT := Lib.hid hs
  cases hab : abB (grT t0 t1) with
  | false =>
    have HQ := Lib.hid (teo_no (teC_ab hz hab) (by decide))
    rw [hab] at HAB
    obtain ⟨M, hM⟩ : ∃ M, t1.length = M := ⟨_, rfl⟩
    rw [hM] at HC HIN HOT HAB
    clear hz hR hX hs hu hT b0 b1 e0 hgr hbs hel hsx hm3 hm hgs hgl hab
    rw [hM]
    clear hM
    go_enter Tryd.func17, Tryd.ntmps17
    go_wp2_with fail
    generalize ((w.alloc (.cells #[.slice B0 t0.length d0] 36)).alloc (.cells #[.int .i64 (m : Int)] 2)) = W0 at *
    refine HC.out.mono ?_
    rintro e W1 ⟨rfl, he1⟩
    have HE1 := Lib.hid (HE0.out.trans he1)
    have c1 := (HB0.out.ex he1).cell 0
    clear c0
    go_wp2_with fail
    refine (HIN.out W1 HE1.out).mono ?_
    rintro e W2 ⟨G, R, rfl, he2, -, -, hG, hRR⟩
    have HE2 := Lib.hid ((HE1.out.trans he2).alloc (.cells #[.slice (some ⟨R, 0, none⟩) M M, .slice B0 t0.length d0, .slice B1 M d1] 64))
    have HRW := Lib.hid ((HOT.out G R W2 hG hRR).ex (Ex.new W2 (.cells #[.slice (some ⟨R, 0, none⟩) M M, .slice B0 t0.length d0, .slice B1 M d1] 64)))
    have hn := Has.new W2 64 #[.slice (some ⟨R, 0, none⟩) M M, .slice B0 t0.length d0, .slice B1 M d1]
    have n0 := hn.cell 0
    clear c1 hG hRR hn
    go_wp2_with fail
    refine (HAB.out _ M _ HRW.out).mono ?_
    rintro e W4 ⟨rfl, he4⟩
    have HE4 := Lib.hid (HE2.out.trans he4)
    go_wp2_with fail
    go_ret2
    exact ⟨by rw [HQ.out.1, HQ.out.2]; rfl, HE4.out⟩
  | true =>
    have HQ := Lib.hid (teo_yes (x := m) (teC_yes hz hab))
    rw [hab] at HAB
    have HCS := Lib.hid (fun (P A L : Option Addr) (p pc c c' : Nat) W (hR : RwsW W A t0) (hX : IntsW W L t1) (hT : TabL W) => cosets_any P A L p pc c c' t0 t1 W hR hX hsx hT)
    have HRR := Lib.hid (fun W (he : Ex w W) => And.intro (hR.ex he) (And.intro (hX.ex he) (hT.ex he)))
    have hSL := stepL_of hsx
    have HTB := Lib.hid (fun k (hk : k < (cosS t0 t1).fst.length) => trB_lt hsx hm hk)
    have HTP := Lib.hid (fun k (hk : k ≤ (cosS t0 t1).fst.length) => trP_lt hsx hm k hk)
    have hl8 : (cosS t0 t1).fst.length ≤ 8 := Nat.le_trans (cosS_b hgr hbs).len hgr.n8
    have HFS := Lib.hid (fun k (hk : k < (cosS t0 t1).fst.length) => ((cosS_b hgr hbs).lt _ (fstA_mem hk)))
    have hll : ((cosS t0 t1).fst.map fun x : Nat => (x : Int)).length = (cosS t0 t1).fst.length := List.length_map ..
    have hol : ((List.range t0.length).map fun x => ((cosS t0 t1).num x : Int)).length = t0.length := by simp
    have HC1 := Lib.hid (fun (Bi Br Bf Bp : Nat) (P A Lh O L : Option Addr) (p pc k ch c c1 c2 r : Nat) (W : World) hI hr0 (hF : Has W Bf 22 #[.slice L (cosS t0 t1).fst.length c2]) (hP : Has W Bp 22 #[.slice O t0.length c1]) hR hO hL hr => cos1_ex Bi Br Bf Bp P A Lh O L p pc k ch c c1 c2 t0 (cosS t0 t1).num (fstA (cosS t0 t1)) _ _ m r W hI hr0 (hll.symm ▸ hF) (hol.symm ▸ hP) hR hO hL hgr hSL (by rw [hll]; exact hl8) hm hr)
    have HTR : Hid (∀ k, trB t0 (cosS t0 t1) m k = mul t0 (iv t0 (fstA (cosS t0 t1) ((cosS t0 t1).num (mul t0 m (fstA (cosS t0 t1) k))))) (mul t0 m (fstA (cosS t0 t1) k))) := Lib.hid (fun k => rfl)
    have HGG := Lib.hid hgr
    have hn8 := hgr.n8
    obtain ⟨bt, ot, bb, oo, C, rfl, hQ⟩ := hR.sq hgr
    have HTQ := Lib.hid hQ
    have hen := enters_of Tryd.func72 (by kernel_rfl) rfl
    obtain ⟨S, hS⟩ : ∃ S, cosS t0 t1 = S := ⟨_, rfl⟩
    rw [hS] at HQ HCS HTB HTP hl8 HFS HC1 HTR
    unfold CosR at HCS
    obtain ⟨K, hK⟩ : ∃ K, S.fst.length = K := ⟨_, rfl⟩
    rw [hK] at HQ HCS HTB HTP hl8 HFS HC1
    obtain ⟨M, hM⟩ : ∃ M, t1.length = M := ⟨_, rfl⟩
    rw [hM] at HC HIN HOT HAB HCS
    clear hz hR hX hs hu hT b0 b1 e0 hbs hel hsx hm3 hgs hgl hab hSL hll hol hS hK hgr hQ
    rw [hM]
    clear hM
    go_enter Tryd.func17, Tryd.ntmps17
    go_wp2_with fail
    generalize ((w.alloc (.cells #[.slice (some ⟨bt, ot, none⟩) t0.length d0] 36)).alloc (.cells #[.int .i64 (m : Int)] 2)) = W0 at *
    refine HC.out.mono ?_
    rintro e W1 ⟨rfl, he1⟩
    have HE1 := Lib.hid (HE0.out.trans he1)
    have HB1 := Lib.hid (HB0.out.ex he1)
    have c1 := HB1.out.cell 0
    clear c0 he1
    go_wp2_with fail
    refine (HIN.out W1 HE1.out).mono ?_
    rintro e W2 ⟨G, R, rfl, he2, -, -, hG, hRR⟩
    have HE2 := Lib.hid ((HE1.out.trans he2).alloc (.cells #[.slice (some ⟨R, 0, none⟩) M M, .slice (some ⟨bt, ot, none⟩) t0.length d0, .slice B1 M d1] 64))
    have HRW := Lib.hid ((HOT.out G R W2 hG hRR).ex (Ex.new W2 (.cells #[.slice (some ⟨R, 0, none⟩) M M, .slice (some ⟨bt, ot, none⟩) t0.length d0, .slice B1 M d1] 64)))
    have HN2 := Lib.hid (Has.new W2 64 #[.slice (some ⟨R, 0, none⟩) M M, .slice (some ⟨bt, ot, none⟩) t0.length d0, .slice B1 M d1])
    have HB2 := Lib.hid ((HB1.out.ex he2).alloc (.cells #[.slice (some ⟨R, 0, none⟩) M M, .slice (some ⟨bt, ot, none⟩) t0.length d0, .slice B1 M d1] 64))
    have n0 := HN2.out.cell 0
    clear c1 hG hRR he2
    go_wp2_with fail
    refine (HAB.out _ M _ HRW.out).mono ?_
    rintro e W4 ⟨rfl, he4⟩
    have HE4 := Lib.hid (HE2.out.trans he4)
    have HN4 := Lib.hid (HN2.out.ex he4)
    have HB4 := Lib.hid (HB2.out.ex he4)
    have q0 := HN4.out.cell 0
    have q1 := HN4.out.cell 1
    have q2 := HN4.out.cell 2
    have HR4 := Lib.hid (HRR.out W4 HE4.out)
    clear n0 he4
    go_wp2_with fail
    refine (HCS.out (some ⟨R, 0, none⟩) (some ⟨bt, ot, none⟩) B1 M M d0 d1 W4 HR4.out.1 HR4.out.2.1 HR4.out.2.2).mono ?_
    rintro e W5 ⟨⟨Bf, Bp, A0, A1, F, n0, n1, n2, G, rfl, he5, hP, hF, hO, hL, hGj, hfn⟩, hI⟩
    have HE5 := Lib.hid (HE4.out.trans he5)
    have HB5 := Lib.hid (HB4.out.ex he5)
    have HP := Lib.hid hP
    have HF := Lib.hid hF
    have HO := Lib.hid hO
    have HL := Lib.hid hL
    have HGJ := Lib.hid hGj
    have HFN := Lib.hid hfn
    have HI := Lib.hid hI
    clear q0 q1 q2 he5 hP hF hO hL hGj hfn hI
    go_wp2_with fail
    go_loopw [12, 39] (fun p i wr => ∃ k : Nat, k ≤ K ∧ i = .int .i64 (k : Int) ∧ p = .int .i64 (trP t0 S m k : Int) ∧ Hid (Ex W5 wr)) (fun _ i _ => K - (intOf i).toNat)
    case atStart => exact ⟨0, Nat.zero_le _, rfl, rfl, Lib.hid (Ex.refl _)⟩
    case round =>
      obtain ⟨k, hk, rfl, rfl, HEk⟩ := hrel
      by_cases hkN : k < K
      · obtain ⟨b, rfl, hb, hcell⟩ := HFN.out k hkN
        have hcl := (HEk.out.below.cell (p := ⟨b, k, none⟩) hb).trans hcell
        unfold cosFn at hcl
        have hpl := HTP.out k (by omega)
        have hbl := HTB.out k hkN
        have HFL := Lib.hid (HFS.out k hkN)
        have HP1 : Hid (trP t0 S m (k + 1) = mul t0 (trP t0 S m k) (trB t0 S m k)) := Lib.hid rfl
        have HXk := Lib.hid (HE5.out.trans HEk.out)
        have hcc := HC1.out W4.heap.size (G k) Bf Bp (some ⟨R, 0, none⟩) (some ⟨bt, ot, none⟩) B1 A0 A1 M M M d1 d0 n0 n1 (fstA S k) wr (HI.out.ex HEk.out) ((HGJ.out k hkN).ex HEk.out) (HF.out.ex HEk.out) (HP.out.ex HEk.out) (HRR.out wr HXk.out).1 (HO.out.ex HEk.out) (HL.out.ex HEk.out) HFL.out
        rw [← HTR.out k] at hcc
        have HROW := Lib.hid (fun W (he : Ex wr W) => And.intro (((HB5.out.ex HEk.out).ex he).cell 0) (And.intro ((HTQ.out.ex (HXk.out.trans he)).row_ hpl) (((HTQ.out.ex (HXk.out.trans he)).ent_ hpl hbl).trans (by rw [HGG.out.ent hpl hbl]))))
        obtain ⟨p, hp⟩ : ∃ p, trP t0 S m k = p := ⟨_, rfl⟩
        obtain ⟨bv, hbv⟩ : ∃ bv, trB t0 S m k = bv := ⟨_, rfl⟩
        obtain ⟨rv, hrv⟩ : ∃ rv, fstA S (S.num (mul t0 m (fstA S k))) = rv := ⟨_, rfl⟩
        rw [hp, hbv] at HP1 HROW
        rw [hbv, hrv] at hcc
        rw [hp] at hpl ⊢
        rw [hbv] at hbl
        obtain ⟨z, hz⟩ : ∃ z, mul t0 p bv = z := ⟨_, rfl⟩
        rw [hz] at HP1 HROW
        have HCC := Lib.hid hcc
        clear hcc hcell hp hbv hrv hz
        go_wp2_with fail
        refine HCC.out.mono ?_
        rintro e w6 ⟨rfl, he6⟩
        obtain ⟨r0, r1, r2⟩ := HROW.out w6 he6
        have HE6 := Lib.hid (HEk.out.trans he6)
        clear hcl he6
        go_wp2_with fail
        go_roundw
        case rel => exact ⟨k + 1, by omega, by go_num, by rw [HP1.out], HE6⟩
        case measure => simp [intOf]; omega
      · obtain rfl : k = K := by omega
        go_wp2_with fail
        go_ret2
        exact ⟨by rw [HQ.out.1, HQ.out.2]; rfl, HE5.out.trans HEk.out⟩

theorem implTransferElement_ex (t0 : List (List Int)) (t1 : List Int) (m2 : Int) : ∀ (B0 : Option Addr) (d0 : Nat) (B1 : Option Addr) (d1 : Nat) (W : World), RwsW W B0 t0 → IntsW W B1 t1 → SmallT t0 → t1.length ≤ 1048576 → TabL W →
    Calls Tryd.prog 17 #[.agg #[.slice B0 t0.length d0], .slice B1 t1.length d1, .int .i64 m2] W fun e W' => e = .returned (.tuple #[.int .i64 (qTransferElement0 t0 t1 m2), .int .i64 (qTransferElement1 t0 t1 m2)]) ∧ Ex W W' := by
  by_cases hz : sgC t0 t1 [m2] = 0
  · exact implTE_yes t0 t1 m2 hz
  · exact implTE_no t0 t1 m2 hz

end Go.Proofs.YtfnjpbjlikajbaaDoor
