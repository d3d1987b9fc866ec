/- OrdersOfExtension: both contracts. -/
import Derived.Test.YtenenlpfpkdplaaDoorXg
import Derived.Test.YtenenlpfpkdplaaDoorEo
namespace Go.Proofs.YtenenlpfpkdplaaDoor
open Go.RowKit

noncomputable def yOrdersOfExtension0 (t : List (List Int)) (m : Int) (us : List Int) (n : Int) (fs : List Int) : List Int := if extC 64 t m us n fs = 0 then (List.range (t.length * m.toNat)).map (fun a => (ord (extT t m.toNat us fs) a : Int)) else []
noncomputable def qOrdersOfExtension1 (t : List (List Int)) (m : Int) (us : List Int) (n : Int) (fs : List Int) : Int := extC 64 t m us n fs
theorem ordersOfExtension_small0 (t : List (List Int)) (m : Int) (us : List Int) (n : Int) (fs : List Int) : (yOrdersOfExtension0 t m us n fs).length ≤ 1048576 := by
  unfold yOrdersOfExtension0
  split
  · rename_i h
    obtain ⟨M, rfl, rfl, hf⟩ := extC_zero h
    have := hf.most
    rw [List.length_map, List.length_range, Int.toNat_natCast]
    omega
  · simp
theorem ext_orb {L : Nat} {t : List (List Int)} {m n : Int} {us fs : List Int} (h : extC L t m us n fs = 0) : IsOrb (extT t m.toNat us fs) := by
  have hg : gmcB t m us n fs = true := by
    unfold extC at h
    split at h
    · assumption
    · omega
  obtain ⟨M, rfl, rfl, hf⟩ := extC_zero h
  rw [Int.toNat_natCast]
  simp only [gmcB, Bool.and_eq_true] at hg
  have h1 := unit_zero hg.1
  refine hf.orb ?_
  have h2 := (im_eq hf.m.rng (k := 0) (by rw [hf.m.len]; exact hf.m.g.n1)).1
  rw [h2, h1]
  rfl

set_option maxRecDepth 100000 in
set_option maxHeartbeats 4000000 in
theorem implOrdersOfExtension_ex (t0 : List (List Int)) (m1 : Int) (t1 : List Int) (m2 : Int) (t2 : List Int) : ∀ (B0 : Option Addr) (d0 : Nat) (B1 : Option Addr) (d1 : Nat) (B2 : Option Addr) (d2 : Nat) (W : World), RwsW W B0 t0 → IntsW W B1 t1 → IntsW W B2 t2 → SmallT t0 → t1.length ≤ 1048576 → t2.length ≤ 1048576 →
    Calls Tryd.prog 42 #[.agg #[.slice B0 t0.length d0], .agg #[.int .i64 m1, .slice B1 t1.length d1], .agg #[.int .i64 m2, .slice B2 t2.length d2]] W fun e W' => ∃ (C0 : Option Addr) (e0 : Nat), e = .returned (.tuple #[.slice C0 (yOrdersOfExtension0 t0 m1 t1 m2 t2).length e0, .int .i64 (qOrdersOfExtension1 t0 m1 t1 m2 t2)]) ∧ Ex W W' ∧ OwnL W' W.heap.size W'.heap.size C0 (yOrdersOfExtension0 t0 m1 t1 m2 t2) := by
  intro B0 d0 B1 d1 B2 d2 w hR hX hF hs hu hf
  have e0 : Ex w (((w.alloc (.cells #[.slice B0 t0.length d0] 35)).alloc (.cells #[.int .i64 m1, .slice B1 t1.length d1] 37)).alloc (.cells #[.int .i64 m2, .slice B2 t2.length d2] 39)) := (((Ex.refl w).alloc _).alloc _).alloc _
  have b0 : Has (((w.alloc (.cells #[.slice B0 t0.length d0] 35)).alloc (.cells #[.int .i64 m1, .slice B1 t1.length d1] 37)).alloc (.cells #[.int .i64 m2, .slice B2 t2.length d2] 39)) (w.heap.size) 35 #[.slice B0 t0.length d0] := (((Has.newAt (w := w) (e := 35) (cs := #[.slice B0 t0.length d0]) (k := w.heap.size) (by simp)).alloc _).alloc _)
  have b1 : Has (((w.alloc (.cells #[.slice B0 t0.length d0] 35)).alloc (.cells #[.int .i64 m1, .slice B1 t1.length d1] 37)).alloc (.cells #[.int .i64 m2, .slice B2 t2.length d2] 39)) (w.heap.size + 1) 37 #[.int .i64 m1, .slice B1 t1.length d1] := ((Has.newAt (w := (w.alloc (.cells #[.slice B0 t0.length d0] 35))) (e := 37) (cs := #[.int .i64 m1, .slice B1 t1.length d1]) (k := w.heap.size + 1) (by simp)).alloc _)
  have b2 : Has (((w.alloc (.cells #[.slice B0 t0.length d0] 35)).alloc (.cells #[.int .i64 m1, .slice B1 t1.length d1] 37)).alloc (.cells #[.int .i64 m2, .slice B2 t2.length d2] 39)) (w.heap.size + 1 + 1) 39 #[.int .i64 m2, .slice B2 t2.length d2] := (Has.newAt (w := ((w.alloc (.cells #[.slice B0 t0.length d0] 35)).alloc (.cells #[.int .i64 m1, .slice B1 t1.length d1] 37))) (e := 39) (cs := #[.int .i64 m2, .slice B2 t2.length d2]) (k := w.heap.size + 1 + 1) (by simp))
  have HC := Lib.hid (extensionWithin_ex 64 (by omega) B0 B1 B2 t0 m1 t1 m2 t2 d0 d1 d2 _ (hR.ex e0) (hX.ex e0) (hF.ex e0) hs hu hf)
  have HE0 := Lib.hid e0
  clear hR hX hF hs hu hf
  by_cases hz : extC 64 t0 m1 t1 m2 t2 = 0
  · have HQ : Hid (qOrdersOfExtension1 t0 m1 t1 m2 t2 = 0) := Lib.hid hz
    have horb := ext_orb hz
    have hy : yOrdersOfExtension0 t0 m1 t1 m2 t2 = (List.range (t0.length * m1.toNat)).map (fun a => (ord (extT t0 m1.toNat t1 t2) a : Int)) := by unfold yOrdersOfExtension0; rw [if_pos hz]
    have hye : yE 64 t0 m1 t1 m2 t2 = extT t0 m1.toNat t1 t2 := by unfold yE; rw [if_pos hz]
    obtain ⟨M, rfl, rfl, hEF⟩ := extC_zero hz
    have hln := extT_len t0 M t1 t2
    have h64 := hEF.most
    rw [Int.toNat_natCast] at hy hye horb
    rw [hz, hye] at HC
    rw [← hln] at hy h64
    have HY := Lib.hid hy
    generalize extT t0 M t1 t2 = T at *
    have HEO2 : Hid (∀ (C : Option Addr) k W (h : RwsW W C T), Calls Tryd.prog 66 #[.agg #[.slice C T.length k]] W fun e w' => ∃ g, e = .returned (.slice (some ⟨g, 0, none⟩) T.length T.length) ∧ Ex W w' ∧ W.heap.size ≤ g ∧ Has w' g 2 (tab T.length fun j => .int .i64 (ord T j : Int))) := Lib.hid (fun C k W h => by
      obtain ⟨b, o, bb, oo, CC, rfl, hQ⟩ := Rws.sq h horb.n1 horb.sq
      exact elementOrders_has T k b o bb oo CC W hQ horb (by omega))
    clear hz hy hye horb hln hEF h64
    go_enter Tryd.func42, Tryd.ntmps42
    go_wp2_with fail
    generalize (((w.alloc (.cells #[.slice B0 t0.length d0] 35)).alloc (.cells #[.int .i64 (M : Int), .slice B1 t1.length d1] 37)).alloc (.cells #[.int .i64 2, .slice B2 t2.length d2] 39)) = W0 at *
    refine HC.out.mono ?_
    rintro e W1 ⟨C, k, rfl, he1, ho⟩
    have HR1 := Lib.hid (ho.rws.ex (Ex.new W1 (.cells #[.slice C T.length k] 35)))
    have HE1 := Lib.hid ((HE0.out.trans he1).alloc (.cells #[.slice C T.length k] 35))
    clear b0 b1 b2 e0 he1 ho
    go_wp2_with fail
    refine (HEO2.out C k _ HR1.out).mono ?_
    rintro e W2 ⟨g, rfl, he2, hlg, hh⟩
    have HH := Lib.hid hh
    have HE2 := Lib.hid (HE1.out.trans he2)
    have hle := HE1.out.size
    clear he2 hh
    go_wp2_with fail
    go_ret2
    refine ⟨some ⟨g, 0, none⟩, T.length, by rw [HQ.out, HY.out]; simp, HE2.out, ?_⟩
    rw [HY.out]
    refine OwnL.of_has (n := T.length) (e := 2) ?_ (by simp) (by omega)
    rw [tab_congr (g := fun j => .int .i64 (ord T j : Int)) (fun j hj => by simp [nth, hj])]
    exact HH.out
  · have HQ : Hid (yOrdersOfExtension0 t0 m1 t1 m2 t2 = [] ∧ qOrdersOfExtension1 t0 m1 t1 m2 t2 = extC 64 t0 m1 t1 m2 t2) := Lib.hid ⟨by unfold yOrdersOfExtension0; rw [if_neg hz], rfl⟩
    have hye : yE 64 t0 m1 t1 m2 t2 = [] := by unfold yE; rw [if_neg hz]
    obtain ⟨z, hze⟩ : ∃ z, extC 64 t0 m1 t1 m2 t2 = z := ⟨_, rfl⟩
    rw [hye] at HC
    rw [hze] at HC HQ hz
    have hzb : (z != 0) = true := by simpa using hz
    clear hz hze hye
    go_enter Tryd.func42, Tryd.ntmps42
    go_wp2_with fail
    generalize (((w.alloc (.cells #[.slice B0 t0.length d0] 35)).alloc (.cells #[.int .i64 m1, .slice B1 t1.length d1] 37)).alloc (.cells #[.int .i64 m2, .slice B2 t2.length d2] 39)) = W0 at *
    refine HC.out.mono ?_
    rintro e W1 ⟨C, k, rfl, he1, ho⟩
    have HE1 := Lib.hid (HE0.out.trans he1)
    clear b0 b1 b2 e0 he1 ho
    go_wp2_with fail
    go_ret2
    exact ⟨none, 0, by rw [HQ.out.1, HQ.out.2]; rfl, HE1.out.alloc _, by rw [HQ.out.1]; exact OwnL.nil _ _ _ (Nat.le_refl _)⟩

set_option maxRecDepth 100000 in
set_option maxHeartbeats 4000000 in
theorem specOrdersOfExtension_ex (t0 : List (List Int)) (m1 : Int) (t1 : List Int) (m2 : Int) (t2 : List Int) : ∀ (B0 : Option Addr) (d0 : Nat) (B1 : Option Addr) (d1 : Nat) (B2 : Option Addr) (d2 : Nat) (W : World), RwsW W B0 t0 → IntsW W B1 t1 → IntsW W B2 t2 → SmallT t0 → t1.length ≤ 1048576 → t2.length ≤ 1048576 →
    Calls Tryd.prog 41 #[.agg #[.slice B0 t0.length d0], .agg #[.int .i64 m1, .slice B1 t1.length d1], .agg #[.int .i64 m2, .slice B2 t2.length d2]] W fun e W' => ∃ (C0 : Option Addr) (e0 : Nat), e = .returned (.tuple #[.slice C0 (yOrdersOfExtension0 t0 m1 t1 m2 t2).length e0, .int .i64 (qOrdersOfExtension1 t0 m1 t1 m2 t2)]) ∧ Ex W W' ∧ OwnL W' W.heap.size W'.heap.size C0 (yOrdersOfExtension0 t0 m1 t1 m2 t2) := by
  intro B0 d0 B1 d1 B2 d2 w hR hX hF hs hu hf
  obtain ⟨i0, hi, hi0, hi1, hi2⟩ := info_parts infoI
  have e0 : Ex w (((w.alloc (.cells #[.slice B0 t0.length d0] 35)).alloc (.cells #[.int .i64 m1, .slice B1 t1.length d1] 37)).alloc (.cells #[.int .i64 m2, .slice B2 t2.length d2] 39)) := (((Ex.refl w).alloc _).alloc _).alloc _
  have b0 : Has (((w.alloc (.cells #[.slice B0 t0.length d0] 35)).alloc (.cells #[.int .i64 m1, .slice B1 t1.length d1] 37)).alloc (.cells #[.int .i64 m2, .slice B2 t2.length d2] 39)) (w.heap.size) 35 #[.slice B0 t0.length d0] := (((Has.newAt (w := w) (e := 35) (cs := #[.slice B0 t0.length d0]) (k := w.heap.size) (by simp)).alloc _).alloc _)
  have b1 : Has (((w.alloc (.cells #[.slice B0 t0.length d0] 35)).alloc (.cells #[.int .i64 m1, .slice B1 t1.length d1] 37)).alloc (.cells #[.int .i64 m2, .slice B2 t2.length d2] 39)) (w.heap.size + 1) 37 #[.int .i64 m1, .slice B1 t1.length d1] := ((Has.newAt (w := (w.alloc (.cells #[.slice B0 t0.length d0] 35))) (e := 37) (cs := #[.int .i64 m1, .slice B1 t1.length d1]) (k := w.heap.size + 1) (by simp)).alloc _)
  have b2 : Has (((w.alloc (.cells #[.slice B0 t0.length d0] 35)).alloc (.cells #[.int .i64 m1, .slice B1 t1.length d1] 37)).alloc (.cells #[.int .i64 m2, .slice B2 t2.length d2] 39)) (w.heap.size + 1 + 1) 39 #[.int .i64 m2, .slice B2 t2.length d2] := (Has.newAt (w := ((w.alloc (.cells #[.slice B0 t0.length d0] 35)).alloc (.cells #[.int .i64 m1, .slice B1 t1.length d1] 37))) (e := 39) (cs := #[.int .i64 m2, .slice B2 t2.length d2]) (k := w.heap.size + 1 + 1) (by simp))
  have HC := Lib.hid (l06Given_ex 64 B0 B1 B2 t0 m1 t1 m2 t2 d0 d1 d2 _ (hR.ex e0) (hX.ex e0) (hF.ex e0) hs hu hf)
  have HE0 := Lib.hid e0
  by_cases hz : extC 64 t0 m1 t1 m2 t2 = 0
  · have HQ : Hid (qOrdersOfExtension1 t0 m1 t1 m2 t2 = 0) := Lib.hid hz
    have horb := ext_orb hz
    have hy : yOrdersOfExtension0 t0 m1 t1 m2 t2 = (List.range (t0.length * m1.toNat)).map (fun a => (ord (extT t0 m1.toNat t1 t2) a : Int)) := by unfold yOrdersOfExtension0; rw [if_pos hz]
    obtain ⟨M, rfl, rfl, hEF⟩ := extC_zero hz
    have HT := Lib.hid (fun W (he : Ex w W) => l06Table_any 64 B0 B1 B2 t0 M t1 t2 d0 d1 d2 W (hR.ex he) (hX.ex he) (hF.ex he) hEF (by omega))
    have hln := extT_len t0 M t1 t2
    have h64 := hEF.most
    rw [Int.toNat_natCast] at hy horb
    rw [hz] at HC
    rw [← hln] at hy h64
    have HY := Lib.hid hy
    generalize extT t0 M t1 t2 = T at *
    have HO := Lib.hid horb
    have hn1 := horb.n1
    clear hR hX hF hs hu hf hz hEF hy hln horb
    go_enter Tryd.func41, Tryd.ntmps41
    go_wp2_with fail
    generalize (((w.alloc (.cells #[.slice B0 t0.length d0] 35)).alloc (.cells #[.int .i64 (M : Int), .slice B1 t1.length d1] 37)).alloc (.cells #[.int .i64 2, .slice B2 t2.length d2] 39)) = W0 at *
    refine HC.out.mono ?_
    rintro e W1 ⟨rfl, he1⟩
    have c0 := (b0.ex he1).cell 0
    have c1 := (b1.ex he1).cell 0
    have c1' := (b1.ex he1).cell 1
    have c2 := (b2.ex he1).cell 0
    have c2' := (b2.ex he1).cell 1
    have HE1 := Lib.hid (HE0.out.trans he1)
    clear b0 b1 b2 e0 he1
    go_wp2_with fail
    refine (HT.out _ HE1.out).mono ?_
    rintro e W2 ⟨C, k, rfl, he2, ho⟩
    obtain ⟨b, o, bb, oo, CC, rfl, hQ⟩ := Rws.sq ho.rws HO.out.n1 HO.out.sq
    have HQT := Lib.hid hQ
    have HE2 := Lib.hid (HE1.out.trans he2)
    have HXs := Lib.hid ((HE1.out.trans he2).alloc (.cells #[] 2))
    have HG0 : Hid (GrowI (W2.alloc (.cells #[] 2)) W2.heap.size (.slice (some ⟨W2.heap.size, 0, none⟩) 0 0) 0 (rowP (fun a => (ord T a : Int)) 0)) := Lib.hid (GrowI.empty (lo := W2.heap.size) W2 (Nat.le_refl _))
    have HEs := Lib.hid (Ex.new W2 (.cells #[] 2))
    clear he2 ho hQ c0 c1 c1' c2 c2' HXs
    go_wp2_with fail
    generalize W2.alloc (.cells #[] 2) = W3 at *
    go_loopw [10, 11] (fun v i wr => ∃ k : Nat, k ≤ T.length ∧ i = .int .i64 (k : Int) ∧ Hid (Ex W2 wr) ∧ Hid (GrowI wr W2.heap.size v k (rowP (fun a => (ord T a : Int)) k))) (fun _ i _ => T.length - (intOf i).toNat)
    case atStart => exact ⟨0, Nat.zero_le _, rfl, HEs, HG0⟩
    case round =>
      clear HEs HG0
      obtain ⟨k, hk, rfl, HX, HG⟩ := hrel
      by_cases hlt : k < T.length
      · obtain ⟨g1, g2, g3, g4⟩ := HO.out.ord_spec hlt
        have HG4 := Lib.hid g4
        have HG3 := Lib.hid g3
        have HS := Lib.hid (rowP_snoc (fun a => (ord T a : Int)) k)
        have hkz : (0 : Int) ≤ (k : Int) := by omega
        have HP1 : Hid (pw T k 1 = k) := Lib.hid (HO.out.zero_mul hlt)
        clear g3 g4
        go_wp2_with fail
        go_loop [12, 13] (fun q p => ∃ j : Nat, 1 ≤ j ∧ j ≤ ord T k ∧ q = .int .i64 (j : Int) ∧ p = .int .i64 (pw T k j : Int)) (fun q _ => ord T k - (intOf q).toNat)
        case atStart => exact ⟨1, by omega, g1, rfl, by rw [HP1.out]⟩
        case round =>
          obtain ⟨j, hj1, hj2, rfl, rfl⟩ := hrel
          by_cases hjl : j < ord T k
          · have hne := HG4.out j hj1 hjl
            have hp := HO.out.pw_lt hlt j
            have hnxt : mul T (pw T k j) k = pw T k (j + 1) := rfl
            have hQr := HQT.out.ex HX.out
            have hrow := hQr.row_ hp
            have hent := hQr.ent_ hp hlt
            rw [HO.out.ent hp hlt] at hent
            obtain ⟨y, hy⟩ : ∃ y, pw T k (j + 1) = y := ⟨_, rfl⟩
            rw [hnxt, hy] at hent
            have HYY := Lib.hid hy
            clear hnxt hy hQr
            generalize pw T k j = x at *
            have hne' : ((x : Int) != 0) = true := by rw [bne_iff_ne]; omega
            clear hne
            go_wp2_with fail
            go_round
            case rel => exact ⟨j + 1, by omega, by omega, by go_num, by rw [HYY.out]⟩
            case measure => simp [intOf]; omega
          · have hjo : j = ord T k := by omega
            subst hjo
            have hz : (((pw T k (ord T k) : Nat) : Int) != 0) = false := by rw [HG3.out]; rfl
            obtain ⟨z, hze⟩ : ∃ z, ord T k = z := ⟨_, rfl⟩
            rw [hze] at HS hz ⊢
            go_wp2_with (at_builtin; refine wpList_append_own _ rfl _ _ 25 rfl W2.heap.size 2 i0 (.int .i64 0) 1 8 Tryd.underlying25 hi hi0 hi1 hi2 rfl (by decide) _ _ _ rfl (HG.out.1.alloc _) ⟨wr.heap.size, 0, none⟩ 1 1 [.int .i64 (z : Int)] rfl rfl (cell_one_new _ _ _) (by simp [Value.oneCell']) (by unfold maxLen; omega) (by omega) (by have := HX.out.size; simp; omega) ?_; intro v' w3 hown3 hgrow3 _; have G3 := HG.out.ex (Ex.new wr (.cells #[.int .i64 (z : Int)] 2)); have HX3 := Lib.hid (Ex.grew (HX.out.alloc _) G3 (Nat.le_refl _) hgrow3); have HG3 := Lib.hid (G3.snoc hown3); clear hown3 hgrow3 G3)
            go_roundw
            case rel => exact ⟨k + 1, by omega, by go_num, HX3, by rw [HS.out]; exact HG3⟩
            case measure => simp [intOf]; omega
      · obtain rfl : k = T.length := by omega
        obtain ⟨A, cA, rfl, hO⟩ := HG.out.own
        have HOW := Lib.hid hO
        have hlen : (rowP (fun a => (ord T a : Int)) T.length).length = T.length := by simp [rowP]
        rw [hlen]
        clear hO hlen
        go_wp2_with fail
        go_ret2
        exact ⟨A, cA, by rw [HQ.out, HY.out]; simp, HE2.out.trans HX.out, by rw [HY.out]; exact HOW.out.mono HE2.out.size (Nat.le_refl _) (Nat.le_refl _)⟩
  · have HQ : Hid (yOrdersOfExtension0 t0 m1 t1 m2 t2 = [] ∧ qOrdersOfExtension1 t0 m1 t1 m2 t2 = extC 64 t0 m1 t1 m2 t2) := Lib.hid ⟨by unfold yOrdersOfExtension0; rw [if_neg hz], rfl⟩
    obtain ⟨z, hze⟩ : ∃ z, extC 64 t0 m1 t1 m2 t2 = z := ⟨_, rfl⟩
    rw [hze] at HC HQ hz
    have hzb : (z != 0) = true := by simpa using hz
    clear hR hX hF hs hu hf hz hze
    go_enter Tryd.func41, Tryd.ntmps41
    go_wp2_with fail
    generalize (((w.alloc (.cells #[.slice B0 t0.length d0] 35)).alloc (.cells #[.int .i64 m1, .slice B1 t1.length d1] 37)).alloc (.cells #[.int .i64 m2, .slice B2 t2.length d2] 39)) = W0 at *
    refine HC.out.mono ?_
    rintro e W1 ⟨rfl, he1⟩
    go_wp2_with fail
    go_ret2
    exact ⟨none, 0, by rw [HQ.out.1, HQ.out.2]; rfl, HE0.out.trans he1, by rw [HQ.out.1]; exact OwnL.nil _ _ _ (Nat.le_refl _)⟩

end Go.Proofs.YtenenlpfpkdplaaDoor
