/- A cochain's text: both contracts. -/
import Derived.Deep.RegionHeld3
import Derived.Test.YtdehalkebneaoaaDoorDt
import Derived.Test.YtdehalkebneaoaaDoorCo
namespace Go.Proofs.YtdehalkebneaoaaDoor
open Go.RowKit Go.Shelf

attribute [local go_sem] Oper.semAt_some

set_option maxRecDepth 100000 in
set_option maxHeartbeats 2000000 in
theorem l03Text_any (B : Option Addr) (M : Nat) (us : List Int) (d : Nat) (w : World) (hX : IntsW w B us) (hM : M ≤ 12) (hl : us.length ≤ 343) (hu : InR 13 us) :
    Calls Tryd.prog 112 #[.agg #[.int .i64 (M : Int), .slice B us.length d]] w fun e w' => e = .returned (.string (txtB M us us.length)) ∧ Ex w w' := by
  have e0 : Ex w (w.alloc (.cells #[.int .i64 (M : Int), .slice B us.length d] 46)) := (Ex.refl w).alloc _
  have b0 : Has (w.alloc (.cells #[.int .i64 (M : Int), .slice B us.length d] 46)) (w.heap.size) 46 #[.int .i64 (M : Int), .slice B us.length d] := (Has.newAt (w := w) (e := 46) (cs := #[.int .i64 (M : Int), .slice B us.length d]) (k := w.heap.size) (by simp))
  have HX := Lib.hid hX
  have HU := Lib.hid hu
  have hd := decB_size M
  have hdl := (decL_len M).2
  have hds : (decB M).size ≤ 2 := by omega
  have HZ := Lib.hid (txtB_zero M us)
  clear hX hu hd hdl
  have c0 := b0.cell 0
  go_enter Tryd.func112, Tryd.ntmps112
  go_wp2_with fail
  generalize (w.alloc (.cells #[.int .i64 (M : Int), .slice B us.length d] 46)) = W0 at *
  refine (dec_any M _ hM).mono ?_
  rintro e W1 ⟨rfl, he1⟩
  have HE1 := Lib.hid (e0.trans he1)
  have HB1 := Lib.hid (b0.ex he1)
  clear b0 e0 he1 c0
  go_wp2_with fail
  go_loopw [3, 4] (fun s i wr => ∃ k : Nat, k ≤ us.length ∧ i = .int .i64 (k : Int) ∧ s = .string (txtB M us k) ∧ Hid (Ex w wr) ∧ Hid (Has wr w.heap.size 46 #[.int .i64 (M : Int), .slice B us.length d])) (fun _ i _ => us.length - (intOf i).toNat)
  case atStart => exact ⟨0, Nat.zero_le _, rfl, by rw [HZ.out], HE1, HB1⟩
  case round =>
    obtain ⟨k, hk, rfl, rfl, HE, HB⟩ := hrel
    have hts := txtB_size M us k
    have c1 := HB.out.cell 1
    by_cases hlt : k < us.length
    · obtain ⟨bx, ox, rfl, hbx, hcx⟩ := HX.out.ints.at_ hlt
      have hr := HU.out k hlt
      obtain ⟨u, hu⟩ : ∃ u : Nat, nth us k = (u : Int) := ⟨(nth us k).toNat, by omega⟩
      have hxc := (HE.out.below.cell (p := ⟨bx, ox + k, none⟩) hbx).trans hcx
      have HU0 := Lib.hid hu
      rw [hu] at hr hxc
      have hu12 : u ≤ 12 := by omega
      have hdu := decB_size u
      have hdl := (decL_len u).2
      have hds : (decB u).size ≤ 2 := by omega
      clear hcx hr hu hdu hdl
      by_cases h0 : 0 < k
      · have HT := Lib.hid (txtB_next M u k us h0 HU0.out)
        obtain ⟨s, hs⟩ : ∃ s, txtB M us k = s := ⟨_, rfl⟩
        rw [hs] at HT hts ⊢
        have hs2 : (s ++ ⟨#[44]⟩ : ByteArray).size ≤ 1100 := by rw [ByteArray.size_append]; show _ + 1 ≤ _; omega
        clear hs
        go_wp2_with (go_at_call 150; refine (dec_any u _ hu12).mono ?_; rintro e w5 ⟨rfl, hg5⟩; have HE5 := Lib.hid (HE.out.trans hg5); have HB5 := Lib.hid (HB.out.ex hg5); clear hg5)
        go_roundw
        case rel => exact ⟨k + 1, by omega, by go_num, by rw [← HT.out], HE5, HB5⟩
        case measure => simp [intOf]; omega
      · obtain rfl : k = 0 := by omega
        simp only [Nat.add_zero] at hxc
        have HT := Lib.hid (txtB_first M u us HU0.out)
        obtain ⟨s, hs⟩ : ∃ s, txtB M us 0 = s := ⟨_, rfl⟩
        rw [hs] at HT hts ⊢
        clear hs
        go_wp2_with (go_at_call 150; refine (dec_any u _ hu12).mono ?_; rintro e w5 ⟨rfl, hg5⟩; have HE5 := Lib.hid (HE.out.trans hg5); have HB5 := Lib.hid (HB.out.ex hg5); clear hg5)
        go_roundw
        case rel => exact ⟨1, by omega, by go_num, by rw [← HT.out], HE5, HB5⟩
        case measure => simp [intOf]; omega
    · obtain rfl : k = us.length := by omega
      go_wp2_with fail
      go_ret
      exact ⟨rfl, HE.out⟩

noncomputable def qCochainText0 (t : List (List Int)) (m : Int) (us : List Int) (n : Int) (fs : List Int) : ByteArray := if gmcB t m us n fs = true then txtB n.toNat fs fs.length else ByteArray.empty
noncomputable def qCochainText1 (t : List (List Int)) (m : Int) (us : List Int) (n : Int) (fs : List Int) : Int := if gmcB t m us n fs = true then 0 else 1
section
variable {t : List (List Int)} {m n : Int} {us fs : List Int}
theorem ct_no (h : gmcB t m us n fs = false) : qCochainText0 t m us n fs = ByteArray.empty ∧ qCochainText1 t m us n fs = 1 := by simp [qCochainText0, qCochainText1, h]
theorem ct_yes {k : Nat} (h : gmcB t m us (k : Int) fs = true) : qCochainText0 t m us (k : Int) fs = txtB k fs fs.length ∧ qCochainText1 t m us (k : Int) fs = 0 := by simp [qCochainText0, qCochainText1, h]
end

set_option maxRecDepth 100000 in
set_option maxHeartbeats 2000000 in
theorem specCochainText_ex (t0 : List (List Int)) (m1 : Int) (t1 : List Int) (m2 : Int) (t2 : List Int) : ∀ (B0 : Option Addr) (d0 : Nat) (B1 : Option Addr) (d1 : Nat) (B2 : Option Addr) (d2 : Nat) (W : World), RwsW W B0 t0 → IntsW W B1 t1 → IntsW W B2 t2 → SmallT t0 → t1.length ≤ 1048576 → t2.length ≤ 1048576 →
    Calls Tryd.prog 53 #[.agg #[.slice B0 t0.length d0], .agg #[.int .i64 m1, .slice B1 t1.length d1], .agg #[.int .i64 m2, .slice B2 t2.length d2]] W fun e W' => e = .returned (.tuple #[.string (qCochainText0 t0 m1 t1 m2 t2), .int .i64 (qCochainText1 t0 m1 t1 m2 t2)]) ∧ Ex W W' := by
  intro B0 d0 B1 d1 B2 d2 w hR hX hF hs hu hf
  have e0 : Ex w ((((w.alloc (.cells #[.slice B0 t0.length d0] 29)).alloc (.cells #[.int .i64 m1, .slice B1 t1.length d1] 44)).alloc (.cells #[.int .i64 m2, .slice B2 t2.length d2] 46)).alloc (.cells #[.int .i64 m2, .slice B2 t2.length d2] 46)) := ((((Ex.refl w).alloc _).alloc _).alloc _).alloc _
  have b0 : Has ((((w.alloc (.cells #[.slice B0 t0.length d0] 29)).alloc (.cells #[.int .i64 m1, .slice B1 t1.length d1] 44)).alloc (.cells #[.int .i64 m2, .slice B2 t2.length d2] 46)).alloc (.cells #[.int .i64 m2, .slice B2 t2.length d2] 46)) (w.heap.size) 29 #[.slice B0 t0.length d0] := ((((Has.newAt (w := w) (e := 29) (cs := #[.slice B0 t0.length d0]) (k := w.heap.size) (by simp)).alloc _).alloc _).alloc _)
  have b1 : Has ((((w.alloc (.cells #[.slice B0 t0.length d0] 29)).alloc (.cells #[.int .i64 m1, .slice B1 t1.length d1] 44)).alloc (.cells #[.int .i64 m2, .slice B2 t2.length d2] 46)).alloc (.cells #[.int .i64 m2, .slice B2 t2.length d2] 46)) (w.heap.size + 1) 44 #[.int .i64 m1, .slice B1 t1.length d1] := (((Has.newAt (w := (w.alloc (.cells #[.slice B0 t0.length d0] 29))) (e := 44) (cs := #[.int .i64 m1, .slice B1 t1.length d1]) (k := w.heap.size + 1) (by simp)).alloc _).alloc _)
  have b2 : Has ((((w.alloc (.cells #[.slice B0 t0.length d0] 29)).alloc (.cells #[.int .i64 m1, .slice B1 t1.length d1] 44)).alloc (.cells #[.int .i64 m2, .slice B2 t2.length d2] 46)).alloc (.cells #[.int .i64 m2, .slice B2 t2.length d2] 46)) (w.heap.size + 1 + 1) 46 #[.int .i64 m2, .slice B2 t2.length d2] := ((Has.newAt (w := ((w.alloc (.cells #[.slice B0 t0.length d0] 29)).alloc (.cells #[.int .i64 m1, .slice B1 t1.length d1] 44))) (e := 46) (cs := #[.int .i64 m2, .slice B2 t2.length d2]) (k := w.heap.size + 1 + 1) (by simp)).alloc _)
  have b3 : Has ((((w.alloc (.cells #[.slice B0 t0.length d0] 29)).alloc (.cells #[.int .i64 m1, .slice B1 t1.length d1] 44)).alloc (.cells #[.int .i64 m2, .slice B2 t2.length d2] 46)).alloc (.cells #[.int .i64 m2, .slice B2 t2.length d2] 46)) (w.heap.size + 1 + 1 + 1) 46 #[.int .i64 m2, .slice B2 t2.length d2] := (Has.newAt (w := (((w.alloc (.cells #[.slice B0 t0.length d0] 29)).alloc (.cells #[.int .i64 m1, .slice B1 t1.length d1] 44)).alloc (.cells #[.int .i64 m2, .slice B2 t2.length d2] 46))) (e := 46) (cs := #[.int .i64 m2, .slice B2 t2.length d2]) (k := w.heap.size + 1 + 1 + 1) (by simp))
  have HC := Lib.hid (l03Code1_ex B0 B1 B2 t0 m1 t1 m2 t2 d0 d1 d2 (w.heap.size + 1 + 1 + 1) _ (hR.ex e0) (hX.ex e0) (hF.ex e0) hs hu hf b3)
  cases hg : gmcB t0 m1 t1 m2 t2 with
  | false =>
    rw [hg] at HC
    have HQ := Lib.hid (ct_no hg)
    clear hg hR hX hF
    go_enter Tryd.func53, Tryd.ntmps53
    go_wp2_with fail
    generalize ((((w.alloc (.cells #[.slice B0 t0.length d0] 29)).alloc (.cells #[.int .i64 m1, .slice B1 t1.length d1] 44)).alloc (.cells #[.int .i64 m2, .slice B2 t2.length d2] 46)).alloc (.cells #[.int .i64 m2, .slice B2 t2.length d2] 46)) = W0 at *
    refine HC.out.mono ?_
    rintro e W1 ⟨rfl, he1⟩
    have HE1 := Lib.hid (e0.trans he1)
    clear b0 b1 b2 b3 e0 he1
    go_wp2_with fail
    go_ret2
    exact ⟨by rw [HQ.out.1, HQ.out.2]; rfl, HE1.out⟩
  | true =>
    rw [hg] at HC
    obtain ⟨M, k, rfl, rfl, hMF, hk3, hlen, h343, hfr⟩ := gmc_facts hg
    have HQ := Lib.hid (ct_yes hg)
    have hk12 : k ≤ 12 := by omega
    have hm12 := hMF.m12
    have HU : Hid (InR 13 t2) := Lib.hid fun i hi => by have := hfr i hi; omega
    have HF := Lib.hid (hF.ex e0)
    clear hg hR hX hF hMF hs hu hlen hfr
    go_enter Tryd.func53, Tryd.ntmps53
    go_wp2_with fail
    generalize ((((w.alloc (.cells #[.slice B0 t0.length d0] 29)).alloc (.cells #[.int .i64 (M : Int), .slice B1 t1.length d1] 44)).alloc (.cells #[.int .i64 (k : Int), .slice B2 t2.length d2] 46)).alloc (.cells #[.int .i64 (k : Int), .slice B2 t2.length d2] 46)) = W0 at *
    refine HC.out.mono ?_
    rintro e W1 ⟨rfl, he1⟩
    have HE1 := Lib.hid (e0.trans he1)
    have c2 := (b2.ex he1).cell 0
    have c2' := (b2.ex he1).cell 1
    have HT := Lib.hid (l03Text_any B2 k t2 d2 W1 (HF.out.ex he1) hk12 h343 HU.out)
    clear b0 b1 b2 b3 e0 he1
    go_wp2_with (go_at_call 112; refine HT.out.mono ?_; rintro e w5 ⟨rfl, he5⟩)
    go_ret2
    exact ⟨by rw [HQ.out.1, HQ.out.2]; rfl, HE1.out.trans he5⟩

set_option maxRecDepth 100000 in
set_option maxHeartbeats 2000000 in
theorem implCochainText_ex (t0 : List (List Int)) (m1 : Int) (t1 : List Int) (m2 : Int) (t2 : List Int) : ∀ (B0 : Option Addr) (d0 : Nat) (B1 : Option Addr) (d1 : Nat) (B2 : Option Addr) (d2 : Nat) (W : World), RwsW W B0 t0 → IntsW W B1 t1 → IntsW W B2 t2 → SmallT t0 → t1.length ≤ 1048576 → t2.length ≤ 1048576 →
    Calls Tryd.prog 54 #[.agg #[.slice B0 t0.length d0], .agg #[.int .i64 m1, .slice B1 t1.length d1], .agg #[.int .i64 m2, .slice B2 t2.length d2]] W fun e W' => e = .returned (.tuple #[.string (qCochainText0 t0 m1 t1 m2 t2), .int .i64 (qCochainText1 t0 m1 t1 m2 t2)]) ∧ Ex W W' := by
  intro B0 d0 B1 d1 B2 d2 w hR hX hF hs hu hf
  have e0 : Ex w (((w.alloc (.cells #[.slice B0 t0.length d0] 29)).alloc (.cells #[.int .i64 m1, .slice B1 t1.length d1] 44)).alloc (.cells #[.int .i64 m2, .slice B2 t2.length d2] 46)) := (((Ex.refl w).alloc _).alloc _).alloc _
  have b0 : Has (((w.alloc (.cells #[.slice B0 t0.length d0] 29)).alloc (.cells #[.int .i64 m1, .slice B1 t1.length d1] 44)).alloc (.cells #[.int .i64 m2, .slice B2 t2.length d2] 46)) (w.heap.size) 29 #[.slice B0 t0.length d0] := (((Has.newAt (w := w) (e := 29) (cs := #[.slice B0 t0.length d0]) (k := w.heap.size) (by simp)).alloc _).alloc _)
  have b1 : Has (((w.alloc (.cells #[.slice B0 t0.length d0] 29)).alloc (.cells #[.int .i64 m1, .slice B1 t1.length d1] 44)).alloc (.cells #[.int .i64 m2, .slice B2 t2.length d2] 46)) (w.heap.size + 1) 44 #[.int .i64 m1, .slice B1 t1.length d1] := ((Has.newAt (w := (w.alloc (.cells #[.slice B0 t0.length d0] 29))) (e := 44) (cs := #[.int .i64 m1, .slice B1 t1.length d1]) (k := w.heap.size + 1) (by simp)).alloc _)
  have b2 : Has (((w.alloc (.cells #[.slice B0 t0.length d0] 29)).alloc (.cells #[.int .i64 m1, .slice B1 t1.length d1] 44)).alloc (.cells #[.int .i64 m2, .slice B2 t2.length d2] 46)) (w.heap.size + 1 + 1) 46 #[.int .i64 m2, .slice B2 t2.length d2] := (Has.newAt (w := ((w.alloc (.cells #[.slice B0 t0.length d0] 29)).alloc (.cells #[.int .i64 m1, .slice B1 t1.length d1] 44))) (e := 46) (cs := #[.int .i64 m2, .slice B2 t2.length d2]) (k := w.heap.size + 1 + 1) (by simp))
  have hC := isCochain_any B0 B1 B2 t0 m1 t1 m2 t2 d0 d1 d2 _ (hR.ex e0) (hX.ex e0) (hF.ex e0) hs hu hf
  rw [show (gmB t0 m1 t1 && cocB t0.length m1 m2 t2) = gmcB t0 m1 t1 m2 t2 from rfl] at hC
  have HC := Lib.hid hC
  clear hC
  cases hg : gmcB t0 m1 t1 m2 t2 with
  | false =>
    rw [hg] at HC
    have HQ := Lib.hid (ct_no hg)
    clear hg hR hX hF
    go_enter Tryd.func54, Tryd.ntmps54
    go_wp2_with fail
    generalize (((w.alloc (.cells #[.slice B0 t0.length d0] 29)).alloc (.cells #[.int .i64 m1, .slice B1 t1.length d1] 44)).alloc (.cells #[.int .i64 m2, .slice B2 t2.length d2] 46)) = W0 at *
    refine HC.out.mono ?_
    rintro e W1 ⟨rfl, he1⟩
    have HE1 := Lib.hid (e0.trans he1)
    clear b0 b1 b2 e0 he1
    go_wp2_with fail
    go_ret2
    exact ⟨by rw [HQ.out.1, HQ.out.2]; rfl, HE1.out⟩
  | true =>
    rw [hg] at HC
    obtain ⟨M, k, rfl, rfl, hMF, hk3, hlen, h343, hfr⟩ := gmc_facts hg
    have HQ := Lib.hid (ct_yes hg)
    have hk12 : k ≤ 12 := by omega
    have hm12 := hMF.m12
    have HU : Hid (InR 13 t2) := Lib.hid fun i hi => by have := hfr i hi; omega
    have HX := Lib.hid (hF.ex e0)
    have hl400 : t2.length ≤ 400 := by omega
    have hz1 := txtB_size k t2 0
    rw [← txtB_zero] at hz1
    have hz2 := joinL_len t2 t2.length
    have hz3 : (⟨(joinL t2 t2.length).toArray⟩ : ByteArray).size ≤ 1200 := by show (joinL t2 t2.length).toArray.size ≤ 1200; rw [List.size_toArray]; omega
    have hz4 := decB_size k
    have hz5 := (decL_len k).2
    have hz6 : (decB k).size ≤ 2 := by omega
    have HJ := Lib.hid (txtB_join k t2 t2.length)
    have HJN := Lib.hid (fun (W : World) (h : IntsW W B2 t2) => joinNumbers_any B2 t2 d2 W h hl400 HU.out)
    obtain ⟨jb, hjb⟩ : ∃ jb : ByteArray, ⟨(joinL t2 t2.length).toArray⟩ = jb := ⟨_, rfl⟩
    obtain ⟨mb, hmb⟩ : ∃ mb : ByteArray, decB k = mb := ⟨_, rfl⟩
    have HFI := Lib.hid (fun W : World => formatInt_any k W hk12)
    rw [hjb] at HJN hz3 HJ
    rw [hmb] at HFI hz6 HJ hz1
    have hq1 : ¬ 9223372036854775807 < mb.size + 1 := by omega
    have hq2 : ¬ 9223372036854775807 < mb.size + 1 + jb.size := by omega
    clear hg hR hX hF hMF hs hu hz4 hz5 hz2 hjb hmb hl400 hz1 hlen hfr
    go_enter Tryd.func54, Tryd.ntmps54
    go_wp2_with fail
    generalize (((w.alloc (.cells #[.slice B0 t0.length d0] 29)).alloc (.cells #[.int .i64 (M : Int), .slice B1 t1.length d1] 44)).alloc (.cells #[.int .i64 (k : Int), .slice B2 t2.length d2] 46)) = W0 at *
    refine HC.out.mono ?_
    rintro e W1 ⟨rfl, he1⟩
    have HE1 := Lib.hid (e0.trans he1)
    have HB2 := Lib.hid (b2.ex he1)
    have HX1 := Lib.hid (HX.out.ex he1)
    clear b0 b1 b2 e0 he1
    have HK := Lib.hid (fun (W' : World) (hb : Ex W1.drew W') => (⟨(Has.ex (w := W1.drew) HB2.out hb).cell 0, (Has.ex (w := W1.drew) HB2.out hb).cell 1⟩ : W'.cell? ⟨w.heap.size + 1 + 1, 0, none⟩ = some (.int .i64 (k : Int)) ∧ W'.cell? ⟨w.heap.size + 1 + 1, 1, none⟩ = some (.slice B2 t2.length d2)))
    go_wp2_with fail
    go_region_held3 (fun w' : World => w'.cell? ⟨w.heap.size + 1 + 1, 0, none⟩ = some (.int .i64 (k : Int)) ∧ w'.cell? ⟨w.heap.size + 1 + 1, 1, none⟩ = some (.slice B2 t2.length d2))
      (first
        | exact HK.out _ (Ex.refl _)
        | exact HK.out _ (by assumption))
      (first
        | (go_at_call 105; refine (HFI.out _).mono ?_; rintro e w' ⟨rfl, rfl⟩)
        | (go_at_call 106; refine (HJN.out _ (HX1.out.ex (Ex.refl W1).drew)).mono ?_; rintro e w' ⟨rfl, he5⟩))
    all_goals
      go_wp2_with fail
      go_ret2
      exact ⟨by rw [HQ.out.1, HQ.out.2, ← HJ.out]; rfl, HE1.out.drew.trans he5⟩

end Go.Proofs.YtdehalkebneaoaaDoor
