/- A module's text: both contracts. -/
import Derived.Deep.RegionHeld3
import Derived.Test.YtdehalkebneaoaaDoorDe
import Derived.Test.YtdehalkebneaoaaDoorImC
namespace Go.Proofs.YtdehalkebneaoaaDoor
open Go.RowKit Go.Shelf

attribute [local go_sem] Oper.semAt_some

/-- The text, as far as it has come: the modulus and k units. -/
def txtB (M : Nat) (us : List Int) (k : Nat) : ByteArray := ⟨(decL M ++ [58] ++ joinL us k).toArray⟩
theorem txtB_zero (M : Nat) (us : List Int) : decB M ++ ⟨#[58]⟩ = txtB M us 0 := by
  show (⟨(decL M).toArray⟩ : ByteArray) ++ ⟨[58].toArray⟩ = _
  rw [ba_append]
  simp [txtB, joinL]
theorem txtB_size (M : Nat) (us : List Int) (k : Nat) : (txtB M us k).size ≤ 3 * k + 3 := by
  have h1 := (decL_len M).2
  have h2 := joinL_len us k
  simp only [txtB, ByteArray.size, List.size_toArray, List.length_append, List.length_cons, List.length_nil]
  omega
theorem txtB_first (M u : Nat) (us : List Int) (h : nth us 0 = (u : Int)) : txtB M us 0 ++ decB u = txtB M us 1 := by
  show (⟨(decL M ++ [58] ++ joinL us 0).toArray⟩ : ByteArray) ++ ⟨(decL u).toArray⟩ = _
  rw [ba_append]
  simp [txtB, joinL, h]
theorem txtB_next (M u k : Nat) (us : List Int) (hk : 0 < k) (h : nth us k = (u : Int)) : txtB M us k ++ ⟨#[44]⟩ ++ decB u = txtB M us (k + 1) := by
  show (⟨(decL M ++ [58] ++ joinL us k).toArray⟩ : ByteArray) ++ ⟨[44].toArray⟩ ++ ⟨(decL u).toArray⟩ = _
  rw [ba_append, ba_append]
  simp [txtB, joinL, h, hk]
theorem txtB_join (M : Nat) (us : List Int) (k : Nat) : decB M ++ ⟨#[58]⟩ ++ ⟨(joinL us k).toArray⟩ = txtB M us k := by
  show (⟨(decL M).toArray⟩ : ByteArray) ++ ⟨[58].toArray⟩ ++ ⟨(joinL us k).toArray⟩ = _
  rw [ba_append, ba_append]
  rfl

set_option maxRecDepth 100000 in
set_option maxHeartbeats 2000000 in
theorem l02Text_any (B : Option Addr) (M : Nat) (us : List Int) (d : Nat) (w : World) (hX : IntsW w B us) (hM : M ≤ 12) (hl : us.length ≤ 8) (hu : InR 13 us) :
    Calls Tryd.prog 104 #[.agg #[.int .i64 (M : Int), .slice B us.length d]] w fun e w' => e = .returned (.string (txtB M us us.length)) ∧ Ex w w' := by
  have e0 : Ex w (w.alloc (.cells #[.int .i64 (M : Int), .slice B us.length d] 44)) := (Ex.refl w).alloc _
  have b0 : Has (w.alloc (.cells #[.int .i64 (M : Int), .slice B us.length d] 44)) (w.heap.size) 44 #[.int .i64 (M : Int), .slice B us.length d] := (Has.newAt (w := w) (e := 44) (cs := #[.int .i64 (M : Int), .slice B us.length d]) (k := w.heap.size) (by simp))
  have HX := Lib.hid hX
  have HU := Lib.hid hu
  have hd := decB_size M
  have hdl := (decL_len M).2
  have hds : (decB M).size ≤ 2 := by omega
  have HZ := Lib.hid (txtB_zero M us)
  clear hX hu hd hdl
  have c0 := b0.cell 0
  go_enter Tryd.func104, Tryd.ntmps104
  go_wp2_with fail
  generalize (w.alloc (.cells #[.int .i64 (M : Int), .slice B us.length d] 44)) = W0 at *
  refine (dec_any M _ hM).mono ?_
  rintro e W1 ⟨rfl, he1⟩
  have HE1 := Lib.hid (e0.trans he1)
  have HB1 := Lib.hid (b0.ex he1)
  clear b0 e0 he1 c0
  go_wp2_with fail
  go_loopw [3, 4] (fun s i wr => ∃ k : Nat, k ≤ us.length ∧ i = .int .i64 (k : Int) ∧ s = .string (txtB M us k) ∧ Hid (Ex w wr) ∧ Hid (Has wr w.heap.size 44 #[.int .i64 (M : Int), .slice B us.length d])) (fun _ i _ => us.length - (intOf i).toNat)
  case atStart => exact ⟨0, Nat.zero_le _, rfl, by rw [HZ.out], HE1, HB1⟩
  case round =>
    obtain ⟨k, hk, rfl, rfl, HE, HB⟩ := hrel
    have hts := txtB_size M us k
    have c1 := HB.out.cell 1
    by_cases hlt : k < us.length
    · obtain ⟨bx, ox, rfl, hbx, hcx⟩ := HX.out.ints.at_ hlt
      have hr := HU.out k hlt
      obtain ⟨u, hu⟩ : ∃ u : Nat, nth us k = (u : Int) := ⟨(nth us k).toNat, by omega⟩
      have hxc := (HE.out.below.cell (p := ⟨bx, ox + k, none⟩) hbx).trans hcx
      have HU0 := Lib.hid hu
      rw [hu] at hr hxc
      have hu12 : u ≤ 12 := by omega
      have hdu := decB_size u
      have hdl := (decL_len u).2
      have hds : (decB u).size ≤ 2 := by omega
      clear hcx hr hu hdu hdl
      by_cases h0 : 0 < k
      · have HT := Lib.hid (txtB_next M u k us h0 HU0.out)
        obtain ⟨s, hs⟩ : ∃ s, txtB M us k = s := ⟨_, rfl⟩
        rw [hs] at HT hts ⊢
        have hs2 : (s ++ ⟨#[44]⟩ : ByteArray).size ≤ 30 := by rw [ByteArray.size_append]; show _ + 1 ≤ _; omega
        clear hs
        go_wp2_with (go_at_call 150; refine (dec_any u _ hu12).mono ?_; rintro e w5 ⟨rfl, hg5⟩; have HE5 := Lib.hid (HE.out.trans hg5); have HB5 := Lib.hid (HB.out.ex hg5); clear hg5)
        go_roundw
        case rel => exact ⟨k + 1, by omega, by go_num, by rw [← HT.out], HE5, HB5⟩
        case measure => simp [intOf]; omega
      · obtain rfl : k = 0 := by omega
        simp only [Nat.add_zero] at hxc
        have HT := Lib.hid (txtB_first M u us HU0.out)
        obtain ⟨s, hs⟩ : ∃ s, txtB M us 0 = s := ⟨_, rfl⟩
        rw [hs] at HT hts ⊢
        clear hs
        go_wp2_with (go_at_call 150; refine (dec_any u _ hu12).mono ?_; rintro e w5 ⟨rfl, hg5⟩; have HE5 := Lib.hid (HE.out.trans hg5); have HB5 := Lib.hid (HB.out.ex hg5); clear hg5)
        go_roundw
        case rel => exact ⟨1, by omega, by go_num, by rw [← HT.out], HE5, HB5⟩
        case measure => simp [intOf]; omega
    · obtain rfl : k = us.length := by omega
      go_wp2_with fail
      go_ret
      exact ⟨rfl, HE.out⟩

noncomputable def qModuleText0 (t : List (List Int)) (m : Int) (us : List Int) : ByteArray := if gmB t m us = true then txtB m.toNat us us.length else ByteArray.empty
noncomputable def qModuleText1 (t : List (List Int)) (m : Int) (us : List Int) : Int := gmC t m us
section
variable {t : List (List Int)} {m : Int} {us : List Int}
theorem mt_no (h : gmB t m us = false) : qModuleText0 t m us = ByteArray.empty ∧ qModuleText1 t m us = 1 := by simp [qModuleText0, qModuleText1, h, gmC_no h]
theorem mt_yes {M : Nat} (h : gmB t (M : Int) us = true) : qModuleText0 t (M : Int) us = txtB M us us.length ∧ qModuleText1 t (M : Int) us = 0 := by simp [qModuleText0, qModuleText1, h, gmC_yes h]
end

set_option maxRecDepth 100000 in
set_option maxHeartbeats 2000000 in
theorem specModuleText_ex (t0 : List (List Int)) (m1 : Int) (t1 : List Int) : ∀ (B0 : Option Addr) (d0 : Nat) (B1 : Option Addr) (d1 : Nat) (W : World), RwsW W B0 t0 → IntsW W B1 t1 → SmallT t0 → t1.length ≤ 1048576 →
    Calls Tryd.prog 49 #[.agg #[.slice B0 t0.length d0], .agg #[.int .i64 m1, .slice B1 t1.length d1]] W fun e W' => e = .returned (.tuple #[.string (qModuleText0 t0 m1 t1), .int .i64 (qModuleText1 t0 m1 t1)]) ∧ Ex W W' := by
  intro B0 d0 B1 d1 w hR hX hs hu
  have e0 : Ex w (((w.alloc (.cells #[.slice B0 t0.length d0] 29)).alloc (.cells #[.int .i64 m1, .slice B1 t1.length d1] 44)).alloc (.cells #[.int .i64 m1, .slice B1 t1.length d1] 44)) := (((Ex.refl w).alloc _).alloc _).alloc _
  have b0 : Has (((w.alloc (.cells #[.slice B0 t0.length d0] 29)).alloc (.cells #[.int .i64 m1, .slice B1 t1.length d1] 44)).alloc (.cells #[.int .i64 m1, .slice B1 t1.length d1] 44)) (w.heap.size) 29 #[.slice B0 t0.length d0] := (((Has.newAt (w := w) (e := 29) (cs := #[.slice B0 t0.length d0]) (k := w.heap.size) (by simp)).alloc _).alloc _)
  have b1 : Has (((w.alloc (.cells #[.slice B0 t0.length d0] 29)).alloc (.cells #[.int .i64 m1, .slice B1 t1.length d1] 44)).alloc (.cells #[.int .i64 m1, .slice B1 t1.length d1] 44)) (w.heap.size + 1) 44 #[.int .i64 m1, .slice B1 t1.length d1] := ((Has.newAt (w := (w.alloc (.cells #[.slice B0 t0.length d0] 29))) (e := 44) (cs := #[.int .i64 m1, .slice B1 t1.length d1]) (k := w.heap.size + 1) (by simp)).alloc _)
  have b2 : Has (((w.alloc (.cells #[.slice B0 t0.length d0] 29)).alloc (.cells #[.int .i64 m1, .slice B1 t1.length d1] 44)).alloc (.cells #[.int .i64 m1, .slice B1 t1.length d1] 44)) (w.heap.size + 1 + 1) 44 #[.int .i64 m1, .slice B1 t1.length d1] := (Has.newAt (w := ((w.alloc (.cells #[.slice B0 t0.length d0] 29)).alloc (.cells #[.int .i64 m1, .slice B1 t1.length d1] 44))) (e := 44) (cs := #[.int .i64 m1, .slice B1 t1.length d1]) (k := w.heap.size + 1 + 1) (by simp))
  have HC := Lib.hid (l02Code_ex B0 B1 t0 m1 t1 d0 d1 (w.heap.size + 1 + 1) _ (hR.ex e0) (hX.ex e0) hs hu b2)
  cases hg : gmB t0 m1 t1 with
  | false =>
    rw [gmC_no hg] at HC
    have HQ := Lib.hid (mt_no hg)
    clear hg hR hX
    go_enter Tryd.func49, Tryd.ntmps49
    go_wp2_with fail
    generalize (((w.alloc (.cells #[.slice B0 t0.length d0] 29)).alloc (.cells #[.int .i64 m1, .slice B1 t1.length d1] 44)).alloc (.cells #[.int .i64 m1, .slice B1 t1.length d1] 44)) = W0 at *
    refine HC.out.mono ?_
    rintro e W1 ⟨rfl, he1⟩
    have HE1 := Lib.hid (e0.trans he1)
    clear b0 b1 b2 e0 he1
    go_wp2_with fail
    go_ret2
    exact ⟨by rw [HQ.out.1, HQ.out.2]; rfl, HE1.out⟩
  | true =>
    rw [gmC_yes hg] at HC
    obtain ⟨M, rfl, hF⟩ := gmB_f hg
    have HQ := Lib.hid (mt_yes hg)
    have hl8 : t1.length ≤ 8 := by rw [hF.len]; exact hF.g.n8
    have hm12 := hF.m12
    have HU : Hid (InR 13 t1) := Lib.hid fun i hi => by have := hF.rng i hi; omega
    have HX := Lib.hid (hX.ex e0)
    clear hg hR hX hF hs hu
    go_enter Tryd.func49, Tryd.ntmps49
    go_wp2_with fail
    generalize (((w.alloc (.cells #[.slice B0 t0.length d0] 29)).alloc (.cells #[.int .i64 (M : Int), .slice B1 t1.length d1] 44)).alloc (.cells #[.int .i64 (M : Int), .slice B1 t1.length d1] 44)) = W0 at *
    refine HC.out.mono ?_
    rintro e W1 ⟨rfl, he1⟩
    have HE1 := Lib.hid (e0.trans he1)
    have c1 := (b1.ex he1).cell 0
    have c1' := (b1.ex he1).cell 1
    have HT := Lib.hid (l02Text_any B1 M t1 d1 W1 (HX.out.ex he1) hm12 hl8 HU.out)
    clear b0 b1 b2 e0 he1
    go_wp2_with (go_at_call 104; refine HT.out.mono ?_; rintro e w5 ⟨rfl, he5⟩)
    go_ret2
    exact ⟨by rw [HQ.out.1, HQ.out.2]; rfl, HE1.out.trans he5⟩

set_option maxRecDepth 100000 in
set_option maxHeartbeats 2000000 in
theorem implModuleText_ex (t0 : List (List Int)) (m1 : Int) (t1 : List Int) : ∀ (B0 : Option Addr) (d0 : Nat) (B1 : Option Addr) (d1 : Nat) (W : World), RwsW W B0 t0 → IntsW W B1 t1 → SmallT t0 → t1.length ≤ 1048576 →
    Calls Tryd.prog 50 #[.agg #[.slice B0 t0.length d0], .agg #[.int .i64 m1, .slice B1 t1.length d1]] W fun e W' => e = .returned (.tuple #[.string (qModuleText0 t0 m1 t1), .int .i64 (qModuleText1 t0 m1 t1)]) ∧ Ex W W' := by
  intro B0 d0 B1 d1 w hR hX hs hu
  have e0 : Ex w ((w.alloc (.cells #[.slice B0 t0.length d0] 29)).alloc (.cells #[.int .i64 m1, .slice B1 t1.length d1] 44)) := ((Ex.refl w).alloc _).alloc _
  have b0 : Has ((w.alloc (.cells #[.slice B0 t0.length d0] 29)).alloc (.cells #[.int .i64 m1, .slice B1 t1.length d1] 44)) (w.heap.size) 29 #[.slice B0 t0.length d0] := ((Has.newAt (w := w) (e := 29) (cs := #[.slice B0 t0.length d0]) (k := w.heap.size) (by simp)).alloc _)
  have b1 : Has ((w.alloc (.cells #[.slice B0 t0.length d0] 29)).alloc (.cells #[.int .i64 m1, .slice B1 t1.length d1] 44)) (w.heap.size + 1) 44 #[.int .i64 m1, .slice B1 t1.length d1] := (Has.newAt (w := (w.alloc (.cells #[.slice B0 t0.length d0] 29))) (e := 44) (cs := #[.int .i64 m1, .slice B1 t1.length d1]) (k := w.heap.size + 1) (by simp))
  have HC := Lib.hid (isModule_ex B0 B1 t0 m1 t1 d0 d1 _ (hR.ex e0) (hX.ex e0) hs hu)
  cases hg : gmB t0 m1 t1 with
  | false =>
    rw [hg] at HC
    have HQ := Lib.hid (mt_no hg)
    clear hg hR hX
    go_enter Tryd.func50, Tryd.ntmps50
    go_wp2_with fail
    generalize ((w.alloc (.cells #[.slice B0 t0.length d0] 29)).alloc (.cells #[.int .i64 m1, .slice B1 t1.length d1] 44)) = W0 at *
    refine HC.out.mono ?_
    rintro e W1 ⟨rfl, he1⟩
    have HE1 := Lib.hid (e0.trans he1)
    clear b0 b1 e0 he1
    go_wp2_with fail
    go_ret2
    exact ⟨by rw [HQ.out.1, HQ.out.2]; rfl, HE1.out⟩
  | true =>
    rw [hg] at HC
    obtain ⟨M, rfl, hF⟩ := gmB_f hg
    have HQ := Lib.hid (mt_yes hg)
    have hl8 : t1.length ≤ 8 := by rw [hF.len]; exact hF.g.n8
    have hm12 := hF.m12
    have HU : Hid (InR 13 t1) := Lib.hid fun i hi => by have := hF.rng i hi; omega
    have HX := Lib.hid (hX.ex e0)
    have hl400 : t1.length ≤ 400 := by omega
    have hz1 := txtB_size M t1 0
    rw [← txtB_zero] at hz1
    have hz2 := joinL_len t1 t1.length
    have hz3 : (⟨(joinL t1 t1.length).toArray⟩ : ByteArray).size ≤ 24 := by show (joinL t1 t1.length).toArray.size ≤ 24; rw [List.size_toArray]; omega
    have hz4 := decB_size M
    have hz5 := (decL_len M).2
    have hz6 : (decB M).size ≤ 2 := by omega
    have HJ := Lib.hid (txtB_join M t1 t1.length)
    have HJN := Lib.hid (fun (W : World) (h : IntsW W B1 t1) => joinNumbers_any B1 t1 d1 W h hl400 HU.out)
    obtain ⟨jb, hjb⟩ : ∃ jb : ByteArray, ⟨(joinL t1 t1.length).toArray⟩ = jb := ⟨_, rfl⟩
    obtain ⟨mb, hmb⟩ : ∃ mb : ByteArray, decB M = mb := ⟨_, rfl⟩
    have HFI := Lib.hid (fun W : World => formatInt_any M W hm12)
    rw [hjb] at HJN hz3 HJ
    rw [hmb] at HFI hz6 HJ hz1
    have hq1 : ¬ 9223372036854775807 < mb.size + 1 := by omega
    have hq2 : ¬ 9223372036854775807 < mb.size + 1 + jb.size := by omega
    clear hg hR hX hF hs hu hz4 hz5 hz2 hjb hmb hl400 hz1
    go_enter Tryd.func50, Tryd.ntmps50
    go_wp2_with fail
    generalize ((w.alloc (.cells #[.slice B0 t0.length d0] 29)).alloc (.cells #[.int .i64 (M : Int), .slice B1 t1.length d1] 44)) = W0 at *
    refine HC.out.mono ?_
    rintro e W1 ⟨rfl, he1⟩
    have HE1 := Lib.hid (e0.trans he1)
    have HB1 := Lib.hid (b1.ex he1)
    have HX1 := Lib.hid (HX.out.ex he1)
    clear b0 b1 e0 he1
    have HK := Lib.hid (fun (W' : World) (hb : Ex W1.drew W') => (⟨(Has.ex (w := W1.drew) HB1.out hb).cell 0, (Has.ex (w := W1.drew) HB1.out hb).cell 1⟩ : W'.cell? ⟨w.heap.size + 1, 0, none⟩ = some (.int .i64 (M : Int)) ∧ W'.cell? ⟨w.heap.size + 1, 1, none⟩ = some (.slice B1 t1.length d1)))
    go_wp2_with fail
    go_region_held3 (fun w' : World => w'.cell? ⟨w.heap.size + 1, 0, none⟩ = some (.int .i64 (M : Int)) ∧ w'.cell? ⟨w.heap.size + 1, 1, none⟩ = some (.slice B1 t1.length d1))
      (first
        | exact HK.out _ (Ex.refl _)
        | exact HK.out _ (by assumption))
      (first
        | (go_at_call 105; refine (HFI.out _).mono ?_; rintro e w' ⟨rfl, rfl⟩)
        | (go_at_call 106; refine (HJN.out _ (HX1.out.ex (Ex.refl W1).drew)).mono ?_; rintro e w' ⟨rfl, he5⟩))
    all_goals
      go_wp2_with fail
      go_ret2
      exact ⟨by rw [HQ.out.1, HQ.out.2, ← HJ.out]; rfl, HE1.out.drew.trans he5⟩

end Go.Proofs.YtdehalkebneaoaaDoor
