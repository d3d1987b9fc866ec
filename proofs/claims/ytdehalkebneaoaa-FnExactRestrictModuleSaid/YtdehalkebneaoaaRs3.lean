/- RestrictModule: paths of the specification. -/
import Derived.Test.YtdehalkebneaoaaRq
import Derived.Test.YtdehalkebneaoaaLt
namespace Go.Proofs.Ytdehalkebneaoaa
open Go.RowKit

/-- The value at k, hidden from a walk. -/
def HQF {t2 t3 : List Int} (k : Nat) (z : Int) : Prop := nth t3 (im t2 k) = z

set_option maxRecDepth 100000 in
set_option maxHeartbeats 4000000 in
theorem specRs_y (t0 t1 : List (List Int)) (t2 : List Int) (m3 : Int) (t3 : List Int) (B0 : Option Addr) (d0 : Nat) (B1 : Option Addr) (d1 : Nat) (B2 : Option Addr) (d2 : Nat) (B3 : Option Addr) (d3 : Nat) (w : World) (hR : RwsW w B0 t0) (hR' : RwsW w B1 t1) (hX : IntsW w B2 t2) (hY : IntsW w B3 t3) (hs : SmallT t0) (hs' : SmallT t1) (hx : t2.length ≤ 1048576) (hy : t3.length ≤ 1048576) (hgt : grpB t0 = true) (hgm : gmB t1 m3 t3 = true) (hlen : t2.length = t0.length) (hin : inRB t1.length t2 = true) (hhb : homB t0 t1 t2 = true) :
    Calls Try.prog 40 #[.agg #[.slice B0 t0.length d0], .agg #[.slice B1 t1.length d1], .slice B2 t2.length d2, .agg #[.int .i64 m3, .slice B3 t3.length d3]] w (RsPost t0 t1 t2 m3 t3 w) := by
  obtain ⟨i0, hi, hi0, hi1, hi2⟩ := info_parts infoI
  have e0 : Ex w ((((w.alloc (.cells #[.slice B0 t0.length d0] 29)).alloc (.cells #[.slice B1 t1.length d1] 29)).alloc (.cells #[.int .i64 m3, .slice B3 t3.length d3] 36)).alloc (.cells #[.int .i64 0, .slice none 0 0] 36)) := ((((Ex.refl w).alloc _).alloc _).alloc _).alloc _
  have b0 : Has ((((w.alloc (.cells #[.slice B0 t0.length d0] 29)).alloc (.cells #[.slice B1 t1.length d1] 29)).alloc (.cells #[.int .i64 m3, .slice B3 t3.length d3] 36)).alloc (.cells #[.int .i64 0, .slice none 0 0] 36)) (w.heap.size) 29 #[.slice B0 t0.length d0] := ((((Has.newAt (w := w) (e := 29) (cs := #[.slice B0 t0.length d0]) (k := w.heap.size) (by simp)).alloc _).alloc _).alloc _)
  have b1 : Has ((((w.alloc (.cells #[.slice B0 t0.length d0] 29)).alloc (.cells #[.slice B1 t1.length d1] 29)).alloc (.cells #[.int .i64 m3, .slice B3 t3.length d3] 36)).alloc (.cells #[.int .i64 0, .slice none 0 0] 36)) (w.heap.size + 1) 29 #[.slice B1 t1.length d1] := (((Has.newAt (w := (w.alloc (.cells #[.slice B0 t0.length d0] 29))) (e := 29) (cs := #[.slice B1 t1.length d1]) (k := w.heap.size + 1) (by simp)).alloc _).alloc _)
  have b3 : Has ((((w.alloc (.cells #[.slice B0 t0.length d0] 29)).alloc (.cells #[.slice B1 t1.length d1] 29)).alloc (.cells #[.int .i64 m3, .slice B3 t3.length d3] 36)).alloc (.cells #[.int .i64 0, .slice none 0 0] 36)) (w.heap.size + 1 + 1) 36 #[.int .i64 m3, .slice B3 t3.length d3] := ((Has.newAt (w := ((w.alloc (.cells #[.slice B0 t0.length d0] 29)).alloc (.cells #[.slice B1 t1.length d1] 29))) (e := 36) (cs := #[.int .i64 m3, .slice B3 t3.length d3]) (k := w.heap.size + 1 + 1) (by simp)).alloc _)
  have b4 : Has ((((w.alloc (.cells #[.slice B0 t0.length d0] 29)).alloc (.cells #[.slice B1 t1.length d1] 29)).alloc (.cells #[.int .i64 m3, .slice B3 t3.length d3] 36)).alloc (.cells #[.int .i64 0, .slice none 0 0] 36)) (w.heap.size + 1 + 1 + 1) 36 #[.int .i64 0, .slice none 0 0] := (Has.newAt (w := (((w.alloc (.cells #[.slice B0 t0.length d0] 29)).alloc (.cells #[.slice B1 t1.length d1] 29)).alloc (.cells #[.int .i64 m3, .slice B3 t3.length d3] 36))) (e := 36) (cs := #[.int .i64 0, .slice none 0 0]) (k := w.heap.size + 1 + 1 + 1) (by simp))
  have HC := Lib.hid (l01Is_ex B0 t0 d0 _ (hR.ex e0) hs)
  rw [hgt] at HC
  have HC2 := Lib.hid (fun (W1 : World) (he : Ex ((((w.alloc (.cells #[.slice B0 t0.length d0] 29)).alloc (.cells #[.slice B1 t1.length d1] 29)).alloc (.cells #[.int .i64 m3, .slice B3 t3.length d3] 36)).alloc (.cells #[.int .i64 0, .slice none 0 0] 36)) W1) => l02Code_ex B1 B3 t1 m3 t3 d1 d3 W1.heap.size (W1.alloc (.cells #[.int .i64 m3, .slice B3 t3.length d3] 36)) ((hR'.ex e0).ex (he.alloc _)) ((hY.ex e0).ex (he.alloc _)) hs' hy (Has.new W1 _ _))
  rw [gmC_yes hgm] at HC2
  obtain ⟨M, rfl, hF⟩ := gmB_f hgm
  have hgrp := grpB_iff.1 hgt
  have hn8 := hgrp.n8
  have hm12 := hF.m12
  have hu8 := hF.g.n8
  have hw1 : IntKind.i64.wrap ((t1.length : Int) - 1) = (t1.length : Int) - 1 := IntWalk.i64_in _ (by omega)
  have hlb : ((t2.length : Int) != (t0.length : Int)) = false := by simp [hlen]
  have hl8 : t2.length ≤ 8 := by omega
  have HX := Lib.hid hX
  have HIR := Lib.hid (inRB_true hin)
  have HF := Lib.hid hF
  have HGR := Lib.hid hgrp
  have HK := Lib.hid (fun (W' : World) (he : Ex w W') => l01Hom_ex B0 B1 B2 t0 t1 t2 d0 d1 d2 W' (hR.ex he) (hR'.ex he) (hX.ex he) hgrp hF.g (inRB_true hin) hlen)
  rw [hhb] at HK
  have HQ := Lib.hid (rs_yes (resR_y hgt hgm hlen hin hhb))
  have HY := Lib.hid hY
  clear hgt hgm hR hR' hX hY hs hs' hF hgrp hin hlen hhb
  go_enter Try.func40, Try.ntmps40
  go_wp2_with fail
  generalize ((((w.alloc (.cells #[.slice B0 t0.length d0] 29)).alloc (.cells #[.slice B1 t1.length d1] 29)).alloc (.cells #[.int .i64 (M : Int), .slice B3 t3.length d3] 36)).alloc (.cells #[.int .i64 0, .slice none 0 0] 36)) = W0 at *
  refine HC.out.mono ?_
  rintro e W1 ⟨rfl, he1⟩
  have h0 := b0.ex he1
  have h1 := b1.ex he1
  have h3 := b3.ex he1
  have h4 := b4.ex he1
  have HE1 := Lib.hid (e0.trans he1)
  have HCC := Lib.hid (HC2.out W1 he1)
  have k1 := h1.cell 0
  have k3 := h3.cell 0
  have k3' := h3.cell 1
  clear b0 b1 b3 b4 he1 e0
  go_wp2_with fail
  refine HCC.out.mono ?_
  rintro e W2 ⟨rfl, he2⟩
  clear k1 k3 k3'
  have HE2 := Lib.hid ((HE1.out.alloc _).trans he2)
  have HB0 := Lib.hid ((h0.alloc _).ex he2)
  have HB1 := Lib.hid ((h1.alloc _).ex he2)
  have HB3 := Lib.hid ((h3.alloc _).ex he2)
  have HB4 := Lib.hid ((h4.alloc _).ex he2)
  clear h0 h1 h3 h4 he2 HCC
  have k0 := HB0.out.cell 0
  go_wp2_with fail
  clear k0
  go_loopw [10, 11] (fun cd i wr => ∃ (k : Nat), k ≤ t2.length ∧ i = .int .i64 (k : Int) ∧ cd = .int .i64 0 ∧ Hid (Ex w wr) ∧ Hid (Has wr w.heap.size 29 #[.slice B0 t0.length d0]) ∧ Hid (Has wr (w.heap.size + 1) 29 #[.slice B1 t1.length d1]) ∧ Hid (Has wr (w.heap.size + 1 + 1) 36 #[.int .i64 (M : Int), .slice B3 t3.length d3]) ∧ Hid (Has wr (w.heap.size + 1 + 1 + 1) 36 #[.int .i64 0, .slice none 0 0])) (fun _ i _ => t2.length - (intOf i).toNat)
  case atStart => exact ⟨0, Nat.zero_le _, rfl, rfl, HE2, HB0, HB1, HB3, HB4⟩
  case round =>
    obtain ⟨k, hk, rfl, rfl, HE, HA0, HA1, HA3, HA4⟩ := hrel
    by_cases hlt : k < t2.length
    · obtain ⟨bx, ox, rfl, hbx, hcx⟩ := HX.out.ints.at_ hlt
      have hcx' := (HE.out.below.cell (p := ⟨bx, ox + k, none⟩) hbx).trans hcx
      have HCX := Lib.hid hcx'
      have HBX := Lib.hid hbx
      have hin : (k : Int) < (t2.length : Int) := by omega
      have hi0' : (0 : Int) ≤ (k : Int) := by omega
      have HSK := Lib.hid (fun (W' : World) (he : Ex wr.drew W') => And.intro ((Has.ex (w := wr.drew) HA1.out he).cell 0) ((Below.cell (w := wr.drew) he (p := ⟨bx, ox + k, none⟩) (Nat.lt_of_lt_of_le HBX.out HE.out.size)).trans HCX.out))
      have hik := HIR.out k hlt
      have HIN := Lib.hid (fun W' => l01In_e (nth t2 k) 0 ((t1.length : Int) - 1) W')
      rw [inB_of (n := nth t2 k) (lo := 0) (hi := (t1.length : Int) - 1) hik.1 (by have := hik.2; omega)] at HIN
      clear hik hcx hcx' hbx
      generalize nth t2 k = z at *
      go_wp2_with fail
      refine wp_region_quiet (C := fun w' => Ex wr.drew w') (by kernel_rfl) (by kernel_rfl) (Ex.refl _) ?_
      refine BigFrame.wpQuiet_want (by rfl) fun K hK => ⟨?_, fun w' hC => ?_, hK _ ?_⟩
      rotate_left
      · (obtain ⟨q0, q1⟩ := HSK.out _ hC; go_simp; first | done | with_reducible rfl | exact ⟨rfl, hC⟩)
      clear hK K
      simp only [Act.put, List.setIfInBounds_toArray, List.set_cons_zero, List.set_cons_succ]
      refine BigFrame.wpQuiet_want (by rfl) fun K hK => ⟨?_, fun w' hC => ?_, hK _ ?_⟩
      rotate_left
      · (obtain ⟨q0, q1⟩ := HSK.out _ hC; go_simp; first | done | with_reducible rfl | exact ⟨rfl, hC⟩)
      clear hK K
      simp only [Act.put, List.setIfInBounds_toArray, List.set_cons_zero, List.set_cons_succ]
      refine BigFrame.wpQuiet_want (by rfl) fun K hK => ⟨?_, fun w' hC => ?_, hK _ ?_⟩
      rotate_left
      · (obtain ⟨q0, q1⟩ := HSK.out _ hC; go_simp; first | done | with_reducible rfl | exact ⟨rfl, hC⟩)
      clear hK K
      simp only [Act.put, List.setIfInBounds_toArray, List.set_cons_zero, List.set_cons_succ]
      refine BigFrame.wpQuiet_want (by rfl) fun K hK => ⟨?_, fun w' hC => ?_, hK _ ?_⟩
      rotate_left
      · (obtain ⟨q0, q1⟩ := HSK.out _ hC; go_simp; first | done | with_reducible rfl | exact ⟨rfl, hC⟩)
      clear hK K
      simp only [Act.put, List.setIfInBounds_toArray, List.set_cons_zero, List.set_cons_succ]
      refine BigFrame.wpQuiet_want (by rfl) fun K hK => ⟨?_, fun w' hC => ?_, hK _ ?_⟩
      rotate_left
      · (obtain ⟨q0, q1⟩ := HSK.out _ hC; go_simp; first | done | with_reducible rfl | exact ⟨rfl, hC⟩)
      clear hK K
      simp only [Act.put, List.setIfInBounds_toArray, List.set_cons_zero, List.set_cons_succ]
      refine BigFrame.wpQuiet_want (by rfl) fun K hK => ⟨?_, fun w' hC => ?_, hK _ ?_⟩
      rotate_left
      · (obtain ⟨q0, q1⟩ := HSK.out _ hC; go_simp; first | done | with_reducible rfl | exact ⟨rfl, hC⟩)
      clear hK K
      simp only [Act.put, List.setIfInBounds_toArray, List.set_cons_zero, List.set_cons_succ]
      refine BigFrame.wpQuiet_want (by rfl) fun K hK => ⟨?_, fun w' hC => ?_, hK _ ?_⟩
      rotate_left
      · (obtain ⟨q0, q1⟩ := HSK.out _ hC; go_simp; first | done | with_reducible rfl | exact ⟨rfl, hC⟩)
      clear hK K
      simp only [Act.put, List.setIfInBounds_toArray, List.set_cons_zero, List.set_cons_succ]
      refine BigFrame.wpQuiet_want (by rfl) fun K hK => ⟨?_, fun w' hC => ?_, hK _ ?_⟩
      rotate_left
      · (obtain ⟨q0, q1⟩ := HSK.out _ hC; go_simp; first | done | with_reducible rfl | exact ⟨rfl, hC⟩)
      clear hK K
      simp only [Act.put, List.setIfInBounds_toArray, List.set_cons_zero, List.set_cons_succ]
      refine BigFrame.wpQuiet_want (by rfl) fun K hK => ⟨.bool true, fun w' hC => (by go_simp; refine (HIN.out w').mono ?_; rintro e w2 ⟨rfl, hb⟩; exact ⟨rfl, hC.trans hb⟩), hK _ ?_⟩
      clear hK K
      simp only [Act.put, List.setIfInBounds_toArray, List.set_cons_zero, List.set_cons_succ]
      refine BigFrame.wpQuiet_want (by rfl) fun K hK => ⟨?_, fun w' hC => ?_, hK _ ?_⟩
      rotate_left
      · (obtain ⟨q0, q1⟩ := HSK.out _ hC; go_simp; first | done | with_reducible rfl | exact ⟨rfl, hC⟩)
      clear hK K
      simp only [Act.put, List.setIfInBounds_toArray, List.set_cons_zero, List.set_cons_succ]
      refine wpQuiet_nil ?_
      intro w2 hC2
      have HC2 := Lib.hid hC2
      clear hC2
      go_wp2_with fail
      refine ⟨?rel, ?measure⟩
      case rel => exact ⟨k + 1, by omega, by go_num, rfl, Lib.hid (HE.out.trans ((Ex.refl wr).drew.trans HC2.out)), Lib.hid (Has.ex (w := wr.drew) HA0.out HC2.out), Lib.hid (Has.ex (w := wr.drew) HA1.out HC2.out), Lib.hid (Has.ex (w := wr.drew) HA3.out HC2.out), Lib.hid (Has.ex (w := wr.drew) HA4.out HC2.out)⟩
      case measure => simp [intOf]; omega
    · have hlt' : ¬ (k : Int) < (t2.length : Int) := by omega
      have k0 := HA0.out.cell 0
      have k1 := HA1.out.cell 0
      have HKW := Lib.hid (HK.out wr HE.out)
      go_wp2_with fail
      refine HKW.out.mono ?_
      rintro e W4 ⟨rfl, he4⟩
      have HE4 := Lib.hid (HE.out.trans he4)
      have HA3 := Lib.hid (HA3.out.ex he4)
      have HA4 := Lib.hid (HA4.out.ex he4)
      clear k0 k1 HKW HA0 HA1 HE he4
      have h3 := HA3.out
      have h4 := HA4.out
      have c3 := h3.cell 0
      have a3 := (h3.alloc (.cells #[] 2)).alloc (.cells #[.int .i64 (M : Int), .slice (some ⟨W4.heap.size, 0, none⟩) 0 0] 36)
      have a4 := (h4.alloc (.cells #[] 2)).alloc (.cells #[.int .i64 (M : Int), .slice (some ⟨W4.heap.size, 0, none⟩) 0 0] 36)
      have a5 := Has.newAt (w := W4.alloc (.cells #[] 2)) (e := 36) (cs := #[.int .i64 (M : Int), .slice (some ⟨W4.heap.size, 0, none⟩) 0 0]) (k := W4.heap.size + 1) (by simp)
      have g0 := (GrowI.empty (lo := w.heap.size) W4 HE4.out.size).ex (Ex.new _ (.cells #[.int .i64 (M : Int), .slice (some ⟨W4.heap.size, 0, none⟩) 0 0] 36))
      have e4 := (HE4.out.alloc (.cells #[] 2)).alloc (.cells #[.int .i64 (M : Int), .slice (some ⟨W4.heap.size, 0, none⟩) 0 0] 36)
      have hz4 := h4.lt
      obtain ⟨D, hD⟩ : ∃ D, W4.heap.size = D := ⟨_, rfl⟩
      clear h3 h4 HA3 HA4 HE4
      go_wp2_with fail
      rw [hD] at a3 a4 a5 g0 e4 hz4
      generalize (W4.alloc (.cells #[] 2)).alloc (.cells #[.int .i64 (M : Int), .slice (some ⟨D, 0, none⟩) 0 0] 36) = W5 at *
      have HB3' := Lib.hid a3
      have HB4' := Lib.hid a4
      have HB5 := Lib.hid a5
      have HG0 := Lib.hid g0
      have HE0 := Lib.hid e4
      clear a3 a4 a5 g0 e4 c3 hD
      go_loopw [13] (fun i wr => ∃ (k : Nat) (v : Value), k ≤ t2.length ∧ i = .int .i64 (k : Int) ∧ Hid (Ex w wr) ∧ Hid (Has wr (w.heap.size + 1 + 1) 36 #[.int .i64 (M : Int), .slice B3 t3.length d3]) ∧ Hid (Has wr (w.heap.size + 1 + 1 + 1) 36 #[.int .i64 0, .slice none 0 0]) ∧
        Hid (Has wr (D + 1) 36 #[.int .i64 (M : Int), v]) ∧ Hid (GrowI wr w.heap.size v k ((List.range k).map fun i => nth t3 (im t2 i)))) (fun i _ => t2.length - (intOf i).toNat)
      case atStart => exact ⟨0, _, Nat.zero_le _, rfl, HE0, HB3', HB4', HB5, HG0⟩
      case round =>
        clear hk hlt hlt'
        obtain ⟨k, v, hk, rfl, HE, HA3, HA4, HA5, HG⟩ := hrel
        have c3' := HA3.out.cell 1
        have c5 := HA5.out.cell 0
        have c5' := HA5.out.cell 1
        by_cases hlt : k < t2.length
        · obtain ⟨bx, ox, rfl, hbx, hcx⟩ := HX.out.ints.at_ hlt
          have hik := HIR.out k hlt
          have hq : (im t2 k : Int) = nth t2 k := by simp [im, Int.toNat_of_nonneg hik.1]
          have hq3 : im t2 k < t3.length := by have := HF.out.len; omega
          obtain ⟨by_, oy, rfl, hby, hcy⟩ := HY.out.ints.at_ hq3
          rw [← hq] at hcx
          obtain ⟨z, hz'⟩ : ∃ z, nth t3 (im t2 k) = z := ⟨_, rfl⟩
          have HZ := Lib.hid hz'
          rw [hz'] at hcy
          have HQ3 : Hid (HQF (t2 := t2) (t3 := t3) k z) := Lib.hid hz'
          clear hq hik hz' HZ
          generalize im t2 k = q at *
          have hl3 : t3.length ≤ 8 := by have := HF.out.len; omega
          have hi0' : (0 : Int) ≤ (k : Int) := by omega
          have hin : (k : Int) < (t2.length : Int) := by omega
          have hi0q : (0 : Int) ≤ (q : Int) := by omega
          have hinq : (q : Int) < (t3.length : Int) := by omega
          have HCX := Lib.hid hcx
          have HCY := Lib.hid hcy
          have hxc : wr.cell? ⟨bx, ox + k, none⟩ = some (.int .i64 (q : Int)) := (HE.out.below.cell (p := ⟨bx, ox + k, none⟩) hbx).trans hcx
          have hyc : wr.cell? ⟨by_, oy + q, none⟩ = some (.int .i64 z) := (HE.out.below.cell (p := ⟨by_, oy + q, none⟩) hby).trans hcy
          clear hcx hcy
          go_wp2_with fail
          refine Late.region (C := fun w' => w'.cell? ⟨D + 1, 1, none⟩ = some v ∧ w'.cell? ⟨w.heap.size + 1 + 1, 1, none⟩ = some (.slice (some ⟨by_, oy, none⟩) t3.length d3) ∧ w'.cell? ⟨bx, ox + k, none⟩ = some (.int .i64 (q : Int)) ∧ w'.cell? ⟨by_, oy + q, none⟩ = some (.int .i64 z)) (fun j => decide (j < 12)) (by kernel_rfl) ⟨c5', c3', hxc, hyc⟩ (fun hC => ?_)
          refine Late.take (i := 0) (oi := _) (v := ?_) rfl (by kernel_rfl) (by kernel_rfl) (by kernel_rfl) (by kernel_rfl) (fun _ _ _ h => h) (Or.inl ⟨by rfl, ?_⟩) hC ?_
          rotate_left
          · (intro w hSw; (try dsimp only at hSw); go_simp; first | done | with_reducible rfl)
          simp only [Act.put, List.setIfInBounds_toArray, List.set_cons_zero, List.set_cons_succ]
          refine Late.take (i := 1) (oi := _) (v := ?_) rfl (by kernel_rfl) (by kernel_rfl) (by kernel_rfl) (by kernel_rfl) (fun _ _ _ h => h) (Or.inl ⟨by rfl, ?_⟩) hC ?_
          rotate_left
          · (intro w hSw; (try dsimp only at hSw); go_simp; first | done | with_reducible rfl)
          simp only [Act.put, List.setIfInBounds_toArray, List.set_cons_zero, List.set_cons_succ]
          refine Late.take (i := 2) (oi := _) (v := ?_) rfl (by kernel_rfl) (by kernel_rfl) (by kernel_rfl) (by kernel_rfl) (fun _ _ _ h => h) (Or.inl ⟨by rfl, ?_⟩) hC ?_
          rotate_left
          · (intro w hSw; (try dsimp only at hSw); go_simp; first | done | with_reducible rfl)
          simp only [Act.put, List.setIfInBounds_toArray, List.set_cons_zero, List.set_cons_succ]
          refine Late.take (i := 3) (oi := _) (v := ?_) rfl (by kernel_rfl) (by kernel_rfl) (by kernel_rfl) (by kernel_rfl) (fun _ _ _ h => h) (Or.inl ⟨by rfl, ?_⟩) hC ?_
          rotate_left
          · (intro w hSw; (try dsimp only at hSw); go_simp; first | done | with_reducible rfl)
          simp only [Act.put, List.setIfInBounds_toArray, List.set_cons_zero, List.set_cons_succ]
          refine Late.take (i := 4) (oi := _) (v := ?_) rfl (by kernel_rfl) (by kernel_rfl) (by kernel_rfl) (by kernel_rfl) (fun _ _ _ h => h) (Or.inl ⟨by rfl, ?_⟩) hC ?_
          rotate_left
          · (intro w hSw; (try dsimp only at hSw); go_simp; first | done | with_reducible rfl)
          simp only [Act.put, List.setIfInBounds_toArray, List.set_cons_zero, List.set_cons_succ]
          refine Late.take (i := 5) (oi := _) (v := ?_) rfl (by kernel_rfl) (by kernel_rfl) (by kernel_rfl) (by kernel_rfl) (fun _ _ _ h => h) (Or.inl ⟨by rfl, ?_⟩) hC ?_
          rotate_left
          · (intro w hSw; (try dsimp only at hSw); go_simp; first | done | with_reducible rfl)
          simp only [Act.put, List.setIfInBounds_toArray, List.set_cons_zero, List.set_cons_succ]
          refine Late.take (i := 6) (oi := _) (v := ?_) rfl (by kernel_rfl) (by kernel_rfl) (by kernel_rfl) (by kernel_rfl) (fun _ _ _ h => h) (Or.inl ⟨by rfl, ?_⟩) hC ?_
          rotate_left
          · (intro w hSw; (try dsimp only at hSw); go_simp; first | done | with_reducible rfl)
          simp only [Act.put, List.setIfInBounds_toArray, List.set_cons_zero, List.set_cons_succ]
          refine Late.take (i := 7) (oi := _) (v := ?_) rfl (by kernel_rfl) (by kernel_rfl) (by kernel_rfl) (by kernel_rfl) (fun _ _ _ h => h) (Or.inl ⟨by rfl, ?_⟩) hC ?_
          rotate_left
          · (intro w hSw; (try dsimp only at hSw); go_simp; first | done | with_reducible rfl)
          simp only [Act.put, List.setIfInBounds_toArray, List.set_cons_zero, List.set_cons_succ]
          refine Late.take (i := 8) (oi := _) (v := ?_) rfl (by kernel_rfl) (by kernel_rfl) (by kernel_rfl) (by kernel_rfl) (fun _ _ _ h => h) (Or.inl ⟨by rfl, ?_⟩) hC ?_
          rotate_left
          · (intro w hSw; (try dsimp only at hSw); go_simp; first | done | with_reducible rfl)
          simp only [Act.put, List.setIfInBounds_toArray, List.set_cons_zero, List.set_cons_succ]
          refine Late.take (i := 9) (oi := _) (v := ?_) rfl (by kernel_rfl) (by kernel_rfl) (by kernel_rfl) (by kernel_rfl) (fun _ _ _ h => h) (Or.inl ⟨by rfl, ?_⟩) hC ?_
          rotate_left
          · (intro w hSw; (try dsimp only at hSw); go_simp; first | done | with_reducible rfl)
          simp only [Act.put, List.setIfInBounds_toArray, List.set_cons_zero, List.set_cons_succ]
          have HE := Lib.hid HE.out.drew
          have HA3 : Hid (Has wr.drew (w.heap.size + 1 + 1) 36 #[.int .i64 (M : Int), .slice (some ⟨by_, oy, none⟩) t3.length d3]) := HA3
          have HA4 : Hid (Has wr.drew (w.heap.size + 1 + 1 + 1) 36 #[.int .i64 0, .slice none 0 0]) := HA4
          have HA5 : Hid (Has wr.drew (D + 1) 36 #[.int .i64 (M : Int), v]) := HA5
          have HG := Lib.hid (HG.out.ex (Ex.refl wr).drew)
          have hxc : wr.drew.cell? ⟨bx, ox + k, none⟩ = some (.int .i64 (q : Int)) := hxc
          have hyc : wr.drew.cell? ⟨by_, oy + q, none⟩ = some (.int .i64 z) := hyc
          clear c3' c5 c5'
          generalize wr.drew = X at *
          refine Late.one (i := 10) (o := _) (by kernel_rfl) rfl (fun K' hK' => ?_)
          go_simp
          have e1 := HE.out.alloc (.cells #[.int .i64 z] 2)
          have HA31 := HA3.out.alloc (.cells #[.int .i64 z] 2)
          have HA41 := HA4.out.alloc (.cells #[.int .i64 z] 2)
          have HA51 := HA5.out.alloc (.cells #[.int .i64 z] 2)
          have g1 := HG.out.ex (Ex.new X (.cells #[.int .i64 z] 2))
          have hn1 := cell_one_new X (.int .i64 z) 2
          have hz1 : X.heap.size + 1 = (X.alloc (.cells #[.int .i64 z] 2)).heap.size := by simp
          have hx1 := Ex.new X (.cells #[.int .i64 z] 2)
          refine hK'.out _ _ (fun _ => ⟨HA51.cell 1, HA31.cell 1, (hx1.below.cell (p := ⟨bx, ox + k, none⟩) (by have := HE.out.size; show bx < _; omega)).trans hxc, (hx1.below.cell (p := ⟨by_, oy + q, none⟩) (by have := HE.out.size; show by_ < _; omega)).trans hyc⟩) (fun _ => ?_)
          clear hK' K'
          generalize X.alloc (.cells #[.int .i64 z] 2) = w1 at *
          try simp only [Act.put, List.setIfInBounds_toArray, List.set_cons_zero, List.set_cons_succ]
          refine Late.one (i := 11) (o := _) (by kernel_rfl) rfl (fun K' hK' => ?_)
          rw [if_pos (by rfl)]
          refine wp_append_own _ _ _ 25 rfl w.heap.size 2 i0 (.int .i64 0) 1 8 Try.underlying25 hi hi0 hi1 hi2 rfl (by decide) _ _ _ rfl g1.1 ⟨X.heap.size, 0, none⟩ 1 1 [.int .i64 z] rfl rfl hn1 (by simp [Value.oneCell']) (by unfold maxLen; omega) (by omega) (by have := e1.size; omega) ?_
          intro v' w3 hown3 hgrow3 _
          obtain ⟨g3, cap3, rfl⟩ := ownsRow_succ hown3
          have HE3 := Lib.hid (Ex.grew e1 g1 (Nat.le_refl _) hgrow3)
          have HA33 := Lib.hid (Has.grew HA31 (by decide) g1 hgrow3)
          have HA43 := Lib.hid (Has.grew HA41 (by decide) g1 hgrow3)
          have HA53 := Lib.hid (Has.grew HA51 (by decide) g1 hgrow3)
          have HG3 := Lib.hid (g1.snoc hown3)
          have c33 := HA53.out.cell 1
          have f33 := HA53.out.free 1
          refine hK'.out _ _ (fun _ => ⟨HA53.out.cell 1, HA33.out.cell 1, (HE3.out.below.cell (p := ⟨bx, ox + k, none⟩) hbx).trans HCX.out, (HE3.out.below.cell (p := ⟨by_, oy + q, none⟩) hby).trans HCY.out⟩) (fun _ => ?_)
          clear hK' K' hown3 hgrow3 g1 e1 hn1 hx1 HA31 HA41 HA51
          try simp only [Act.put, List.setIfInBounds_toArray, List.set_cons_zero, List.set_cons_succ]
          refine Late.one (i := 12) (o := _) (by kernel_rfl) rfl (fun K' hK' => ?_)
          go_simp
          refine hK'.out _ _ (fun h => by cases h) (fun _ => ?_)
          clear hK' K'
          try simp only [Act.put, List.setIfInBounds_toArray, List.set_cons_zero, List.set_cons_succ]
          refine Late.one (i := 13) (o := _) (by kernel_rfl) rfl (fun K' hK' => ?_)
          go_simp
          refine hK'.out _ _ (fun h => by cases h) (fun _ => ?_)
          clear hK' K'
          try simp only [Act.put, List.setIfInBounds_toArray, List.set_cons_zero, List.set_cons_succ]
          refine Late.done (by kernel_rfl) ?_ _
          go_wp2_with fail
          refine ⟨?rel, ?measure⟩
          case rel =>
            have hDw : w.heap.size ≤ D := by omega
            refine ⟨k + 1, _, by omega, by go_num, Lib.hid (HE3.out.setCell (by show w.heap.size ≤ D + 1; omega) _), Lib.hid (HA33.out.far (by show w.heap.size + 1 + 1 ≠ D + 1; omega) _), Lib.hid (HA43.out.far (by show w.heap.size + 1 + 1 + 1 ≠ D + 1; omega) _), Lib.hid (by simpa using HA53.out.put 1 _), Lib.hid ?_⟩
            rw [List.range_succ, List.map_append, List.map_cons, List.map_nil, show nth t3 (im t2 k) = z from HQ3.out]
            exact HG3.out.set HA53.out (by decide) _ _
          case measure => simp [intOf]; omega
        · obtain rfl : k = t2.length := by omega
          obtain ⟨A', n', rfl, hO⟩ := HG.out.own
          have f4 := HA4.out.free 0
          have f4' := HA4.out.free 1
          have c4 := HA4.out.cell 0
          have c4' := HA4.out.cell 1
          rw [List.length_map, List.length_range] at c5'
          clear hO
          go_wp2_with fail
          have H4 := HA4.out.put2 (u := .int .i64 (M : Int)) (v := .slice A' t2.length n')
          have c4 := H4.cell 0
          have c4' := H4.cell 1
          refine bodyPost_ret (v := .tuple #[.agg #[.int .i64 (M : Int), .slice A' t2.length n'], .int .i64 0]) (by simp [results, Try.results40, go_sem, c4, c4']) rfl (RsPost.of ⟨A', n', by rw [HQ.out.1, HQ.out.2.1, HQ.out.2.2]; simp, (HE.out.setCell (by show w.heap.size ≤ w.heap.size + 1 + 1 + 1; omega) _).setCell (by show w.heap.size ≤ w.heap.size + 1 + 1 + 1; omega) _, ?_⟩)
          obtain ⟨A2, n2, e2, hO⟩ := ((HG.out.set HA4.out (by decide) 0 (.int .i64 (M : Int))).set (HA4.out.put 0 (.int .i64 (M : Int))) (by decide) 1 (.slice A' t2.length n')).own
          simp only [Value.slice.injEq] at e2
          obtain ⟨rfl, _, rfl⟩ := e2
          rw [HQ.out.2.1]
          exact hO

end Go.Proofs.Ytdehalkebneaoaa
