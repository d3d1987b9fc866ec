/- DualModule: both contracts. -/
import Derived.Test.YtdehalkebneaoaaIv
import Derived.Test.YtdehalkebneaoaaMw
import Derived.Test.YtdehalkebneaoaaMf
import Derived.Test.YtdehalkebneaoaaLt
namespace Go.Proofs.Ytdehalkebneaoaa
open Go.RowKit

noncomputable def qDualModule0 (t : List (List Int)) (m : Int) (us : List Int) : Int := if gmB t m us = true then m else 0
noncomputable def yDualModule0 (t : List (List Int)) (m : Int) (us : List Int) : List Int := if gmB t m us = true then (List.range t.length).map fun x => nth us (iv t x) else []
noncomputable def qDualModule1 (t : List (List Int)) (m : Int) (us : List Int) : Int := gmC t m us
section
variable {t : List (List Int)} {m : Int} {us : List Int}
theorem dl_none (h : gmB t m us = false) : qDualModule0 t m us = 0 ∧ yDualModule0 t m us = [] ∧ qDualModule1 t m us = 1 := ⟨by simp [qDualModule0, h], by simp [yDualModule0, h], gmC_no h⟩
theorem dl_yes (h : gmB t m us = true) : qDualModule0 t m us = m ∧ yDualModule0 t m us = (List.range t.length).map (fun x => nth us (iv t x)) ∧ qDualModule1 t m us = 0 := ⟨by simp [qDualModule0, h], by simp [yDualModule0, h], gmC_yes h⟩
theorem dualModule_small0 (t : List (List Int)) (m : Int) (us : List Int) : (yDualModule0 t m us).length ≤ 1048576 := by
  unfold yDualModule0
  split
  · rename_i h
    obtain ⟨M, _, hF⟩ := gmB_f h
    have := hF.g.n8
    simp
    omega
  · simp
end

set_option maxRecDepth 100000 in
set_option maxHeartbeats 4000000 in
theorem specDualModule_ex (t0 : List (List Int)) (m1 : Int) (t1 : List Int) : ∀ (B0 : Option Addr) (d0 : Nat) (B1 : Option Addr) (d1 : Nat) (W : World), RwsW W B0 t0 → IntsW W B1 t1 → SmallT t0 → t1.length ≤ 1048576 →
    Calls Try.prog 33 #[.agg #[.slice B0 t0.length d0], .agg #[.int .i64 m1, .slice B1 t1.length d1]] W fun e W' => ∃ (C0 : Option Addr) (e0 : Nat), e = .returned (.tuple #[.agg #[.int .i64 (qDualModule0 t0 m1 t1), .slice C0 (yDualModule0 t0 m1 t1).length e0], .int .i64 (qDualModule1 t0 m1 t1)]) ∧ Ex W W' ∧ OwnL W' W.heap.size W'.heap.size C0 (yDualModule0 t0 m1 t1) := by
  intro B0 d0 B1 d1 w hR hX hs hx
  obtain ⟨i0, hi, hi0, hi1, hi2⟩ := info_parts infoI
  have e0 : Ex w ((((w.alloc (.cells #[.slice B0 t0.length d0] 29)).alloc (.cells #[.int .i64 m1, .slice B1 t1.length d1] 36)).alloc (.cells #[.int .i64 0, .slice none 0 0] 36)).alloc (.cells #[.int .i64 m1, .slice B1 t1.length d1] 36)) := ((((Ex.refl w).alloc _).alloc _).alloc _).alloc _
  have b0 : Has ((((w.alloc (.cells #[.slice B0 t0.length d0] 29)).alloc (.cells #[.int .i64 m1, .slice B1 t1.length d1] 36)).alloc (.cells #[.int .i64 0, .slice none 0 0] 36)).alloc (.cells #[.int .i64 m1, .slice B1 t1.length d1] 36)) (w.heap.size) 29 #[.slice B0 t0.length d0] := ((((Has.newAt (w := w) (e := 29) (cs := #[.slice B0 t0.length d0]) (k := w.heap.size) (by simp)).alloc _).alloc _).alloc _)
  have b1 : Has ((((w.alloc (.cells #[.slice B0 t0.length d0] 29)).alloc (.cells #[.int .i64 m1, .slice B1 t1.length d1] 36)).alloc (.cells #[.int .i64 0, .slice none 0 0] 36)).alloc (.cells #[.int .i64 m1, .slice B1 t1.length d1] 36)) (w.heap.size + 1) 36 #[.int .i64 m1, .slice B1 t1.length d1] := (((Has.newAt (w := (w.alloc (.cells #[.slice B0 t0.length d0] 29))) (e := 36) (cs := #[.int .i64 m1, .slice B1 t1.length d1]) (k := w.heap.size + 1) (by simp)).alloc _).alloc _)
  have b2 : Has ((((w.alloc (.cells #[.slice B0 t0.length d0] 29)).alloc (.cells #[.int .i64 m1, .slice B1 t1.length d1] 36)).alloc (.cells #[.int .i64 0, .slice none 0 0] 36)).alloc (.cells #[.int .i64 m1, .slice B1 t1.length d1] 36)) (w.heap.size + 1 + 1) 36 #[.int .i64 0, .slice none 0 0] := ((Has.newAt (w := ((w.alloc (.cells #[.slice B0 t0.length d0] 29)).alloc (.cells #[.int .i64 m1, .slice B1 t1.length d1] 36))) (e := 36) (cs := #[.int .i64 0, .slice none 0 0]) (k := w.heap.size + 1 + 1) (by simp)).alloc _)
  have b3 : Has ((((w.alloc (.cells #[.slice B0 t0.length d0] 29)).alloc (.cells #[.int .i64 m1, .slice B1 t1.length d1] 36)).alloc (.cells #[.int .i64 0, .slice none 0 0] 36)).alloc (.cells #[.int .i64 m1, .slice B1 t1.length d1] 36)) (w.heap.size + 1 + 1 + 1) 36 #[.int .i64 m1, .slice B1 t1.length d1] := (Has.newAt (w := (((w.alloc (.cells #[.slice B0 t0.length d0] 29)).alloc (.cells #[.int .i64 m1, .slice B1 t1.length d1] 36)).alloc (.cells #[.int .i64 0, .slice none 0 0] 36))) (e := 36) (cs := #[.int .i64 m1, .slice B1 t1.length d1]) (k := w.heap.size + 1 + 1 + 1) (by simp))
  have HC := Lib.hid (l02Code_ex B0 B1 t0 m1 t1 d0 d1 (w.heap.size + 1 + 1 + 1) _ (hR.ex e0) (hX.ex e0) hs hx b3)
  cases hg : gmB t0 m1 t1 with
  | false =>
    have HQ := Lib.hid (dl_none hg)
    rw [gmC_no hg] at HC
    clear hg
    go_enter Try.func33, Try.ntmps33
    go_wp2_with fail
    generalize ((((w.alloc (.cells #[.slice B0 t0.length d0] 29)).alloc (.cells #[.int .i64 m1, .slice B1 t1.length d1] 36)).alloc (.cells #[.int .i64 0, .slice none 0 0] 36)).alloc (.cells #[.int .i64 m1, .slice B1 t1.length d1] 36)) = W0 at *
    refine HC.out.mono ?_
    rintro e W1 ⟨rfl, he1⟩
    have HB2 := Lib.hid (b2.ex he1)
    have c2 := HB2.out.cell 0
    have c2' := HB2.out.cell 1
    have f2 := HB2.out.free 0
    have f2' := HB2.out.free 1
    clear b0 b1 b2 b3
    go_wp2_with fail
    have H4 := HB2.out.put2 (u := .int .i64 0) (v := .slice none 0 0)
    have c4 := H4.cell 0
    have c4' := H4.cell 1
    refine bodyPost_ret (v := .tuple #[.agg #[.int .i64 0, .slice none 0 0], .int .i64 1]) (by simp [results, Try.results33, go_sem, c4, c4']) rfl ⟨none, 0, by rw [HQ.out.1, HQ.out.2.1, HQ.out.2.2]; rfl, ((e0.trans he1).setCell (by show w.heap.size ≤ w.heap.size + 1 + 1; omega) _).setCell (by show w.heap.size ≤ w.heap.size + 1 + 1; omega) _, by rw [HQ.out.2.1]; exact OwnL.nil _ _ _ (Nat.le_refl _)⟩
  | true =>
    have HQ := Lib.hid (dl_yes hg)
    rw [gmC_yes hg] at HC
    obtain ⟨M, rfl, hF⟩ := gmB_f hg
    have hn8 := hF.g.n8
    have HLEN := Lib.hid hF.len
    have HGR := Lib.hid hF.g
    have hl8 : t1.length ≤ 8 := by rw [hF.len]; exact hF.g.n8
    have HX := Lib.hid hX
    have HR := Lib.hid hR
    clear hs hF hg hR
    go_enter Try.func33, Try.ntmps33
    go_wp2_with fail
    generalize ((((w.alloc (.cells #[.slice B0 t0.length d0] 29)).alloc (.cells #[.int .i64 (M : Int), .slice B1 t1.length d1] 36)).alloc (.cells #[.int .i64 0, .slice none 0 0] 36)).alloc (.cells #[.int .i64 (M : Int), .slice B1 t1.length d1] 36)) = W0 at *
    refine HC.out.mono ?_
    rintro e W1 ⟨rfl, he1⟩
    have h0 := b0.ex he1
    have h1 := b1.ex he1
    have h2 := b2.ex he1
    have c1 := h1.cell 0
    have HE1 := Lib.hid (e0.trans he1)
    have a0 := (h0.alloc (.cells #[] 2)).alloc (.cells #[.int .i64 (M : Int), .slice (some ⟨W1.heap.size, 0, none⟩) 0 0] 36)
    have a1 := (h1.alloc (.cells #[] 2)).alloc (.cells #[.int .i64 (M : Int), .slice (some ⟨W1.heap.size, 0, none⟩) 0 0] 36)
    have a2 := (h2.alloc (.cells #[] 2)).alloc (.cells #[.int .i64 (M : Int), .slice (some ⟨W1.heap.size, 0, none⟩) 0 0] 36)
    have a3 := Has.newAt (w := W1.alloc (.cells #[] 2)) (e := 36) (cs := #[.int .i64 (M : Int), .slice (some ⟨W1.heap.size, 0, none⟩) 0 0]) (k := W1.heap.size + 1) (by simp)
    have g0 := (GrowI.empty (lo := w.heap.size) W1 HE1.out.size).ex (Ex.new _ (.cells #[.int .i64 (M : Int), .slice (some ⟨W1.heap.size, 0, none⟩) 0 0] 36))
    have e4 := (HE1.out.alloc (.cells #[] 2)).alloc (.cells #[.int .i64 (M : Int), .slice (some ⟨W1.heap.size, 0, none⟩) 0 0] 36)
    have hz2 := h2.lt
    obtain ⟨D, hD⟩ : ∃ D, W1.heap.size = D := ⟨_, rfl⟩
    clear h0 h1 h2 b0 b1 b2 b3 e0 he1
    go_wp2_with fail
    rw [hD] at a0 a1 a2 a3 g0 e4 hz2
    generalize (W1.alloc (.cells #[] 2)).alloc (.cells #[.int .i64 (M : Int), .slice (some ⟨D, 0, none⟩) 0 0] 36) = W2 at *
    have HB0 := Lib.hid a0
    have HB1 := Lib.hid a1
    have HB2 := Lib.hid a2
    have HB3 := Lib.hid a3
    have HG0 := Lib.hid g0
    have HE0 := Lib.hid e4
    clear a0 a1 a2 a3 g0 e4 c1 hD
    go_loopw [8] (fun i wr => ∃ (k : Nat) (v : Value), k ≤ t1.length ∧ i = .int .i64 (k : Int) ∧ Hid (Ex w wr) ∧ Hid (Has wr w.heap.size 29 #[.slice B0 t0.length d0]) ∧ Hid (Has wr (w.heap.size + 1) 36 #[.int .i64 (M : Int), .slice B1 t1.length d1]) ∧ Hid (Has wr (w.heap.size + 1 + 1) 36 #[.int .i64 0, .slice none 0 0]) ∧
      Hid (Has wr (D + 1) 36 #[.int .i64 (M : Int), v]) ∧ Hid (GrowI wr w.heap.size v k ((List.range k).map fun x => nth t1 (iv t0 x)))) (fun i _ => t1.length - (intOf i).toNat)
    case atStart => exact ⟨0, _, Nat.zero_le _, rfl, HE0, HB0, HB1, HB2, HB3, HG0⟩
    case round =>
      obtain ⟨k, v, hk, rfl, HE, HA0, HA1, HA2, HA3, HG⟩ := hrel
      have c1 := HA1.out.cell 0
      have c1' := HA1.out.cell 1
      have c3 := HA3.out.cell 0
      have c3' := HA3.out.cell 1
      by_cases hlt : k < t1.length
      · have hkt : k < t0.length := by rw [← HLEN.out]; exact hlt
        have hiv := (iv_spec HGR.out hkt).1
        have hiv1 : iv t0 k < t1.length := by rw [HLEN.out]; exact hiv
        obtain ⟨bx, ox, rfl, hbx, hcx⟩ := HX.out.ints.at_ hiv1
        have HIV := Lib.hid (fun W h => l01Inverse_any B0 t0 d0 k W h HGR.out hkt)
        obtain ⟨i, hi'⟩ : ∃ i, iv t0 k = i := ⟨_, rfl⟩
        obtain ⟨z, hz'⟩ : ∃ z, nth t1 i = z := ⟨_, rfl⟩
        have HZ : Hid (nth t1 (iv t0 k) = z) := Lib.hid (by rw [hi', hz'])
        rw [hi'] at HIV hcx hiv1
        rw [hz'] at hcx
        have hi0' : (0 : Int) ≤ (i : Int) := by omega
        have hin : (i : Int) < (t1.length : Int) := by omega
        have HCX := Lib.hid hcx
        have hxc : wr.cell? ⟨bx, ox + i, none⟩ = some (.int .i64 z) := (HE.out.below.cell (p := ⟨bx, ox + i, none⟩) hbx).trans hcx
        clear hi' hz' hcx hkt hiv
        go_wp2_with fail
        refine Late.region (C := fun w' => w'.cell? ⟨D + 1, 1, none⟩ = some v ∧ w'.cell? ⟨w.heap.size + 1, 1, none⟩ = some (.slice (some ⟨bx, ox, none⟩) t1.length d1) ∧ w'.cell? ⟨w.heap.size, 0, none⟩ = some (.slice B0 t0.length d0) ∧ w'.cell? ⟨bx, ox + i, none⟩ = some (.int .i64 z)) (fun j => decide (j < 11)) (by kernel_rfl) ⟨c3', c1', HA0.out.cell 0, hxc⟩ (fun hC => ?_)
        refine Late.take (i := 0) (oi := _) (v := ?_) rfl (by kernel_rfl) (by kernel_rfl) (by kernel_rfl) (by kernel_rfl) (fun _ _ _ h => h) (Or.inl ⟨by rfl, ?_⟩) hC ?_
        rotate_left
        · (intro w hSw; (try dsimp only at hSw); go_simp; first | done | with_reducible rfl)
        simp only [Act.put, List.setIfInBounds_toArray, List.set_cons_zero, List.set_cons_succ]
        refine Late.take (i := 1) (oi := _) (v := ?_) rfl (by kernel_rfl) (by kernel_rfl) (by kernel_rfl) (by kernel_rfl) (fun _ _ _ h => h) (Or.inl ⟨by rfl, ?_⟩) hC ?_
        rotate_left
        · (intro w hSw; (try dsimp only at hSw); go_simp; first | done | with_reducible rfl)
        simp only [Act.put, List.setIfInBounds_toArray, List.set_cons_zero, List.set_cons_succ]
        refine Late.take (i := 2) (oi := _) (v := ?_) rfl (by kernel_rfl) (by kernel_rfl) (by kernel_rfl) (by kernel_rfl) (fun _ _ _ h => h) (Or.inl ⟨by rfl, ?_⟩) hC ?_
        rotate_left
        · (intro w hSw; (try dsimp only at hSw); go_simp; first | done | with_reducible rfl)
        simp only [Act.put, List.setIfInBounds_toArray, List.set_cons_zero, List.set_cons_succ]
        refine Late.take (i := 3) (oi := _) (v := ?_) rfl (by kernel_rfl) (by kernel_rfl) (by kernel_rfl) (by kernel_rfl) (fun _ _ _ h => h) (Or.inl ⟨by rfl, ?_⟩) hC ?_
        rotate_left
        · (intro w hSw; (try dsimp only at hSw); go_simp; first | done | with_reducible rfl)
        simp only [Act.put, List.setIfInBounds_toArray, List.set_cons_zero, List.set_cons_succ]
        refine Late.take (i := 4) (oi := _) (v := ?_) rfl (by kernel_rfl) (by kernel_rfl) (by kernel_rfl) (by kernel_rfl) (fun _ _ _ h => h) (Or.inl ⟨by rfl, ?_⟩) hC ?_
        rotate_left
        · (intro w hSw; (try dsimp only at hSw); go_simp; first | done | with_reducible rfl)
        simp only [Act.put, List.setIfInBounds_toArray, List.set_cons_zero, List.set_cons_succ]
        refine Late.take (i := 5) (oi := _) (v := ?_) rfl (by kernel_rfl) (by kernel_rfl) (by kernel_rfl) (by kernel_rfl) (fun _ _ _ h => h) (Or.inl ⟨by rfl, ?_⟩) hC ?_
        rotate_left
        · (intro w hSw; (try dsimp only at hSw); go_simp; first | done | with_reducible rfl)
        simp only [Act.put, List.setIfInBounds_toArray, List.set_cons_zero, List.set_cons_succ]
        refine Late.one (i := 6) (o := _) (by kernel_rfl) rfl (fun K' hK' => ?_)
        go_simp
        refine (HIV.out wr.drew (HR.out.ex HE.out.drew)).mono ?_
        rintro e W6 ⟨rfl, he6⟩
        have HE6 := Lib.hid (HE.out.drew.trans he6)
        have HA06 := Lib.hid (Has.ex (w := wr.drew) HA0.out he6)
        have HA16 := Lib.hid (Has.ex (w := wr.drew) HA1.out he6)
        have HA26 := Lib.hid (Has.ex (w := wr.drew) HA2.out he6)
        have HA36 := Lib.hid (Has.ex (w := wr.drew) HA3.out he6)
        have HG6 := Lib.hid (HG.out.ex ((Ex.refl wr).drew.trans he6))
        have hx6 : W6.cell? ⟨bx, ox + i, none⟩ = some (.int .i64 z) := (HE6.out.below.cell (p := ⟨bx, ox + i, none⟩) hbx).trans HCX.out
        refine hK'.out _ _ (fun _ => ⟨HA36.out.cell 1, HA16.out.cell 1, HA06.out.cell 0, hx6⟩) (fun hC => ?_)
        have hC6 := hC rfl
        clear hK' K' c1 c1' c3 c3' hxc hC HE HA0 HA1 HA2 HA3 HG
        try simp only [Act.put, List.setIfInBounds_toArray, List.set_cons_zero, List.set_cons_succ]
        refine Late.take (i := 7) (oi := _) (v := ?_) rfl (by kernel_rfl) (by kernel_rfl) (by kernel_rfl) (by kernel_rfl) (fun _ _ _ h => h) (Or.inl ⟨by rfl, ?_⟩) hC6 ?_
        rotate_left
        · (intro w hSw; (try dsimp only at hSw); go_simp; first | done | with_reducible rfl)
        simp only [Act.put, List.setIfInBounds_toArray, List.set_cons_zero, List.set_cons_succ]
        refine Late.take (i := 8) (oi := _) (v := ?_) rfl (by kernel_rfl) (by kernel_rfl) (by kernel_rfl) (by kernel_rfl) (fun _ _ _ h => h) (Or.inl ⟨by rfl, ?_⟩) hC6 ?_
        rotate_left
        · (intro w hSw; (try dsimp only at hSw); go_simp; first | done | with_reducible rfl)
        simp only [Act.put, List.setIfInBounds_toArray, List.set_cons_zero, List.set_cons_succ]
        have HE := HE6
        have HG := HG6
        refine Late.one (i := 9) (o := _) (by kernel_rfl) rfl (fun K' hK' => ?_)
        go_simp
        have e1 := HE.out.alloc (.cells #[.int .i64 z] 2)
        have HA061 := HA06.out.alloc (.cells #[.int .i64 z] 2)
        have HA161 := HA16.out.alloc (.cells #[.int .i64 z] 2)
        have HA261 := HA26.out.alloc (.cells #[.int .i64 z] 2)
        have HA361 := HA36.out.alloc (.cells #[.int .i64 z] 2)
        have g1 := HG.out.ex (Ex.new W6 (.cells #[.int .i64 z] 2))
        have hn1 := cell_one_new W6 (.int .i64 z) 2
        have hz1 : W6.heap.size + 1 = (W6.alloc (.cells #[.int .i64 z] 2)).heap.size := by simp
        have hx1 := Ex.new W6 (.cells #[.int .i64 z] 2)
        refine hK'.out _ _ (fun _ => ⟨HA361.cell 1, HA161.cell 1, HA061.cell 0, (hx1.below.cell (p := ⟨bx, ox + i, none⟩) (by have := HE6.out.size; show bx < _; omega)).trans hx6⟩) (fun _ => ?_)
        clear hK' K'
        generalize W6.alloc (.cells #[.int .i64 z] 2) = w1 at *
        try simp only [Act.put, List.setIfInBounds_toArray, List.set_cons_zero, List.set_cons_succ]
        refine Late.one (i := 10) (o := _) (by kernel_rfl) rfl (fun K' hK' => ?_)
        rw [if_pos (by rfl)]
        refine wp_append_own _ _ _ 25 rfl w.heap.size 2 i0 (.int .i64 0) 1 8 Try.underlying25 hi hi0 hi1 hi2 rfl (by decide) _ _ _ rfl g1.1 ⟨W6.heap.size, 0, none⟩ 1 1 [.int .i64 z] rfl rfl hn1 (by simp [Value.oneCell']) (by unfold maxLen; omega) (by omega) (by have := e1.size; omega) ?_
        intro v' w3 hown3 hgrow3 _
        obtain ⟨g3, cap3, rfl⟩ := ownsRow_succ hown3
        have HE3 := Lib.hid (Ex.grew e1 g1 (Nat.le_refl _) hgrow3)
        have HA063 := Lib.hid (Has.grew HA061 (by decide) g1 hgrow3)
        have HA163 := Lib.hid (Has.grew HA161 (by decide) g1 hgrow3)
        have HA263 := Lib.hid (Has.grew HA261 (by decide) g1 hgrow3)
        have HA363 := Lib.hid (Has.grew HA361 (by decide) g1 hgrow3)
        have HG3 := Lib.hid (g1.snoc hown3)
        have c33 := HA363.out.cell 1
        have f33 := HA363.out.free 1
        refine hK'.out _ _ (fun _ => ⟨HA363.out.cell 1, HA163.out.cell 1, HA063.out.cell 0, (HE3.out.below.cell (p := ⟨bx, ox + i, none⟩) hbx).trans HCX.out⟩) (fun _ => ?_)
        clear hK' K' hown3 hgrow3 g1 e1 hn1 hx1 HA061 HA161 HA261 HA361
        try simp only [Act.put, List.setIfInBounds_toArray, List.set_cons_zero, List.set_cons_succ]
        refine Late.one (i := 11) (o := _) (by kernel_rfl) rfl (fun K' hK' => ?_)
        go_simp
        refine hK'.out _ _ (fun h => by cases h) (fun _ => ?_)
        clear hK' K'
        try simp only [Act.put, List.setIfInBounds_toArray, List.set_cons_zero, List.set_cons_succ]
        refine Late.one (i := 12) (o := _) (by kernel_rfl) rfl (fun K' hK' => ?_)
        go_simp
        refine hK'.out _ _ (fun h => by cases h) (fun _ => ?_)
        clear hK' K'
        try simp only [Act.put, List.setIfInBounds_toArray, List.set_cons_zero, List.set_cons_succ]
        refine Late.done (by kernel_rfl) ?_ _
        go_wp2_with fail
        refine ⟨?rel, ?measure⟩
        case rel =>
          have hDw : w.heap.size ≤ D := by omega
          refine ⟨k + 1, _, by omega, by go_num, Lib.hid (HE3.out.setCell (by show w.heap.size ≤ D + 1; omega) _), Lib.hid (HA063.out.far (by show w.heap.size ≠ D + 1; omega) _), Lib.hid (HA163.out.far (by show w.heap.size + 1 ≠ D + 1; omega) _), Lib.hid (HA263.out.far (by show w.heap.size + 1 + 1 ≠ D + 1; omega) _), Lib.hid (by simpa using HA363.out.put 1 _), Lib.hid ?_⟩
          rw [List.range_succ, List.map_append, List.map_cons, List.map_nil, HZ.out]
          exact HG3.out.set HA363.out (by decide) _ _
        case measure => simp [intOf]; omega
      · obtain rfl : k = t1.length := by omega
        obtain ⟨A', n', rfl, hO⟩ := HG.out.own
        have f1 := HA2.out.free 0
        have f1' := HA2.out.free 1
        have c2 := HA2.out.cell 0
        have c2' := HA2.out.cell 1
        rw [List.length_map, List.length_range] at c3'
        clear hO
        go_wp2_with fail
        have H4 := HA2.out.put2 (u := .int .i64 (M : Int)) (v := .slice A' t1.length n')
        have c4 := H4.cell 0
        have c4' := H4.cell 1
        refine bodyPost_ret (v := .tuple #[.agg #[.int .i64 (M : Int), .slice A' t1.length n'], .int .i64 0]) (by simp [results, Try.results33, go_sem, c4, c4']) rfl ⟨A', n', by rw [HQ.out.1, HQ.out.2.1, HQ.out.2.2]; simp [HLEN.out], (HE.out.setCell (by show w.heap.size ≤ w.heap.size + 1 + 1; omega) _).setCell (by show w.heap.size ≤ w.heap.size + 1 + 1; omega) _, ?_⟩
        obtain ⟨A2, n2, e2, hO⟩ := ((HG.out.set HA2.out (by decide) 0 (.int .i64 (M : Int))).set (HA2.out.put 0 (.int .i64 (M : Int))) (by decide) 1 (.slice A' t1.length n')).own
        simp only [Value.slice.injEq] at e2
        obtain ⟨rfl, _, rfl⟩ := e2
        rw [HQ.out.2.1, ← HLEN.out]
        exact hO

set_option maxRecDepth 100000 in
set_option maxHeartbeats 2000000 in
theorem dualUnit_ex (x b o l c d0 Ba Bg : Nat) (B0 : Option Addr) (t : List (List Int)) (us : List Int) (M : Int) (w : World) (hR : RwsW w B0 t) (hg : IsGrp t) (hx : x < t.length) (hl : l = t.length)
    (hA : Has w Ba 36 #[.int .i64 M, .slice (some ⟨b, o, none⟩) l c]) (hG : Has w Bg 29 #[.slice B0 t.length d0]) (hb : b < w.heap.size) (hc : ∀ k, k < l → w.cell? ⟨b, o + k, none⟩ = some (.int .i64 (nth us k))) :
    Calls Try.prog 80 #[.int .i64 (x : Int), .pointer (some ⟨Ba, 0, none⟩), .pointer (some ⟨Bg, 0, none⟩)] w fun e w' => e = .returned (.int .i64 (nth us (iv t x))) ∧ Ex w w' := by
  have hn8 := hg.n8
  have hil := (iv_spec hg hx).1
  have HIV := Lib.hid (fun W h => inverseOf_any B0 t d0 x W h hg hx)
  obtain ⟨i, hi'⟩ : ∃ i, iv t x = i := ⟨_, rfl⟩
  obtain ⟨z, hz'⟩ : ∃ z, nth us i = z := ⟨_, rfl⟩
  have HZ : Hid (nth us (iv t x) = z) := Lib.hid (by rw [hi', hz'])
  have hci := hc i (by omega)
  rw [hi'] at HIV hil
  rw [hz'] at hci
  have hi0' : (0 : Int) ≤ (i : Int) := by omega
  have hin : (i : Int) < (l : Int) := by omega
  have HR := Lib.hid hR
  have HSK := Lib.hid (fun (W' : World) (he : Ex w.drew W') => And.intro ((Has.ex (w := w.drew) hA he).cell 1) (And.intro ((Has.ex (w := w.drew) hG he).cell 0) ((Below.cell (w := w.drew) he (p := ⟨b, o + i, none⟩) hb).trans hci)))
  clear hi' hz' hc hci hR hA hG hl hg
  go_enter Try.func80, Try.ntmps80
  go_wp2_with fail
  refine wp_region_quiet (C := fun w' => Ex w.drew w') (by kernel_rfl) (by kernel_rfl) (Ex.refl _) ?_
  refine BigFrame.wpQuiet_want (by rfl) fun K hK => ⟨?_, fun w' hC => ?_, hK _ ?_⟩
  rotate_left
  · (obtain ⟨q0, q1, q2⟩ := HSK.out _ hC; go_simp; first | done | with_reducible rfl | exact ⟨rfl, hC⟩)
  clear hK K
  simp only [Act.put, List.setIfInBounds_toArray, List.set_cons_zero, List.set_cons_succ]
  refine BigFrame.wpQuiet_want (by rfl) fun K hK => ⟨?_, fun w' hC => ?_, hK _ ?_⟩
  rotate_left
  · (obtain ⟨q0, q1, q2⟩ := HSK.out _ hC; go_simp; first | done | with_reducible rfl | exact ⟨rfl, hC⟩)
  clear hK K
  simp only [Act.put, List.setIfInBounds_toArray, List.set_cons_zero, List.set_cons_succ]
  refine BigFrame.wpQuiet_want (by rfl) fun K hK => ⟨?_, fun w' hC => ?_, hK _ ?_⟩
  rotate_left
  · (obtain ⟨q0, q1, q2⟩ := HSK.out _ hC; go_simp; first | done | with_reducible rfl | exact ⟨rfl, hC⟩)
  clear hK K
  simp only [Act.put, List.setIfInBounds_toArray, List.set_cons_zero, List.set_cons_succ]
  refine BigFrame.wpQuiet_want (by rfl) fun K hK => ⟨?_, fun w' hC => ?_, hK _ ?_⟩
  rotate_left
  · (obtain ⟨q0, q1, q2⟩ := HSK.out _ hC; go_simp; first | done | with_reducible rfl | exact ⟨rfl, hC⟩)
  clear hK K
  simp only [Act.put, List.setIfInBounds_toArray, List.set_cons_zero, List.set_cons_succ]
  refine BigFrame.wpQuiet_want (by rfl) fun K hK => ⟨.int .i64 (i : Int), fun w' hC => (by go_simp; refine ((HIV.out w' (HR.out.ex ((Ex.refl w).drew.trans hC)))).mono ?_; rintro e w2 ⟨rfl, hb⟩; exact ⟨rfl, hC.trans hb⟩), hK _ ?_⟩
  clear hK K
  simp only [Act.put, List.setIfInBounds_toArray, List.set_cons_zero, List.set_cons_succ]
  refine BigFrame.wpQuiet_want (by rfl) fun K hK => ⟨?_, fun w' hC => ?_, hK _ ?_⟩
  rotate_left
  · (obtain ⟨q0, q1, q2⟩ := HSK.out _ hC; go_simp; first | done | with_reducible rfl | exact ⟨rfl, hC⟩)
  clear hK K
  simp only [Act.put, List.setIfInBounds_toArray, List.set_cons_zero, List.set_cons_succ]
  refine BigFrame.wpQuiet_want (by rfl) fun K hK => ⟨?_, fun w' hC => ?_, hK _ ?_⟩
  rotate_left
  · (obtain ⟨q0, q1, q2⟩ := HSK.out _ hC; go_simp; first | done | with_reducible rfl | exact ⟨rfl, hC⟩)
  clear hK K
  simp only [Act.put, List.setIfInBounds_toArray, List.set_cons_zero, List.set_cons_succ]
  refine BigFrame.wpQuiet_want (by rfl) fun K hK => ⟨?_, fun w' hC => ?_, hK _ ?_⟩
  rotate_left
  · (obtain ⟨q0, q1, q2⟩ := HSK.out _ hC; go_simp; first | done | with_reducible rfl | exact ⟨rfl, hC⟩)
  clear hK K
  simp only [Act.put, List.setIfInBounds_toArray, List.set_cons_zero, List.set_cons_succ]
  refine wpQuiet_nil ?_
  intro w2 hC2
  have HC2 := Lib.hid hC2
  clear hC2
  go_wp2_with fail
  go_ret
  exact ⟨by rw [HZ.out]; rfl, (Ex.refl w).drew.trans HC2.out⟩

set_option maxRecDepth 100000 in
set_option maxHeartbeats 2000000 in
theorem implDualModule_ex (t0 : List (List Int)) (m1 : Int) (t1 : List Int) : ∀ (B0 : Option Addr) (d0 : Nat) (B1 : Option Addr) (d1 : Nat) (W : World), RwsW W B0 t0 → IntsW W B1 t1 → SmallT t0 → t1.length ≤ 1048576 →
    Calls Try.prog 35 #[.agg #[.slice B0 t0.length d0], .agg #[.int .i64 m1, .slice B1 t1.length d1]] W fun e W' => ∃ (C0 : Option Addr) (e0 : Nat), e = .returned (.tuple #[.agg #[.int .i64 (qDualModule0 t0 m1 t1), .slice C0 (yDualModule0 t0 m1 t1).length e0], .int .i64 (qDualModule1 t0 m1 t1)]) ∧ Ex W W' ∧ OwnL W' W.heap.size W'.heap.size C0 (yDualModule0 t0 m1 t1) := by
  intro B0 d0 B1 d1 w hR hX hs hx
  have e0 : Ex w (((w.alloc (.cells #[.slice B0 t0.length d0] 29)).alloc (.cells #[.int .i64 m1, .slice B1 t1.length d1] 36)).alloc (.cells #[.int .i64 0, .slice none 0 0] 36)) := (((Ex.refl w).alloc _).alloc _).alloc _
  have b0 : Has (((w.alloc (.cells #[.slice B0 t0.length d0] 29)).alloc (.cells #[.int .i64 m1, .slice B1 t1.length d1] 36)).alloc (.cells #[.int .i64 0, .slice none 0 0] 36)) (w.heap.size) 29 #[.slice B0 t0.length d0] := (((Has.newAt (w := w) (e := 29) (cs := #[.slice B0 t0.length d0]) (k := w.heap.size) (by simp)).alloc _).alloc _)
  have b1 : Has (((w.alloc (.cells #[.slice B0 t0.length d0] 29)).alloc (.cells #[.int .i64 m1, .slice B1 t1.length d1] 36)).alloc (.cells #[.int .i64 0, .slice none 0 0] 36)) (w.heap.size + 1) 36 #[.int .i64 m1, .slice B1 t1.length d1] := ((Has.newAt (w := (w.alloc (.cells #[.slice B0 t0.length d0] 29))) (e := 36) (cs := #[.int .i64 m1, .slice B1 t1.length d1]) (k := w.heap.size + 1) (by simp)).alloc _)
  have b2 : Has (((w.alloc (.cells #[.slice B0 t0.length d0] 29)).alloc (.cells #[.int .i64 m1, .slice B1 t1.length d1] 36)).alloc (.cells #[.int .i64 0, .slice none 0 0] 36)) (w.heap.size + 1 + 1) 36 #[.int .i64 0, .slice none 0 0] := (Has.newAt (w := ((w.alloc (.cells #[.slice B0 t0.length d0] 29)).alloc (.cells #[.int .i64 m1, .slice B1 t1.length d1] 36))) (e := 36) (cs := #[.int .i64 0, .slice none 0 0]) (k := w.heap.size + 1 + 1) (by simp))
  have HC := Lib.hid (isModule_ex B0 B1 t0 m1 t1 d0 d1 _ (hR.ex e0) (hX.ex e0) hs hx)
  cases hg : gmB t0 m1 t1 with
  | false =>
    have HQ := Lib.hid (dl_none hg)
    rw [hg] at HC
    clear hg
    go_enter Try.func35, Try.ntmps35
    go_wp2_with fail
    generalize (((w.alloc (.cells #[.slice B0 t0.length d0] 29)).alloc (.cells #[.int .i64 m1, .slice B1 t1.length d1] 36)).alloc (.cells #[.int .i64 0, .slice none 0 0] 36)) = W0 at *
    refine HC.out.mono ?_
    rintro e W1 ⟨rfl, he1⟩
    have HB2 := Lib.hid (b2.ex he1)
    have c2 := HB2.out.cell 0
    have c2' := HB2.out.cell 1
    have f2 := HB2.out.free 0
    have f2' := HB2.out.free 1
    clear b0 b1 b2
    go_wp2_with fail
    have H4 := HB2.out.put2 (u := .int .i64 0) (v := .slice none 0 0)
    have c4 := H4.cell 0
    have c4' := H4.cell 1
    refine bodyPost_ret (v := .tuple #[.agg #[.int .i64 0, .slice none 0 0], .int .i64 1]) (by simp [results, Try.results35, go_sem, c4, c4']) rfl ⟨none, 0, by rw [HQ.out.1, HQ.out.2.1, HQ.out.2.2]; rfl, ((e0.trans he1).setCell (by show w.heap.size ≤ w.heap.size + 1 + 1; omega) _).setCell (by show w.heap.size ≤ w.heap.size + 1 + 1; omega) _, by rw [HQ.out.2.1]; exact OwnL.nil _ _ _ (Nat.le_refl _)⟩
  | true =>
    have HQ := Lib.hid (dl_yes hg)
    rw [hg] at HC
    obtain ⟨M, rfl, hF⟩ := gmB_f hg
    have hn8 := hF.g.n8
    have HLEN := Lib.hid hF.len
    have HGR := Lib.hid hF.g
    have hpos : 0 < t1.length := by rw [hF.len]; exact hF.g.n1
    have HX := Lib.hid hX
    have HR := Lib.hid hR
    clear hs hF hg hR
    go_enter Try.func35, Try.ntmps35
    go_wp2_with fail
    generalize (((w.alloc (.cells #[.slice B0 t0.length d0] 29)).alloc (.cells #[.int .i64 (M : Int), .slice B1 t1.length d1] 36)).alloc (.cells #[.int .i64 0, .slice none 0 0] 36)) = W0 at *
    refine HC.out.mono ?_
    rintro e W1 ⟨rfl, he1⟩
    have HBG := Lib.hid (b0.ex he1)
    have HBA := Lib.hid (b1.ex he1)
    have HB2 := Lib.hid (b2.ex he1)
    have c0 := HBG.out.cell 0
    have c1 := HBA.out.cell 0
    have HE1 := Lib.hid (e0.trans he1)
    clear b0 b1 b2 e0 he1
    go_wp2_with fail
    obtain ⟨bx, ox, rfl, hbx, hcx⟩ := HX.out.ints.at_ hpos
    have hcx' : ∀ k, k < t1.length → w.cell? ⟨bx, ox + k, none⟩ = some (.int .i64 (nth t1 k)) := fun k hk => by
      obtain ⟨b', o', e', _, hc'⟩ := HX.out.ints.at_ hk
      cases e'
      exact hc'
    refine (moduleWith_any B0 t0.length d0 (M : Int) 80 _ (fun x => nth t1 (iv t0 x)) W1 (by omega) (enters_of Try.func80 (by kernel_rfl) rfl) (fun W' hW' x hx => ?_)).mono ?_
    · have hEW := HE1.out.trans hW'
      exact dualUnit_ex x bx ox t1.length d1 d0 _ _ B0 t0 t1 (M : Int) W' (HR.out.ex hEW) HGR.out hx HLEN.out (HBA.out.ex hW') (HBG.out.ex hW') (by have := hEW.size; omega) (fun k hk => (hEW.below.cell (p := ⟨bx, ox + k, none⟩) hbx).trans (hcx' k hk))
    rintro e W2 ⟨A2, n2, rfl, he2, ho2⟩
    have HB2' := Lib.hid (HB2.out.ex he2)
    have HO2 := Lib.hid ho2
    have c2 := HB2'.out.cell 0
    have c2' := HB2'.out.cell 1
    have f2 := HB2'.out.free 0
    have f2' := HB2'.out.free 1
    have hzl := HB2.out.lt
    clear ho2 hcx hcx'
    go_wp2_with fail
    have H4 := HB2'.out.put2 (u := .int .i64 (M : Int)) (v := .slice A2 t0.length n2)
    have c4 := H4.cell 0
    have c4' := H4.cell 1
    refine bodyPost_ret (v := .tuple #[.agg #[.int .i64 (M : Int), .slice A2 t0.length n2], .int .i64 0]) (by simp [results, Try.results35, go_sem, c4, c4']) rfl ⟨A2, n2, by rw [HQ.out.1, HQ.out.2.1, HQ.out.2.2]; simp, ((HE1.out.trans he2).setCell (by show w.heap.size ≤ w.heap.size + 1 + 1; omega) _).setCell (by show w.heap.size ≤ w.heap.size + 1 + 1; omega) _, ?_⟩
    rw [HQ.out.2.1]
    exact ((HO2.out.above (Only.set _ _ _ _) hzl).above (Only.set _ _ _ _) hzl).mono HE1.out.size (by simp) (Nat.le_refl _)

end Go.Proofs.Ytdehalkebneaoaa
