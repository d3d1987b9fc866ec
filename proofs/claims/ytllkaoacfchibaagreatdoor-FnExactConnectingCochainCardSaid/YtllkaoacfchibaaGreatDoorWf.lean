/- Chapter 8: cochains with all values multiplied, and with their rests; the code of what is given: the specification's. -/
import Derived.Test.YtllkaoacfchibaaGreatDoorWb
import Derived.Test.YtllkaoacfchibaaGreatDoorWd
namespace Go.Proofs.YtllkaoacfchibaaGreatDoor
open Go.RowKit

set_option maxRecDepth 100000 in
set_option maxHeartbeats 8000000 in
theorem l08Times_any (Fa : Option Addr) (n : Int) (fs : List Int) (q c1 : Nat) (w : World) (hX : IntsW w Fa fs) (hfl : fs.length ≤ 343) (hfr : InR 12 fs) (hq : q ≤ 12) :
    Calls Tryz.prog 55 #[.agg #[.int .i64 n, .slice Fa fs.length c1], .int .i64 (q : Int)] w fun e w' => ∃ C0 n0, e = .returned (.agg #[.int .i64 n, .slice C0 fs.length n0]) ∧ Ex w w' ∧ OwnL w' w.heap.size w'.heap.size C0 (tmL fs q) := by
  obtain ⟨i0, hi, hi0, hi1, hi2⟩ := info_parts infoI
  have e0 : Ex w ((w.alloc (.cells #[.int .i64 n, .slice Fa fs.length c1] 33)).alloc (.cells #[.int .i64 0, .slice none 0 0] 33)) := ((Ex.refl w).alloc _).alloc _
  have b0 : Has ((w.alloc (.cells #[.int .i64 n, .slice Fa fs.length c1] 33)).alloc (.cells #[.int .i64 0, .slice none 0 0] 33)) (w.heap.size) 33 #[.int .i64 n, .slice Fa fs.length c1] := ((Has.newAt (w := w) (e := 33) (cs := #[.int .i64 n, .slice Fa fs.length c1]) (k := w.heap.size) (by simp)).alloc _)
  have b1 : Has ((w.alloc (.cells #[.int .i64 n, .slice Fa fs.length c1] 33)).alloc (.cells #[.int .i64 0, .slice none 0 0] 33)) (w.heap.size + 1) 33 #[.int .i64 0, .slice none 0 0] := (Has.newAt (w := (w.alloc (.cells #[.int .i64 n, .slice Fa fs.length c1] 33))) (e := 33) (cs := #[.int .i64 0, .slice none 0 0]) (k := w.heap.size + 1) (by simp))
  have HY := Lib.hid hX
  have HFR := Lib.hid hfr
  have HLV : Hid (tmL fs q = (List.range fs.length).map fun i => (q : Int) * nth fs i) := Lib.hid rfl
  rw [HLV.out]
  clear hX hfr
  have a3 := (b0.alloc (.cells #[] 2)).alloc (.cells #[.int .i64 n, .slice (some ⟨((w.alloc (.cells #[.int .i64 n, .slice Fa fs.length c1] 33)).alloc (.cells #[.int .i64 0, .slice none 0 0] 33)).heap.size, 0, none⟩) 0 0] 33)
  have a4 := (b1.alloc (.cells #[] 2)).alloc (.cells #[.int .i64 n, .slice (some ⟨((w.alloc (.cells #[.int .i64 n, .slice Fa fs.length c1] 33)).alloc (.cells #[.int .i64 0, .slice none 0 0] 33)).heap.size, 0, none⟩) 0 0] 33)
  have a5 := Has.newAt (w := ((w.alloc (.cells #[.int .i64 n, .slice Fa fs.length c1] 33)).alloc (.cells #[.int .i64 0, .slice none 0 0] 33)).alloc (.cells #[] 2)) (e := 33) (cs := #[.int .i64 n, .slice (some ⟨((w.alloc (.cells #[.int .i64 n, .slice Fa fs.length c1] 33)).alloc (.cells #[.int .i64 0, .slice none 0 0] 33)).heap.size, 0, none⟩) 0 0]) (k := ((w.alloc (.cells #[.int .i64 n, .slice Fa fs.length c1] 33)).alloc (.cells #[.int .i64 0, .slice none 0 0] 33)).heap.size + 1) (by simp)
  have g0 := (GrowI.empty (lo := w.heap.size) ((w.alloc (.cells #[.int .i64 n, .slice Fa fs.length c1] 33)).alloc (.cells #[.int .i64 0, .slice none 0 0] 33)) e0.size).ex (Ex.new _ (.cells #[.int .i64 n, .slice (some ⟨((w.alloc (.cells #[.int .i64 n, .slice Fa fs.length c1] 33)).alloc (.cells #[.int .i64 0, .slice none 0 0] 33)).heap.size, 0, none⟩) 0 0] 33))
  have e4 := (e0.alloc (.cells #[] 2)).alloc (.cells #[.int .i64 n, .slice (some ⟨((w.alloc (.cells #[.int .i64 n, .slice Fa fs.length c1] 33)).alloc (.cells #[.int .i64 0, .slice none 0 0] 33)).heap.size, 0, none⟩) 0 0] 33)
  have hz4 := b1.lt
  have c3 := b0.cell 0
  obtain ⟨D, hD⟩ : ∃ D, w.heap.size + 1 + 1 = D := ⟨_, rfl⟩
  have hS : ((w.alloc (.cells #[.int .i64 n, .slice Fa fs.length c1] 33)).alloc (.cells #[.int .i64 0, .slice none 0 0] 33)).heap.size = D := by simp [← hD]
  clear b0 b1 e0
  go_enter Tryz.func55, Tryz.ntmps55
  go_wp2_with fail
  rw [hS] at a3 a4 a5 g0 e4 hz4
  generalize (((w.alloc (.cells #[.int .i64 n, .slice Fa fs.length c1] 33)).alloc (.cells #[.int .i64 0, .slice none 0 0] 33)).alloc (.cells #[] 2)).alloc (.cells #[.int .i64 n, .slice (some ⟨D, 0, none⟩) 0 0] 33) = W5 at *
  have HB3' := Lib.hid a3
  have HB4' := Lib.hid a4
  have HB5 := Lib.hid a5
  have HG0 := Lib.hid g0
  have HE0 := Lib.hid e4
  clear a3 a4 a5 g0 e4 c3 hD hS
  go_loopw [6] (fun i wr => ∃ (k : Nat) (v : Value), k ≤ fs.length ∧ i = .int .i64 (k : Int) ∧ Hid (Ex w wr) ∧ Hid (Has wr w.heap.size 33 #[.int .i64 n, .slice Fa fs.length c1]) ∧ Hid (Has wr (w.heap.size + 1) 33 #[.int .i64 0, .slice none 0 0]) ∧
    Hid (Has wr (D + 1) 33 #[.int .i64 n, v]) ∧ Hid (GrowI wr w.heap.size v k ((List.range k).map fun i => (q : Int) * nth fs i))) (fun i _ => fs.length - (intOf i).toNat)
  case atStart => exact ⟨0, _, Nat.zero_le _, rfl, HE0, HB3', HB4', HB5, HG0⟩
  case round =>
    obtain ⟨k, v, hk, rfl, HE, HA3, HA4, HA5, HG⟩ := hrel
    have c3' := HA3.out.cell 1
    have c5 := HA5.out.cell 0
    have c5' := HA5.out.cell 1
    by_cases hlt : k < fs.length
    · obtain ⟨by_, oy, rfl, hby, hcy⟩ := HY.out.ints.at_ hlt
      have hxb := HFR.out k hlt
      obtain ⟨x, hx'⟩ : ∃ x, nth fs k = x := ⟨_, rfl⟩
      rw [hx'] at hcy hxb
      have hxy0 : 0 ≤ (q : Int) * x := Int.mul_nonneg (by omega) hxb.1
      have hxy1 : (q : Int) * x ≤ 144 := by
        have h1 : (q : Int) * x ≤ 12 * x := Int.mul_le_mul_of_nonneg_right (by omega) hxb.1
        omega
      obtain ⟨z, hz'⟩ : ∃ z, (q : Int) * x = z := ⟨_, rfl⟩
      have hwz : IntKind.i64.wrap ((q : Int) * x) = z := by rw [hz']; exact IntWalk.i64_in _ (by omega)
      have HQ3 : Hid ((q : Int) * nth fs k = z) := Lib.hid (by rw [hx', hz'])
      clear hxy0 hxy1 hz'
      clear hx'
      have hi0' : (0 : Int) ≤ (k : Int) := by omega
      have hin : (k : Int) < (fs.length : Int) := by omega
      have HCY := Lib.hid hcy
      have hyc : wr.cell? ⟨by_, oy + k, none⟩ = some (.int .i64 x) := (HE.out.below.cell (p := ⟨by_, oy + k, none⟩) hby).trans hcy
      clear hcy
      go_wp2_with fail
      refine Late.region (C := fun w' => w'.cell? ⟨D + 1, 1, none⟩ = some v ∧ w'.cell? ⟨w.heap.size, 1, none⟩ = some (.slice (some ⟨by_, oy, none⟩) fs.length c1) ∧ w'.cell? ⟨by_, oy + k, none⟩ = some (.int .i64 x)) (fun j => decide (j < 11)) (by kernel_rfl) ⟨c5', c3', hyc⟩ (fun hC => ?_)
      refine Late.take (i := 0) (oi := _) (v := ?_) rfl (by kernel_rfl) (by kernel_rfl) (by kernel_rfl) (by kernel_rfl) (fun _ _ _ h => h) (Or.inl ⟨by rfl, ?_⟩) hC ?_
      rotate_left
      · (intro w hSw; (try dsimp only at hSw); go_simp; first | done | with_reducible rfl)
      simp only [Act.put]
      refine Late.take (i := 1) (oi := _) (v := ?_) rfl (by kernel_rfl) (by kernel_rfl) (by kernel_rfl) (by kernel_rfl) (fun _ _ _ h => h) (Or.inl ⟨by rfl, ?_⟩) hC ?_
      rotate_left
      · (intro w hSw; (try dsimp only at hSw); go_simp; first | done | with_reducible rfl)
      simp only [Act.put]
      refine Late.take (i := 2) (oi := _) (v := ?_) rfl (by kernel_rfl) (by kernel_rfl) (by kernel_rfl) (by kernel_rfl) (fun _ _ _ h => h) (Or.inl ⟨by rfl, ?_⟩) hC ?_
      rotate_left
      · (intro w hSw; (try dsimp only at hSw); go_simp; first | done | with_reducible rfl)
      simp only [Act.put]
      refine Late.take (i := 3) (oi := _) (v := ?_) rfl (by kernel_rfl) (by kernel_rfl) (by kernel_rfl) (by kernel_rfl) (fun _ _ _ h => h) (Or.inl ⟨by rfl, ?_⟩) hC ?_
      rotate_left
      · (intro w hSw; (try dsimp only at hSw); go_simp; first | done | with_reducible rfl)
      simp only [Act.put]
      refine Late.take (i := 4) (oi := _) (v := ?_) rfl (by kernel_rfl) (by kernel_rfl) (by kernel_rfl) (by kernel_rfl) (fun _ _ _ h => h) (Or.inl ⟨by rfl, ?_⟩) hC ?_
      rotate_left
      · (intro w hSw; (try dsimp only at hSw); go_simp; first | done | with_reducible rfl)
      simp only [Act.put]
      refine Late.take (i := 5) (oi := _) (v := ?_) rfl (by kernel_rfl) (by kernel_rfl) (by kernel_rfl) (by kernel_rfl) (fun _ _ _ h => h) (Or.inl ⟨by rfl, ?_⟩) hC ?_
      rotate_left
      · (intro w hSw; (try dsimp only at hSw); go_simp; first | done | with_reducible rfl)
      simp only [Act.put]
      refine Late.take (i := 6) (oi := _) (v := ?_) rfl (by kernel_rfl) (by kernel_rfl) (by kernel_rfl) (by kernel_rfl) (fun _ _ _ h => h) (Or.inl ⟨by rfl, ?_⟩) hC ?_
      rotate_left
      · (intro w hSw; (try dsimp only at hSw); go_simp; first | done | with_reducible rfl)
      simp only [Act.put]
      refine Late.take (i := 7) (oi := _) (v := ?_) rfl (by kernel_rfl) (by kernel_rfl) (by kernel_rfl) (by kernel_rfl) (fun _ _ _ h => h) (Or.inl ⟨by rfl, ?_⟩) hC ?_
      rotate_left
      · (intro w hSw; (try dsimp only at hSw); go_simp; first | done | with_reducible rfl)
      simp only [Act.put]
      refine Late.take (i := 8) (oi := _) (v := ?_) rfl (by kernel_rfl) (by kernel_rfl) (by kernel_rfl) (by kernel_rfl) (fun _ _ _ h => h) (Or.inl ⟨by rfl, ?_⟩) hC ?_
      rotate_left
      · (intro w hSw; (try dsimp only at hSw); go_simp; first | done | with_reducible rfl)
      simp only [Act.put]
      have HE := Lib.hid HE.out.drew
      have HA3 : Hid (Has wr.drew w.heap.size 33 #[.int .i64 n, .slice (some ⟨by_, oy, none⟩) fs.length c1]) := HA3
      have HA4 : Hid (Has wr.drew (w.heap.size + 1) 33 #[.int .i64 0, .slice none 0 0]) := HA4
      have HA5 : Hid (Has wr.drew (D + 1) 33 #[.int .i64 n, v]) := HA5
      have HG := Lib.hid (HG.out.ex (Ex.refl wr).drew)
      have hyc : wr.drew.cell? ⟨by_, oy + k, none⟩ = some (.int .i64 x) := hyc
      clear c3' c5 c5'
      generalize wr.drew = X at *
      refine Late.one (i := 9) (o := _) (by kernel_rfl) rfl (fun K' hK' => ?_)
      go_simp
      have e1 := HE.out.alloc (.cells #[.int .i64 z] 2)
      have HA31 := HA3.out.alloc (.cells #[.int .i64 z] 2)
      have HA41 := HA4.out.alloc (.cells #[.int .i64 z] 2)
      have HA51 := HA5.out.alloc (.cells #[.int .i64 z] 2)
      have g1 := HG.out.ex (Ex.new X (.cells #[.int .i64 z] 2))
      have hn1 := cell_one_new X (.int .i64 z) 2
      have hz1 : X.heap.size + 1 = (X.alloc (.cells #[.int .i64 z] 2)).heap.size := by simp
      have hx1 := Ex.new X (.cells #[.int .i64 z] 2)
      refine hK'.out _ _ (fun _ => ⟨HA51.cell 1, HA31.cell 1, (hx1.below.cell (p := ⟨by_, oy + k, none⟩) (by have := HE.out.size; show by_ < _; omega)).trans hyc⟩) (fun _ => ?_)
      clear hK' K'
      generalize X.alloc (.cells #[.int .i64 z] 2) = w1 at *
      try simp only [Act.put]
      refine Late.one (i := 10) (o := _) (by kernel_rfl) rfl (fun K' hK' => ?_)
      rw [if_pos (by rfl)]
      refine wp_append_own _ _ _ 25 rfl w.heap.size 2 i0 (.int .i64 0) 1 8 Tryz.underlying25 hi hi0 hi1 hi2 rfl (by decide) _ _ _ rfl g1.1 ⟨X.heap.size, 0, none⟩ 1 1 [.int .i64 z] rfl rfl hn1 (by simp [Value.oneCell']) (by unfold maxLen; omega) (by omega) (by have := e1.size; omega) ?_
      intro v' w3 hown3 hgrow3 _
      obtain ⟨g3, cap3, rfl⟩ := ownsRow_succ hown3
      have HE3 := Lib.hid (Ex.grew e1 g1 (Nat.le_refl _) hgrow3)
      have HA33 := Lib.hid (Has.grew HA31 (by decide) g1 hgrow3)
      have HA43 := Lib.hid (Has.grew HA41 (by decide) g1 hgrow3)
      have HA53 := Lib.hid (Has.grew HA51 (by decide) g1 hgrow3)
      have HG3 := Lib.hid (g1.snoc hown3)
      have c33 := HA53.out.cell 1
      have f33 := HA53.out.free 1
      refine hK'.out _ _ (fun _ => ⟨HA53.out.cell 1, HA33.out.cell 1, (HE3.out.below.cell (p := ⟨by_, oy + k, none⟩) hby).trans HCY.out⟩) (fun _ => ?_)
      clear hK' K' hown3 hgrow3 g1 e1 hn1 hx1 HA31 HA41 HA51
      try simp only [Act.put]
      refine Late.one (i := 11) (o := _) (by kernel_rfl) rfl (fun K' hK' => ?_)
      go_simp
      refine hK'.out _ _ (fun h => by cases h) (fun _ => ?_)
      clear hK' K'
      try simp only [Act.put]
      refine Late.one (i := 12) (o := _) (by kernel_rfl) rfl (fun K' hK' => ?_)
      go_simp
      refine hK'.out _ _ (fun h => by cases h) (fun _ => ?_)
      clear hK' K'
      try simp only [Act.put]
      refine Late.done (by kernel_rfl) ?_ _
      go_wp2_with fail
      go_roundw
      case rel =>
        have hDw : w.heap.size ≤ D := by omega
        refine ⟨k + 1, _, by omega, by go_num, Lib.hid (HE3.out.setCell (by show w.heap.size ≤ D + 1; omega) _), Lib.hid (HA33.out.far (by show w.heap.size ≠ D + 1; omega) _), Lib.hid (HA43.out.far (by show w.heap.size + 1 ≠ D + 1; omega) _), Lib.hid (by simpa using HA53.out.put 1 _), Lib.hid ?_⟩
        rw [List.range_succ, List.map_append, List.map_cons, List.map_nil, HQ3.out]
        exact HG3.out.set HA53.out (by decide) _ _
      case measure => simp [intOf]; omega
    · obtain rfl : k = fs.length := by omega
      obtain ⟨A', n', rfl, hO⟩ := HG.out.own
      have f4 := HA4.out.free 0
      have f4' := HA4.out.free 1
      have c4 := HA4.out.cell 0
      have c4' := HA4.out.cell 1
      rw [List.length_map, List.length_range] at c5'
      clear hO
      go_wp2_with fail
      have H4 := HA4.out.put2 (u := .int .i64 n) (v := .slice A' fs.length n')
      have c4 := H4.cell 0
      have c4' := H4.cell 1
      refine bodyPost_ret (v := .agg #[.int .i64 n, .slice A' fs.length n']) (by simp [results, Tryz.results55, go_sem, c4, c4']) rfl ⟨A', n', rfl, (HE.out.setCell (by show w.heap.size ≤ w.heap.size + 1; omega) _).setCell (by show w.heap.size ≤ w.heap.size + 1; omega) _, ?_⟩
      obtain ⟨A2, n2, e2, hO⟩ := ((HG.out.set HA4.out (by decide) 0 (.int .i64 n)).set (HA4.out.put 0 (.int .i64 n)) (by decide) 1 (.slice A' fs.length n')).own
      simp only [Value.slice.injEq] at e2
      obtain ⟨rfl, _, rfl⟩ := e2
      exact hO

set_option maxRecDepth 100000 in
set_option maxHeartbeats 8000000 in
theorem l08Rests_any (Fa : Option Addr) (n : Int) (fs : List Int) (q c1 : Nat) (w : World) (hX : IntsW w Fa fs) (hfl : fs.length ≤ 343) (hfr : InR 12 fs) (hq0 : 0 < q) (hq : q ≤ 12) :
    Calls Tryz.prog 56 #[.agg #[.int .i64 n, .slice Fa fs.length c1], .int .i64 (q : Int)] w fun e w' => ∃ C0 n0, e = .returned (.agg #[.int .i64 n, .slice C0 fs.length n0]) ∧ Ex w w' ∧ OwnL w' w.heap.size w'.heap.size C0 (rsL fs q) := by
  obtain ⟨i0, hi, hi0, hi1, hi2⟩ := info_parts infoI
  have e0 : Ex w ((w.alloc (.cells #[.int .i64 n, .slice Fa fs.length c1] 33)).alloc (.cells #[.int .i64 0, .slice none 0 0] 33)) := ((Ex.refl w).alloc _).alloc _
  have b0 : Has ((w.alloc (.cells #[.int .i64 n, .slice Fa fs.length c1] 33)).alloc (.cells #[.int .i64 0, .slice none 0 0] 33)) (w.heap.size) 33 #[.int .i64 n, .slice Fa fs.length c1] := ((Has.newAt (w := w) (e := 33) (cs := #[.int .i64 n, .slice Fa fs.length c1]) (k := w.heap.size) (by simp)).alloc _)
  have b1 : Has ((w.alloc (.cells #[.int .i64 n, .slice Fa fs.length c1] 33)).alloc (.cells #[.int .i64 0, .slice none 0 0] 33)) (w.heap.size + 1) 33 #[.int .i64 0, .slice none 0 0] := (Has.newAt (w := (w.alloc (.cells #[.int .i64 n, .slice Fa fs.length c1] 33))) (e := 33) (cs := #[.int .i64 0, .slice none 0 0]) (k := w.heap.size + 1) (by simp))
  have HY := Lib.hid hX
  have HFR := Lib.hid hfr
  have HLV : Hid (rsL fs q = (List.range fs.length).map fun i => nth fs i % (q : Int)) := Lib.hid rfl
  rw [HLV.out]
  clear hX hfr
  have a3 := (b0.alloc (.cells #[] 2)).alloc (.cells #[.int .i64 n, .slice (some ⟨((w.alloc (.cells #[.int .i64 n, .slice Fa fs.length c1] 33)).alloc (.cells #[.int .i64 0, .slice none 0 0] 33)).heap.size, 0, none⟩) 0 0] 33)
  have a4 := (b1.alloc (.cells #[] 2)).alloc (.cells #[.int .i64 n, .slice (some ⟨((w.alloc (.cells #[.int .i64 n, .slice Fa fs.length c1] 33)).alloc (.cells #[.int .i64 0, .slice none 0 0] 33)).heap.size, 0, none⟩) 0 0] 33)
  have a5 := Has.newAt (w := ((w.alloc (.cells #[.int .i64 n, .slice Fa fs.length c1] 33)).alloc (.cells #[.int .i64 0, .slice none 0 0] 33)).alloc (.cells #[] 2)) (e := 33) (cs := #[.int .i64 n, .slice (some ⟨((w.alloc (.cells #[.int .i64 n, .slice Fa fs.length c1] 33)).alloc (.cells #[.int .i64 0, .slice none 0 0] 33)).heap.size, 0, none⟩) 0 0]) (k := ((w.alloc (.cells #[.int .i64 n, .slice Fa fs.length c1] 33)).alloc (.cells #[.int .i64 0, .slice none 0 0] 33)).heap.size + 1) (by simp)
  have g0 := (GrowI.empty (lo := w.heap.size) ((w.alloc (.cells #[.int .i64 n, .slice Fa fs.length c1] 33)).alloc (.cells #[.int .i64 0, .slice none 0 0] 33)) e0.size).ex (Ex.new _ (.cells #[.int .i64 n, .slice (some ⟨((w.alloc (.cells #[.int .i64 n, .slice Fa fs.length c1] 33)).alloc (.cells #[.int .i64 0, .slice none 0 0] 33)).heap.size, 0, none⟩) 0 0] 33))
  have e4 := (e0.alloc (.cells #[] 2)).alloc (.cells #[.int .i64 n, .slice (some ⟨((w.alloc (.cells #[.int .i64 n, .slice Fa fs.length c1] 33)).alloc (.cells #[.int .i64 0, .slice none 0 0] 33)).heap.size, 0, none⟩) 0 0] 33)
  have hz4 := b1.lt
  have c3 := b0.cell 0
  obtain ⟨D, hD⟩ : ∃ D, w.heap.size + 1 + 1 = D := ⟨_, rfl⟩
  have hS : ((w.alloc (.cells #[.int .i64 n, .slice Fa fs.length c1] 33)).alloc (.cells #[.int .i64 0, .slice none 0 0] 33)).heap.size = D := by simp [← hD]
  clear b0 b1 e0
  go_enter Tryz.func56, Tryz.ntmps56
  go_wp2_with fail
  rw [hS] at a3 a4 a5 g0 e4 hz4
  generalize (((w.alloc (.cells #[.int .i64 n, .slice Fa fs.length c1] 33)).alloc (.cells #[.int .i64 0, .slice none 0 0] 33)).alloc (.cells #[] 2)).alloc (.cells #[.int .i64 n, .slice (some ⟨D, 0, none⟩) 0 0] 33) = W5 at *
  have HB3' := Lib.hid a3
  have HB4' := Lib.hid a4
  have HB5 := Lib.hid a5
  have HG0 := Lib.hid g0
  have HE0 := Lib.hid e4
  clear a3 a4 a5 g0 e4 c3 hD hS
  go_loopw [6] (fun i wr => ∃ (k : Nat) (v : Value), k ≤ fs.length ∧ i = .int .i64 (k : Int) ∧ Hid (Ex w wr) ∧ Hid (Has wr w.heap.size 33 #[.int .i64 n, .slice Fa fs.length c1]) ∧ Hid (Has wr (w.heap.size + 1) 33 #[.int .i64 0, .slice none 0 0]) ∧
    Hid (Has wr (D + 1) 33 #[.int .i64 n, v]) ∧ Hid (GrowI wr w.heap.size v k ((List.range k).map fun i => nth fs i % (q : Int)))) (fun i _ => fs.length - (intOf i).toNat)
  case atStart => exact ⟨0, _, Nat.zero_le _, rfl, HE0, HB3', HB4', HB5, HG0⟩
  case round =>
    obtain ⟨k, v, hk, rfl, HE, HA3, HA4, HA5, HG⟩ := hrel
    have c3' := HA3.out.cell 1
    have c5 := HA5.out.cell 0
    have c5' := HA5.out.cell 1
    by_cases hlt : k < fs.length
    · obtain ⟨by_, oy, rfl, hby, hcy⟩ := HY.out.ints.at_ hlt
      have hxb := HFR.out k hlt
      obtain ⟨x, hx'⟩ : ∃ x, nth fs k = x := ⟨_, rfl⟩
      rw [hx'] at hcy hxb
      have hne : ((q : Int) != 0) = true := by simp; omega
      have hne0 : ¬ q = 0 := by omega
      have hm0 := Int.emod_nonneg x (show (q : Int) ≠ 0 by omega)
      have hm1 := Int.emod_lt_of_pos x (show (0 : Int) < q by omega)
      obtain ⟨z, hz'⟩ : ∃ z, x % (q : Int) = z := ⟨_, rfl⟩
      have hwz : Int.tmod x (q : Int) = z := by rw [Int.tmod_eq_emod_of_nonneg hxb.1, hz']
      rw [hz'] at hm0 hm1
      have hwz' : IntKind.i64.wrap z = z := IntWalk.i64_in _ (by omega)
      have HQ3 : Hid (nth fs k % (q : Int) = z) := Lib.hid (by rw [hx', hz'])
      clear hz'
      clear hx'
      have hi0' : (0 : Int) ≤ (k : Int) := by omega
      have hin : (k : Int) < (fs.length : Int) := by omega
      have HCY := Lib.hid hcy
      have hyc : wr.cell? ⟨by_, oy + k, none⟩ = some (.int .i64 x) := (HE.out.below.cell (p := ⟨by_, oy + k, none⟩) hby).trans hcy
      clear hcy
      go_wp2_with fail
      refine Late.region (C := fun w' => w'.cell? ⟨D + 1, 1, none⟩ = some v ∧ w'.cell? ⟨w.heap.size, 1, none⟩ = some (.slice (some ⟨by_, oy, none⟩) fs.length c1) ∧ w'.cell? ⟨by_, oy + k, none⟩ = some (.int .i64 x)) (fun j => decide (j < 11)) (by kernel_rfl) ⟨c5', c3', hyc⟩ (fun hC => ?_)
      refine Late.take (i := 0) (oi := _) (v := ?_) rfl (by kernel_rfl) (by kernel_rfl) (by kernel_rfl) (by kernel_rfl) (fun _ _ _ h => h) (Or.inl ⟨by rfl, ?_⟩) hC ?_
      rotate_left
      · (intro w hSw; (try dsimp only at hSw); go_simp; first | done | with_reducible rfl)
      simp only [Act.put]
      refine Late.take (i := 1) (oi := _) (v := ?_) rfl (by kernel_rfl) (by kernel_rfl) (by kernel_rfl) (by kernel_rfl) (fun _ _ _ h => h) (Or.inl ⟨by rfl, ?_⟩) hC ?_
      rotate_left
      · (intro w hSw; (try dsimp only at hSw); go_simp; first | done | with_reducible rfl)
      simp only [Act.put]
      refine Late.take (i := 2) (oi := _) (v := ?_) rfl (by kernel_rfl) (by kernel_rfl) (by kernel_rfl) (by kernel_rfl) (fun _ _ _ h => h) (Or.inl ⟨by rfl, ?_⟩) hC ?_
      rotate_left
      · (intro w hSw; (try dsimp only at hSw); go_simp; first | done | with_reducible rfl)
      simp only [Act.put]
      refine Late.take (i := 3) (oi := _) (v := ?_) rfl (by kernel_rfl) (by kernel_rfl) (by kernel_rfl) (by kernel_rfl) (fun _ _ _ h => h) (Or.inl ⟨by rfl, ?_⟩) hC ?_
      rotate_left
      · (intro w hSw; (try dsimp only at hSw); go_simp; first | done | with_reducible rfl)
      simp only [Act.put]
      refine Late.take (i := 4) (oi := _) (v := ?_) rfl (by kernel_rfl) (by kernel_rfl) (by kernel_rfl) (by kernel_rfl) (fun _ _ _ h => h) (Or.inl ⟨by rfl, ?_⟩) hC ?_
      rotate_left
      · (intro w hSw; (try dsimp only at hSw); go_simp; first | done | with_reducible rfl)
      simp only [Act.put]
      refine Late.take (i := 5) (oi := _) (v := ?_) rfl (by kernel_rfl) (by kernel_rfl) (by kernel_rfl) (by kernel_rfl) (fun _ _ _ h => h) (Or.inl ⟨by rfl, ?_⟩) hC ?_
      rotate_left
      · (intro w hSw; (try dsimp only at hSw); go_simp; first | done | with_reducible rfl)
      simp only [Act.put]
      refine Late.take (i := 6) (oi := _) (v := ?_) rfl (by kernel_rfl) (by kernel_rfl) (by kernel_rfl) (by kernel_rfl) (fun _ _ _ h => h) (Or.inl ⟨by rfl, ?_⟩) hC ?_
      rotate_left
      · (intro w hSw; (try dsimp only at hSw); go_simp; first | done | with_reducible rfl)
      simp only [Act.put]
      refine Late.take (i := 7) (oi := _) (v := ?_) rfl (by kernel_rfl) (by kernel_rfl) (by kernel_rfl) (by kernel_rfl) (fun _ _ _ h => h) (Or.inl ⟨by rfl, ?_⟩) hC ?_
      rotate_left
      · (intro w hSw; (try dsimp only at hSw); go_simp; first | done | with_reducible rfl)
      simp only [Act.put]
      refine Late.take (i := 8) (oi := _) (v := ?_) rfl (by kernel_rfl) (by kernel_rfl) (by kernel_rfl) (by kernel_rfl) (fun _ _ _ h => h) (Or.inl ⟨by rfl, ?_⟩) hC ?_
      rotate_left
      · (intro w hSw; (try dsimp only at hSw); go_simp; first | done | with_reducible rfl)
      simp only [Act.put]
      have HE := Lib.hid HE.out.drew
      have HA3 : Hid (Has wr.drew w.heap.size 33 #[.int .i64 n, .slice (some ⟨by_, oy, none⟩) fs.length c1]) := HA3
      have HA4 : Hid (Has wr.drew (w.heap.size + 1) 33 #[.int .i64 0, .slice none 0 0]) := HA4
      have HA5 : Hid (Has wr.drew (D + 1) 33 #[.int .i64 n, v]) := HA5
      have HG := Lib.hid (HG.out.ex (Ex.refl wr).drew)
      have hyc : wr.drew.cell? ⟨by_, oy + k, none⟩ = some (.int .i64 x) := hyc
      clear c3' c5 c5'
      generalize wr.drew = X at *
      refine Late.one (i := 9) (o := _) (by kernel_rfl) rfl (fun K' hK' => ?_)
      go_simp
      have e1 := HE.out.alloc (.cells #[.int .i64 z] 2)
      have HA31 := HA3.out.alloc (.cells #[.int .i64 z] 2)
      have HA41 := HA4.out.alloc (.cells #[.int .i64 z] 2)
      have HA51 := HA5.out.alloc (.cells #[.int .i64 z] 2)
      have g1 := HG.out.ex (Ex.new X (.cells #[.int .i64 z] 2))
      have hn1 := cell_one_new X (.int .i64 z) 2
      have hz1 : X.heap.size + 1 = (X.alloc (.cells #[.int .i64 z] 2)).heap.size := by simp
      have hx1 := Ex.new X (.cells #[.int .i64 z] 2)
      refine hK'.out _ _ (fun _ => ⟨HA51.cell 1, HA31.cell 1, (hx1.below.cell (p := ⟨by_, oy + k, none⟩) (by have := HE.out.size; show by_ < _; omega)).trans hyc⟩) (fun _ => ?_)
      clear hK' K'
      generalize X.alloc (.cells #[.int .i64 z] 2) = w1 at *
      try simp only [Act.put]
      refine Late.one (i := 10) (o := _) (by kernel_rfl) rfl (fun K' hK' => ?_)
      rw [if_pos (by rfl)]
      refine wp_append_own _ _ _ 25 rfl w.heap.size 2 i0 (.int .i64 0) 1 8 Tryz.underlying25 hi hi0 hi1 hi2 rfl (by decide) _ _ _ rfl g1.1 ⟨X.heap.size, 0, none⟩ 1 1 [.int .i64 z] rfl rfl hn1 (by simp [Value.oneCell']) (by unfold maxLen; omega) (by omega) (by have := e1.size; omega) ?_
      intro v' w3 hown3 hgrow3 _
      obtain ⟨g3, cap3, rfl⟩ := ownsRow_succ hown3
      have HE3 := Lib.hid (Ex.grew e1 g1 (Nat.le_refl _) hgrow3)
      have HA33 := Lib.hid (Has.grew HA31 (by decide) g1 hgrow3)
      have HA43 := Lib.hid (Has.grew HA41 (by decide) g1 hgrow3)
      have HA53 := Lib.hid (Has.grew HA51 (by decide) g1 hgrow3)
      have HG3 := Lib.hid (g1.snoc hown3)
      have c33 := HA53.out.cell 1
      have f33 := HA53.out.free 1
      refine hK'.out _ _ (fun _ => ⟨HA53.out.cell 1, HA33.out.cell 1, (HE3.out.below.cell (p := ⟨by_, oy + k, none⟩) hby).trans HCY.out⟩) (fun _ => ?_)
      clear hK' K' hown3 hgrow3 g1 e1 hn1 hx1 HA31 HA41 HA51
      try simp only [Act.put]
      refine Late.one (i := 11) (o := _) (by kernel_rfl) rfl (fun K' hK' => ?_)
      go_simp
      refine hK'.out _ _ (fun h => by cases h) (fun _ => ?_)
      clear hK' K'
      try simp only [Act.put]
      refine Late.one (i := 12) (o := _) (by kernel_rfl) rfl (fun K' hK' => ?_)
      go_simp
      refine hK'.out _ _ (fun h => by cases h) (fun _ => ?_)
      clear hK' K'
      try simp only [Act.put]
      refine Late.done (by kernel_rfl) ?_ _
      go_wp2_with fail
      go_roundw
      case rel =>
        have hDw : w.heap.size ≤ D := by omega
        refine ⟨k + 1, _, by omega, by go_num, Lib.hid (HE3.out.setCell (by show w.heap.size ≤ D + 1; omega) _), Lib.hid (HA33.out.far (by show w.heap.size ≠ D + 1; omega) _), Lib.hid (HA43.out.far (by show w.heap.size + 1 ≠ D + 1; omega) _), Lib.hid (by simpa using HA53.out.put 1 _), Lib.hid ?_⟩
        rw [List.range_succ, List.map_append, List.map_cons, List.map_nil, HQ3.out]
        exact HG3.out.set HA53.out (by decide) _ _
      case measure => simp [intOf]; omega
    · obtain rfl : k = fs.length := by omega
      obtain ⟨A', n', rfl, hO⟩ := HG.out.own
      have f4 := HA4.out.free 0
      have f4' := HA4.out.free 1
      have c4 := HA4.out.cell 0
      have c4' := HA4.out.cell 1
      rw [List.length_map, List.length_range] at c5'
      clear hO
      go_wp2_with fail
      have H4 := HA4.out.put2 (u := .int .i64 n) (v := .slice A' fs.length n')
      have c4 := H4.cell 0
      have c4' := H4.cell 1
      refine bodyPost_ret (v := .agg #[.int .i64 n, .slice A' fs.length n']) (by simp [results, Tryz.results56, go_sem, c4, c4']) rfl ⟨A', n', rfl, (HE.out.setCell (by show w.heap.size ≤ w.heap.size + 1; omega) _).setCell (by show w.heap.size ≤ w.heap.size + 1; omega) _, ?_⟩
      obtain ⟨A2, n2, e2, hO⟩ := ((HG.out.set HA4.out (by decide) 0 (.int .i64 n)).set (HA4.out.put 0 (.int .i64 n)) (by decide) 1 (.slice A' fs.length n')).own
      simp only [Value.slice.injEq] at e2
      obtain ⟨rfl, _, rfl⟩ := e2
      exact hO

end Go.Proofs.YtllkaoacfchibaaGreatDoor
