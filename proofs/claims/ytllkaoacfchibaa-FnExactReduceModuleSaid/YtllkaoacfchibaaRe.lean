/- ReduceModule: the model's loop. -/
import Derived.Test.YtllkaoacfchibaaBa
import Derived.Test.YtllkaoacfchibaaCel
import Derived.Test.YtllkaoacfchibaaMap
namespace Go.Proofs.Ytllkaoacfchibaa
open Go.RowKit

set_option maxRecDepth 100000 in
set_option maxHeartbeats 2000000 in
theorem l02Reduced_any (A : Option Addr) (us : List Int) (d K : Nat) (m : Int) (w : World) (hX : IntsW w A us) (hl : us.length ≤ 8) (hu : InR 12 us) (hK : 0 < K) (hK12 : K ≤ 12) :
    Calls Try.prog 19 #[.agg #[.int .i64 m, .slice A us.length d], .int .i64 (K : Int)] w fun e w' => ∃ A' n', e = .returned (.agg #[.int .i64 (K : Int), .slice A' us.length n']) ∧ Ex w w' ∧ OwnL w' w.heap.size w'.heap.size A' ((List.range us.length).map fun i => ((im us i % K : Nat) : Int)) := by
  obtain ⟨i0, hi, hi0, hi1, hi2⟩ := info_parts infoI
  have e0 := (((Ex.new w (.cells #[.int .i64 m, .slice A us.length d] 30)).alloc (.cells #[.int .i64 0, .slice none 0 0] 30)).alloc (.cells #[] 2)).alloc (.cells #[.int .i64 (K : Int), .slice (some ⟨w.heap.size + 1 + 1, 0, none⟩) 0 0] 30)
  have b0 := (((Has.new w 30 #[.int .i64 m, .slice A us.length d]).alloc (.cells #[.int .i64 0, .slice none 0 0] 30)).alloc (.cells #[] 2)).alloc (.cells #[.int .i64 (K : Int), .slice (some ⟨w.heap.size + 1 + 1, 0, none⟩) 0 0] 30)
  have b1 := ((Has.newAt (w := w.alloc (.cells #[.int .i64 m, .slice A us.length d] 30)) (e := 30) (cs := #[.int .i64 0, .slice none 0 0]) (k := w.heap.size + 1) (by simp)).alloc (.cells #[] 2)).alloc (.cells #[.int .i64 (K : Int), .slice (some ⟨w.heap.size + 1 + 1, 0, none⟩) 0 0] 30)
  have b3 := Has.newAt (w := ((w.alloc (.cells #[.int .i64 m, .slice A us.length d] 30)).alloc (.cells #[.int .i64 0, .slice none 0 0] 30)).alloc (.cells #[] 2)) (e := 30) (cs := #[.int .i64 (K : Int), .slice (some ⟨w.heap.size + 1 + 1, 0, none⟩) 0 0]) (k := w.heap.size + 1 + 1 + 1) (by simp)
  have g0 := (GrowI.empty (lo := w.heap.size) ((w.alloc (.cells #[.int .i64 m, .slice A us.length d] 30)).alloc (.cells #[.int .i64 0, .slice none 0 0] 30)) (by simp; omega)).ex (Ex.new _ (.cells #[.int .i64 (K : Int), .slice (some ⟨w.heap.size + 1 + 1, 0, none⟩) 0 0] 30))
  simp only [World.size_alloc] at g0
  have HU := Lib.hid hu
  have hne : ((K : Int) != 0) = true := by simp; omega
  have hne0 : ¬ K = 0 := by omega
  go_enter Try.func19, Try.ntmps19
  go_wp2_with fail
  generalize ((((w.alloc (.cells #[.int .i64 m, .slice A us.length d] 30)).alloc (.cells #[.int .i64 0, .slice none 0 0] 30)).alloc (.cells #[] 2)).alloc (.cells #[.int .i64 (K : Int), .slice (some ⟨w.heap.size + 1 + 1, 0, none⟩) 0 0] 30)) = W at *
  have HB0 := Lib.hid b0
  have HB1 := Lib.hid b1
  have HB3 := Lib.hid b3
  have HG0 := Lib.hid g0
  have HX := Lib.hid hX
  have HE0 := Lib.hid e0
  clear b0 b1 b3 g0 e0 hX hu
  go_loopw [6] (fun i wr => ∃ (k : Nat) (v : Value), k ≤ us.length ∧ i = .int .i64 (k : Int) ∧ Hid (Ex w wr) ∧ Hid (Has wr w.heap.size 30 #[.int .i64 m, .slice A us.length d]) ∧ Hid (Has wr (w.heap.size + 1) 30 #[.int .i64 0, .slice none 0 0]) ∧
    Hid (Has wr (w.heap.size + 1 + 1 + 1) 30 #[.int .i64 (K : Int), v]) ∧ Hid (GrowI wr w.heap.size v k ((List.range k).map fun i => ((im us i % K : Nat) : Int)))) (fun i _ => us.length - (intOf i).toNat)
  case atStart => exact ⟨0, _, Nat.zero_le _, rfl, HE0, HB0, HB1, HB3, HG0⟩
  case round =>
    obtain ⟨k, v, hk, rfl, HE, HB0', HB1', HB3', HG⟩ := hrel
    have c0 := HB0'.out.cell 0
    have c0' := HB0'.out.cell 1
    have c3 := HB3'.out.cell 0
    have c3' := HB3'.out.cell 1
    have hz := HE.out.size
    by_cases hlt : k < us.length
    · obtain ⟨bx, ox, rfl, hbx, hcx⟩ := HX.out.ints.at_ hlt
      have hu := HU.out k hlt
      have hxc : wr.cell? ⟨bx, ox + k, none⟩ = some (.int .i64 (im us k : Int)) := by rw [HE.out.below.cell (p := ⟨bx, ox + k, none⟩) hbx, hcx]; simp [im, Int.toNat_of_nonneg hu.1]
      have hm12 : im us k ≤ 12 := by have := hu.2; simp only [im]; omega
      have ht := tmod_nat (im us k) K
      have hmz : im us k % K < K := Nat.mod_lt _ hK
      obtain ⟨z, hz'⟩ : ∃ z, im us k % K = z := ⟨_, rfl⟩
      have HZ := Lib.hid hz'
      rw [hz'] at ht hmz
      obtain ⟨u, hu0⟩ : ∃ u, im us k = u := ⟨_, rfl⟩
      rw [hu0] at ht hxc hm12
      clear hcx hu hz' hu0
      have hk0 : (0 : Int) ≤ (k : Int) := by omega
      have hkn : (k : Int) < (us.length : Int) := by omega
      have G1 := HG.out.ex (Ex.refl wr).drew
      have hb0 := hbx
      go_wp2_with fail
      refine Late.region (C := fun w' => w'.cell? ⟨w.heap.size + 1 + 1 + 1, 1, none⟩ = some v ∧ w'.cell? ⟨w.heap.size, 1, none⟩ = some (.slice (some ⟨bx, ox, none⟩) us.length d) ∧ w'.cell? ⟨bx, ox + k, none⟩ = some (.int .i64 (u : Int))) (fun j => decide (j < 11)) (by kernel_rfl) ⟨c3', c0', hxc⟩ (fun hC => ?_)
      refine Late.take (i := 0) (oi := _) (v := ?_) rfl (by kernel_rfl) (by kernel_rfl) (by kernel_rfl) (by kernel_rfl) (fun _ _ _ h => h) (Or.inl ⟨by rfl, ?_⟩) hC ?_
      rotate_left
      · (intro w hSw; (try dsimp only at hSw); go_simp; first | done | with_reducible rfl)
      simp only [Act.put]
      refine Late.take (i := 1) (oi := _) (v := ?_) rfl (by kernel_rfl) (by kernel_rfl) (by kernel_rfl) (by kernel_rfl) (fun _ _ _ h => h) (Or.inl ⟨by rfl, ?_⟩) hC ?_
      rotate_left
      · (intro w hSw; (try dsimp only at hSw); go_simp; first | done | with_reducible rfl)
      simp only [Act.put]
      refine Late.take (i := 2) (oi := _) (v := ?_) rfl (by kernel_rfl) (by kernel_rfl) (by kernel_rfl) (by kernel_rfl) (fun _ _ _ h => h) (Or.inl ⟨by rfl, ?_⟩) hC ?_
      rotate_left
      · (intro w hSw; (try dsimp only at hSw); go_simp; first | done | with_reducible rfl)
      simp only [Act.put]
      refine Late.take (i := 3) (oi := _) (v := ?_) rfl (by kernel_rfl) (by kernel_rfl) (by kernel_rfl) (by kernel_rfl) (fun _ _ _ h => h) (Or.inl ⟨by rfl, ?_⟩) hC ?_
      rotate_left
      · (intro w hSw; (try dsimp only at hSw); go_simp; first | done | with_reducible rfl)
      simp only [Act.put]
      refine Late.take (i := 4) (oi := _) (v := ?_) rfl (by kernel_rfl) (by kernel_rfl) (by kernel_rfl) (by kernel_rfl) (fun _ _ _ h => h) (Or.inl ⟨by rfl, ?_⟩) hC ?_
      rotate_left
      · (intro w hSw; (try dsimp only at hSw); go_simp; first | done | with_reducible rfl)
      simp only [Act.put]
      refine Late.take (i := 5) (oi := _) (v := ?_) rfl (by kernel_rfl) (by kernel_rfl) (by kernel_rfl) (by kernel_rfl) (fun _ _ _ h => h) (Or.inl ⟨by rfl, ?_⟩) hC ?_
      rotate_left
      · (intro w hSw; (try dsimp only at hSw); go_simp; first | done | with_reducible rfl)
      simp only [Act.put]
      refine Late.take (i := 6) (oi := _) (v := ?_) rfl (by kernel_rfl) (by kernel_rfl) (by kernel_rfl) (by kernel_rfl) (fun _ _ _ h => h) (Or.inl ⟨by rfl, ?_⟩) hC ?_
      rotate_left
      · (intro w hSw; (try dsimp only at hSw); go_simp; first | done | with_reducible rfl)
      simp only [Act.put]
      refine Late.take (i := 7) (oi := _) (v := ?_) rfl (by kernel_rfl) (by kernel_rfl) (by kernel_rfl) (by kernel_rfl) (fun _ _ _ h => h) (Or.inl ⟨by rfl, ?_⟩) hC ?_
      rotate_left
      · (intro w hSw; (try dsimp only at hSw); go_simp; first | done | with_reducible rfl)
      simp only [Act.put]
      refine Late.take (i := 8) (oi := _) (v := ?_) rfl (by kernel_rfl) (by kernel_rfl) (by kernel_rfl) (by kernel_rfl) (fun _ _ _ h => h) (Or.inl ⟨by rfl, ?_⟩) hC ?_
      rotate_left
      · (intro w hSw; (try dsimp only at hSw); go_simp; first | done | with_reducible rfl)
      simp only [Act.put]
      refine Late.one (i := 9) (o := _) (by kernel_rfl) rfl (fun K' hK' => ?_)
      go_simp
      have e1 := HE.out.alloc (.cells #[.int .i64 (z : Int)] 2)
      have b01 := HB0'.out.alloc (.cells #[.int .i64 (z : Int)] 2)
      have b11 := HB1'.out.alloc (.cells #[.int .i64 (z : Int)] 2)
      have b31 := HB3'.out.alloc (.cells #[.int .i64 (z : Int)] 2)
      have g1 := HG.out.ex (Ex.new wr (.cells #[.int .i64 (z : Int)] 2))
      have hn1 := cell_one_new wr (.int .i64 (z : Int)) 2
      have hz1 : wr.heap.size + 1 = (wr.alloc (.cells #[.int .i64 (z : Int)] 2)).heap.size := by simp
      refine hK'.out _ _ (fun _ => ⟨b31.cell 1, b01.cell 1, (Below.cell (w := wr) (Ex.new wr _) (p := ⟨bx, ox + k, none⟩) (by show bx < _; omega)).trans hxc⟩) (fun _ => ?_)
      clear hK' K' c0 c0' c3 c3'
      generalize wr.alloc (.cells #[.int .i64 (z : Int)] 2) = w1 at *
      try simp only [Act.put]
      refine Late.one (i := 10) (o := _) (by kernel_rfl) rfl (fun K' hK' => ?_)
      rw [if_pos (by rfl)]
      refine wp_append_own _ _ _ 25 rfl w.heap.size 2 i0 (.int .i64 0) 1 8 Try.underlying25 hi hi0 hi1 hi2 rfl (by decide) _ _ _ rfl (GrowI.ex g1 (Ex.refl w1).drew).1 ⟨wr.heap.size, 0, none⟩ 1 1 [.int .i64 (z : Int)] rfl rfl hn1 (by simp [Value.oneCell']) (by unfold maxLen; omega) (by omega) (by show w.heap.size ≤ w1.heap.size; omega) ?_
      intro v' w3 hown3 hgrow3 _
      obtain ⟨g3, cap3, rfl⟩ := ownsRow_succ hown3
      have G1 := GrowI.ex g1 (Ex.refl w1).drew
      have HE3 := Lib.hid (Ex.grew e1.drew G1 (Nat.le_refl _) hgrow3)
      have HB03 := Lib.hid (Has.grew (w := w1.drew) b01 (by decide) G1 hgrow3)
      have HB13 := Lib.hid (Has.grew (w := w1.drew) b11 (by decide) G1 hgrow3)
      have HB33 := Lib.hid (Has.grew (w := w1.drew) b31 (by decide) G1 hgrow3)
      have HG3 := Lib.hid (G1.snoc hown3)
      have c33 := HB33.out.cell 1
      have f33 := HB33.out.free 1
      refine hK'.out _ _ (fun _ => ⟨HB33.out.cell 1, HB03.out.cell 1, ?_⟩) (fun _ => ?_)
      · rw [HE3.out.below.cell (p := ⟨bx, ox + k, none⟩) hbx, ← HE.out.below.cell (p := ⟨bx, ox + k, none⟩) hbx]
        exact hxc
      clear hK' K' hown3 hgrow3 G1 g1 b01 b11 b31 e1 hn1 hxc hC
      try simp only [Act.put]
      refine Late.one (i := 11) (o := _) (by kernel_rfl) rfl (fun K' hK' => ?_)
      go_simp
      refine hK'.out _ _ (fun h => by cases h) (fun _ => ?_)
      clear hK' K'
      try simp only [Act.put]
      refine Late.one (i := 12) (o := _) (by kernel_rfl) rfl (fun K' hK' => ?_)
      go_simp
      refine hK'.out _ _ (fun h => by cases h) (fun _ => ?_)
      clear hK' K'
      refine Late.done (by kernel_rfl) ?_ _
      go_wp2_with fail
      refine ⟨?rel, ?measure⟩
      case rel =>
        refine ⟨k + 1, _, by omega, by go_num, Lib.hid (HE3.out.setCell (by show w.heap.size ≤ w.heap.size + 1 + 1 + 1; omega) _), Lib.hid (HB03.out.far (by show w.heap.size ≠ w.heap.size + 1 + 1 + 1; omega) _), Lib.hid (HB13.out.far (by show w.heap.size + 1 ≠ w.heap.size + 1 + 1 + 1; omega) _), Lib.hid (by simpa using HB33.out.put 1 _), Lib.hid ?_⟩
        rw [List.range_succ, List.map_append, List.map_cons, List.map_nil, HZ.out]
        exact HG3.out.set HB33.out (by decide) _ _
      case measure => simp [intOf]; omega
    · obtain rfl : k = us.length := by omega
      obtain ⟨A', n', rfl, hO⟩ := HG.out.own
      have f1 := HB1'.out.free 0
      have f1' := HB1'.out.free 1
      have c1 := HB1'.out.cell 0
      have c1' := HB1'.out.cell 1
      rw [List.length_map, List.length_range] at c3'
      clear hO
      go_wp2_with fail
      have H4 := (HB1'.out.put2 (u := .int .i64 (K : Int)) (v := .slice A' us.length n'))
      have c4 := H4.cell 0
      have c4' := H4.cell 1
      refine bodyPost_ret (v := .agg #[.int .i64 (K : Int), .slice A' us.length n']) (by simp [results, Try.results19, go_sem, c4, c4']) rfl ⟨A', n', rfl, (HE.out.setCell (by show w.heap.size ≤ w.heap.size + 1; omega) _).setCell (by show w.heap.size ≤ w.heap.size + 1; omega) _, ?_⟩
      obtain ⟨A2, n2, e2, hO⟩ := ((HG.out.set HB1'.out (by decide) 0 (.int .i64 (K : Int))).set (HB1'.out.put 0 (.int .i64 (K : Int))) (by decide) 1 (.slice A' us.length n')).own
      simp only [Value.slice.injEq] at e2
      obtain ⟨rfl, _, rfl⟩ := e2
      exact hO

end Go.Proofs.Ytllkaoacfchibaa
