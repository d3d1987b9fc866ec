/- TrivialModule: the model's list of ones. -/
import Derived.Test.YtcdijeeabgmgmaaGreatDoorCel
import Derived.Test.YtcdijeeabgmgmaaGreatDoorMnm
import Derived.Test.YtcdijeeabgmgmaaGreatDoorExv
namespace Go.Proofs.YtcdijeeabgmgmaaGreatDoor
open Go.RowKit

theorem typeM_ne : 52 ≠ 2 := by decide

set_option maxHeartbeats 1000000 in
theorem l02Trivial_any (A : Option Addr) (N c : Nat) (m : Int) (w : World) (hN : N ≤ 8) :
    Calls Tryz.prog 67 #[.agg #[.slice A N c], .int .i64 m] w fun e w' => ∃ A' n', e = .returned (.agg #[.int .i64 m, .slice A' N n']) ∧ Ex w w' ∧ OwnL w' w.heap.size w'.heap.size A' (List.replicate N 1) := by
  obtain ⟨i0, hi, hi0, hi1, hi2⟩ := info_parts infoI
  have e0 := (((Ex.new w (.cells #[.slice A N c] 32)).alloc (.cells #[.int .i64 0, .slice none 0 0] 52)).alloc (.cells #[] 2)).alloc (.cells #[.int .i64 m, .slice (some ⟨w.heap.size + 1 + 1, 0, none⟩) 0 0] 52)
  have b0 := (((Has.new w 32 #[.slice A N c]).alloc (.cells #[.int .i64 0, .slice none 0 0] 52)).alloc (.cells #[] 2)).alloc (.cells #[.int .i64 m, .slice (some ⟨w.heap.size + 1 + 1, 0, none⟩) 0 0] 52)
  have b1 := ((Has.newAt (w := w.alloc (.cells #[.slice A N c] 32)) (e := 52) (cs := #[.int .i64 0, .slice none 0 0]) (k := w.heap.size + 1) (by simp)).alloc (.cells #[] 2)).alloc (.cells #[.int .i64 m, .slice (some ⟨w.heap.size + 1 + 1, 0, none⟩) 0 0] 52)
  have b3 := Has.newAt (w := ((w.alloc (.cells #[.slice A N c] 32)).alloc (.cells #[.int .i64 0, .slice none 0 0] 52)).alloc (.cells #[] 2)) (e := 52) (cs := #[.int .i64 m, .slice (some ⟨w.heap.size + 1 + 1, 0, none⟩) 0 0]) (k := w.heap.size + 1 + 1 + 1) (by simp)
  have g0 := (GrowI.empty (lo := w.heap.size) ((w.alloc (.cells #[.slice A N c] 32)).alloc (.cells #[.int .i64 0, .slice none 0 0] 52)) (by simp; omega)).ex (Ex.new _ (.cells #[.int .i64 m, .slice (some ⟨w.heap.size + 1 + 1, 0, none⟩) 0 0] 52))
  simp only [World.size_alloc] at g0
  go_enter Tryz.func67, Tryz.ntmps67
  go_wp2_with fail
  generalize ((((w.alloc (.cells #[.slice A N c] 32)).alloc (.cells #[.int .i64 0, .slice none 0 0] 52)).alloc (.cells #[] 2)).alloc (.cells #[.int .i64 m, .slice (some ⟨w.heap.size + 1 + 1, 0, none⟩) 0 0] 52)) = W at *
  have HB0 := Lib.hid b0
  have HB1 := Lib.hid b1
  have HB3 := Lib.hid b3
  have HG0 := Lib.hid g0
  have HE0 := Lib.hid e0
  clear b0 b1 b3 g0 e0
  go_loopw [6] (fun i wr => ∃ (k : Nat) (v : Value), k ≤ N ∧ i = .int .i64 (k : Int) ∧ Hid (Ex w wr) ∧ Hid (Has wr w.heap.size 32 #[.slice A N c]) ∧ Hid (Has wr (w.heap.size + 1) 52 #[.int .i64 0, .slice none 0 0]) ∧
    Hid (Has wr (w.heap.size + 1 + 1 + 1) 52 #[.int .i64 m, v]) ∧ Hid (GrowI wr w.heap.size v k (List.replicate k 1))) (fun i _ => N - (intOf i).toNat)
  case atStart => exact ⟨0, _, Nat.zero_le _, rfl, HE0, HB0, HB1, HB3, HG0⟩
  case round =>
    obtain ⟨k, v, hk, rfl, HE, HB0', HB1', HB3', HG⟩ := hrel
    have c0 := HB0'.out.cell 0
    have c3 := HB3'.out.cell 0
    have c3' := HB3'.out.cell 1
    have hz := HE.out.size
    by_cases hlt : k < N
    · go_wp2_with (at_builtin; refine wpList_append_own _ rfl _ _ 25 rfl w.heap.size 2 i0 (.int .i64 0) 1 8 Tryz.underlying25 hi hi0 hi1 hi2 rfl (by decide) _ _ _ rfl (HG.out.1.alloc _) ⟨wr.heap.size, 0, none⟩ 1 1 [.int .i64 1] rfl rfl (cell_one_new _ _ _) (by simp [Value.oneCell']) (by unfold maxLen; omega) (by omega) (by simp; omega) ?_; intro v' w3 hown3 hgrow3 _; obtain ⟨g3, cap3, rfl⟩ := ownsRow_succ hown3; have G3 := HG.out.ex (Ex.new wr (.cells #[.int .i64 1] 2)); have HE3 := Lib.hid (Ex.grew (HE.out.alloc _) G3 (Nat.le_refl _) hgrow3); have HB03 := Lib.hid (Has.grew (HB0'.out.alloc _) (by decide) G3 hgrow3); have HB13 := Lib.hid (Has.grew (HB1'.out.alloc _) (by decide) G3 hgrow3); have HB33 := Lib.hid (Has.grew (HB3'.out.alloc _) (by decide) G3 hgrow3); have HG3 := Lib.hid (G3.snoc hown3); have c33 := HB33.out.cell 1; have f33 := HB33.out.free 1; clear hown3 hgrow3 G3)
      go_roundw
      case rel =>
        refine ⟨k + 1, _, by omega, by go_num, Lib.hid (HE3.out.setCell (by show w.heap.size ≤ w.heap.size + 1 + 1 + 1; omega) _), Lib.hid (HB03.out.far (by show w.heap.size ≠ w.heap.size + 1 + 1 + 1; omega) _), Lib.hid (HB13.out.far (by show w.heap.size + 1 ≠ w.heap.size + 1 + 1 + 1; omega) _), Lib.hid (by simpa using HB33.out.put 1 _), Lib.hid ?_⟩
        rw [List.replicate_succ']
        exact HG3.out.set HB33.out (by decide) _ _
      case measure => simp [intOf]; omega
    · obtain rfl : k = N := by omega
      obtain ⟨A', n', rfl, hO⟩ := HG.out.own
      have HO := Lib.hid hO
      have f1 := HB1'.out.free 0
      have f1' := HB1'.out.free 1
      have c1 := HB1'.out.cell 0
      have c1' := HB1'.out.cell 1
      rw [List.length_replicate] at c3'
      clear hO
      go_wp2_with fail
      have H4 := (HB1'.out.put2 (u := .int .i64 m) (v := .slice A' k n'))
      have c4 := H4.cell 0
      have c4' := H4.cell 1
      refine bodyPost_ret (v := .agg #[.int .i64 m, .slice A' k n']) (by simp [results, Tryz.results67, go_sem, c4, c4']) rfl ⟨A', n', rfl, (HE.out.setCell (by show w.heap.size ≤ w.heap.size + 1; omega) _).setCell (by show w.heap.size ≤ w.heap.size + 1; omega) _, ?_⟩
      obtain ⟨A2, n2, e2, hO⟩ := ((HG.out.set HB1'.out (by decide) 0 (.int .i64 m)).set (HB1'.out.put 0 (.int .i64 m)) (by decide) 1 (.slice A' k n')).own
      simp only [Value.slice.injEq] at e2
      obtain ⟨rfl, _, rfl⟩ := e2
      exact hO

end Go.Proofs.YtcdijeeabgmgmaaGreatDoor
