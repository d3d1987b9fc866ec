/- slices.Repeat of one number, up to eight times. -/
import Derived.Laws.CopyOwn
import Derived.IntWalk
import Derived.Deep.RegionHeld3
import Derived.Test.YtcdijeeabgmgmaaGreatDoorExv
namespace Go.Proofs.YtcdijeeabgmgmaaGreatDoor
open Go.RowKit

theorem mulSmall (n : Nat) (w : World) (hn : n ≤ 8) :
    Calls Tryz.prog 162 #[.int .u64 1, .int .u64 (n : Int)] w fun e w' => e = .returned (.tuple #[.int .u64 0, .int .u64 (n : Int)]) ∧ w = w' := by
  have h : n = 0 ∨ n = 1 ∨ n = 2 ∨ n = 3 ∨ n = 4 ∨ n = 5 ∨ n = 6 ∨ n = 7 ∨ n = 8 := by omega
  rcases h with rfl | rfl | rfl | rfl | rfl | rfl | rfl | rfl | rfl
  all_goals
    go_enter Tryz.func162, Tryz.ntmps162
    go_wp2
    go_ret2
    exact ⟨rfl, rfl⟩

theorem onesTab (N k r : Nat) (h : k + r ≤ N) : (splice (tab N fun j => .int .i64 (if j < k then 1 else 0)).toList k (List.replicate r (.int .i64 1))).toArray = tab N fun j => .int .i64 (if j < k + r then 1 else 0) := by
  apply tab_ext
  · simp [splice, tab]
    omega
  · intro j hj
    simp only [splice, tab, List.length_replicate, List.getElem?_toArray, List.getElem?_append, List.getElem?_take, List.getElem?_drop, List.getElem?_replicate, List.length_take, List.length_map, List.length_range]
    rcases Nat.lt_or_ge j k with h1 | h1
    · rw [if_pos (by omega), if_pos h1]
      simp [hj, h1, show j < k + r by omega]
    · rw [if_neg (by omega)]
      rcases Nat.lt_or_ge j (k + r) with h2 | h2
      · rw [if_pos (by omega), if_pos (by omega), if_pos h2]
      · rw [if_neg (by omega), if_neg (by omega)]
        have e : k + r + (j - min k N - r) = j := by omega
        rw [e]
        simp [hj, show ¬ j < k by omega]

theorem copyOnes {W w0 : World} {D n k r sLen sCap dCap : Nat} {ad : Addr} (hD : Has W D 2 (tab n fun j => .int .i64 (if j < k then 1 else 0))) (hE : Ex w0 W) (hl : w0.heap.size ≤ D) (hr : Nat.min sLen (n - k) = r) (hk : k + r ≤ n)
    (hs : ∀ j, j < r → W.cell? (ad.add j) = some (.int .i64 1)) :
    ∃ W2, Sem.run Tryz.prog (Builtin.copy_ #[25, 25] 3 #[.slice (some ⟨D, k, none⟩) (n - k) dCap, .slice (some ad) sLen sCap]) W = .ok (.int .i64 (r : Int)) W2 ∧ Hid (Has W2 D 2 (tab n fun j => .int .i64 (if j < k + r then 1 else 0))) ∧ Hid (Ex w0 W2) := by
  have hsz : (Tryz.prog.info? 2).map (·.size) = some 1 := by kernel_rfl
  have hrun := run_copy_row (P := Tryz.prog) W 25 25 3 2 D k (n - k) dCap ad sLen sCap (tab n fun j => .int .i64 (if j < k then 1 else 0)) 2 (List.replicate r (.int .i64 1)) Tryz.underlying25 hsz hD
    (by simp [hr]) (fun j v hj => by
      obtain ⟨hj1, hj2⟩ := List.getElem?_eq_some_iff.1 hj
      rw [hs j (by simpa using hj1), ← hj2]
      simp) (by simp [tab_size, hk]) (fun v hv => by
      obtain ⟨_, rfl⟩ := List.mem_replicate.1 hv
      rfl)
  refine ⟨_, by simpa [goInt] using hrun, Lib.hid ?_, Lib.hid (below_setRow hE.below hl _)⟩
  have h2 := setRow_heap W D _ (splice (tab n fun j => .int .i64 (if j < k then 1 else 0)).toList k (List.replicate r (.int .i64 1))).toArray 2 _ hD
  rw [onesTab n k r hk] at h2
  have h3 := onesTab n k r hk
  simp only [splice, List.length_replicate] at h3
  show _ = _
  rw [h3]
  exact h2

set_option maxRecDepth 100000 in
set_option maxHeartbeats 1000000 in
theorem repeatOne_any (g n c : Nat) (w : World) (hx : Has w g 2 #[.int .i64 1]) (h1 : 1 ≤ n) (h8 : n ≤ 8) :
    Calls Tryz.prog 157 #[.slice (some ⟨g, 0, none⟩) 1 c, .int .i64 (n : Int)] w fun e w' => ∃ A' n', e = .returned (.slice A' n n') ∧ Ex w w' ∧ OwnL w' w.heap.size w'.heap.size A' (List.replicate n 1) := by
  have hmk := makeI n (by omega)
  have e1 := Ex.new w (.cells (tab n fun _ => .int .i64 0) 2)
  have hD : Has (w.alloc (.cells (tab n fun _ => .int .i64 0) 2)) w.heap.size 2 (tab n fun j => .int .i64 (if j < 0 then 1 else 0)) := by
    rw [tab_congr (g := fun _ => .int .i64 0) (fun j _ => by simp)]
    exact Has.new w _ _
  obtain ⟨W2, hcp, HD, HE⟩ := copyOnes (r := 1) (sLen := 1) (sCap := c) (dCap := n) (ad := ⟨g, 0, none⟩) hD e1 (Nat.le_refl _) (Nat.min_eq_left (by omega)) (by omega) (fun j hj => by
    obtain rfl : j = 0 := by omega
    have := (hx.ex e1).cell 0
    simpa [Addr.add_lit] using this)
  rw [Nat.sub_zero] at hcp
  clear hx e1 hD
  go_enter Tryz.func157, Tryz.ntmps157
  go_wp2_with (go_at_call 162; refine (mulSmall n _ (by omega)).mono ?_; rintro e w' ⟨rfl, rfl⟩)
  clear hcp
  go_loopw [8] (fun i wr => ∃ k : Nat, k ≤ n ∧ 1 ≤ k ∧ i = .int .i64 (k : Int) ∧ Hid (Ex w wr) ∧ Hid (Has wr w.heap.size 2 (tab n fun j => .int .i64 (if j < k then 1 else 0)))) (fun i _ => n - (intOf i).toNat)
  case atStart => exact ⟨1, by omega, by omega, rfl, HE, HD⟩
  case round =>
    obtain ⟨k, hk, hk1, rfl, HE, HD⟩ := hrel
    by_cases hlt : k < n
    · obtain ⟨r, hr⟩ : ∃ r, Nat.min k (n - k) = r := ⟨_, rfl⟩
      have hr1 : r ≤ n - k := by rw [← hr]; exact Nat.min_le_right _ _
      have hr2 : r ≤ k := by rw [← hr]; exact Nat.min_le_left _ _
      have hr3 : 0 < r := by rw [← hr]; exact Nat.lt_min.2 ⟨by omega, by omega⟩
      obtain ⟨W3, hcp, HD3, HE3⟩ := copyOnes (W := wr.drew) (w0 := w) (r := r) (sLen := k) (sCap := n) (dCap := n - k) (ad := ⟨w.heap.size, 0, none⟩) (Has.ex HD.out (Ex.refl wr).drew) HE.out.drew (Nat.le_refl _) hr (by omega) (fun j hj => by
        have := (Has.ex HD.out (Ex.refl wr).drew).cell j
        rw [tab_get (by omega), if_pos (by omega)] at this
        simpa [Addr.add_lit] using this)
      clear hr
      have hk0 : (0 : Int) ≤ (k : Int) := by omega
      have hkn : (k : Int) ≤ (n : Int) := by omega
      have hwr : IntKind.i64.wrap ((k : Int) + (r : Int)) = ((k + r : Nat) : Int) := by rw [IntWalk.i64_in _ (by omega)]; omega
      go_wp2_with fail
      go_region_held3 (fun _ => True) (trivial) (fail)
      clear hwr hcp
      go_wp2_with fail
      go_roundw
      case rel => exact ⟨k + r, by omega, by omega, rfl, HE3, HD3⟩
      case measure => simp [intOf]; omega
    · obtain rfl : k = n := by omega
      go_wp2_with fail
      go_ret
      refine ⟨_, _, rfl, HE.out, ?_⟩
      refine OwnL.of_has (e := 2) (n := k) ?_ (by simp) (Nat.le_refl _)
      rw [tab_congr (g := fun j => .int .i64 (if j < k then 1 else 0)) (fun j hj => by simp [nth, hj])]
      exact HD.out

end Go.Proofs.YtcdijeeabgmgmaaGreatDoor
