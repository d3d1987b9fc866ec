/- The value of a cochain at a list: the program's side. -/
import Derived.Test.YtdehalkebneaoaaDoorVa
import Derived.Test.YtdehalkebneaoaaDoorAb
namespace Go.Proofs.YtdehalkebneaoaaDoor
open Go.RowKit

/-- The variable that a panic throws holds an error. -/
def ErrL (w : World) : Prop := ∃ a : Addr, w.cell? ⟨0, 0, none⟩ = some (.iface 218 (.pointer (some a)))
theorem ErrL.lt {w : World} (h : ErrL w) : 0 < w.heap.size := let ⟨_, h⟩ := h; World.block_lt_of_cell? _ _ h
theorem ErrL.ex {w w' : World} (h : ErrL w) (k : Ex w w') : ErrL w' := by
  have hl := h.lt
  obtain ⟨a, h⟩ := h
  exact ⟨a, (k.below.cell (p := ⟨0, 0, none⟩) hl).trans h⟩

set_option maxHeartbeats 400000 in
theorem isElementList_e (A L : Option Addr) (n c c' : Nat) (xs : List Int) (w : World) (hX : IntsW w L xs) (hn : n ≤ 8) (hx : xs.length ≤ 1048576) :
    Calls Tryd.prog 127 #[.agg #[.slice A n c], .slice L xs.length c'] w fun e w' => e = .returned (.bool (belowB (n : Int) xs)) ∧ Ex w w' := by
  have e0 : Ex w (w.alloc (.cells #[.slice A n c] 29)) := (Ex.refl w).alloc _
  have b0 : Has (w.alloc (.cells #[.slice A n c] 29)) (w.heap.size) 29 #[.slice A n c] := (Has.newAt (w := w) (e := 29) (cs := #[.slice A n c]) (k := w.heap.size) (by simp))
  have HAB := Lib.hid (fun W (he : Ex w W) => areBelow_any L (n : Int) xs c' W (hX.ex he) hx (by omega) (by omega))
  have HE0 := Lib.hid e0
  have c0 := b0.cell 0
  obtain ⟨q, hq⟩ : ∃ q, belowB (n : Int) xs = q := ⟨_, rfl⟩
  rw [hq] at HAB ⊢
  clear hX b0 e0 hq
  go_enter Tryd.func127, Tryd.ntmps127
  go_wp2_with fail
  generalize (w.alloc (.cells #[.slice A n c] 29)) = W0 at *
  refine (groupOrder_ex A n c W0 (by omega)).mono ?_
  rintro e W1 ⟨rfl, he1⟩
  have HE1 := Lib.hid (HE0.out.trans he1)
  clear he1 c0
  go_wp2_with fail
  refine (HAB.out W1 HE1.out).mono ?_
  rintro e W2 ⟨rfl, he2⟩
  have HE2 := Lib.hid (HE1.out.trans he2)
  clear he2
  go_wp2_with fail
  go_ret
  exact ⟨rfl, HE2.out⟩

set_option maxHeartbeats 400000 in
theorem contains_zero (L : Option Addr) (xs : List Int) (c : Nat) (w : World) (hX : IntsW w L xs) (hx : xs.length ≤ 1048576) :
    Calls Tryd.prog 128 #[.slice L xs.length c, .int .i64 0] w fun e w' => e = .returned (.bool (xs.any fun x => x == 0)) ∧ w = w' := by
  by_cases hz : ∃ j, j < xs.length ∧ nth xs j = 0
  · obtain ⟨j0, hj0, hz0⟩ := hz
    obtain ⟨m, hm, hm0, hml⟩ := least_zero (fun c => nth xs c) j0 hz0
    have HC := Lib.hid (index_found L xs 0 m c _ w hX.ints hx (by omega) hm0 hml)
    have HQ := Lib.hid (any_zero hj0 hz0)
    have hge : decide ((0 : Int) ≤ (m : Int)) = true := decide_eq_true (by omega)
    clear hm0 hml hz0 hX
    go_enter Tryd.func128, Tryd.ntmps128
    go_wp2_with fail
    refine HC.out.mono ?_
    rintro e w' ⟨rfl, rfl⟩
    go_wp2_with fail
    go_ret
    exact ⟨by rw [HQ.out]; rfl, rfl⟩
  · have hno : ∀ j, j < xs.length → nth xs j ≠ 0 := fun j hj h => hz ⟨j, hj, h⟩
    have HC := Lib.hid (index_none L xs 0 c _ w hX.ints hx hno)
    have HQ := Lib.hid (any_none hno)
    clear hz hno hX
    go_enter Tryd.func128, Tryd.ntmps128
    go_wp2_with fail
    refine HC.out.mono ?_
    rintro e w' ⟨rfl, rfl⟩
    go_wp2_with fail
    go_ret
    exact ⟨by rw [HQ.out]; rfl, rfl⟩

set_option maxRecDepth 100000 in
set_option maxHeartbeats 2000000 in
theorem cellOf_any (A L : Option Addr) (n N : Nat) (xs : List Int) (c e : Nat) (w : World) (hX : IntsW w L xs) (hN : N ≤ 8) (hN1 : 1 ≤ N) (hn : n ≤ 4) (hx : xs.length = n) (hr : ∀ j, j < xs.length → 1 ≤ (nth xs j).toNat ∧ (nth xs j).toNat < N) :
    Calls Tryd.prog 129 #[.agg #[.slice A N c], .slice L xs.length e] w fun e w' => e = .returned (.int .i64 (cellF N xs xs.length : Int)) ∧ Ex w w' := by
  have e0 : Ex w (w.alloc (.cells #[.slice A N c] 29)) := (Ex.refl w).alloc _
  have b0 : Has (w.alloc (.cells #[.slice A N c] 29)) (w.heap.size) 29 #[.slice A N c] := (Has.newAt (w := w) (e := 29) (cs := #[.slice A N c]) (k := w.heap.size) (by simp))
  have HE0 := Lib.hid e0
  have HB0 := Lib.hid b0
  have HX := Lib.hid (hX.ex e0)
  have HR := Lib.hid hr
  have HLX := Lib.hid hx
  have hxb : xs.length ≤ 1048576 := by omega
  obtain ⟨B, hB⟩ : ∃ B, N - 1 = B := ⟨_, rfl⟩
  have hB' : (N : Int) - 1 = (B : Int) := by omega
  have HBN := Lib.hid hB
  have hN6 : N ≤ 1048576 := by omega
  clear hX hr hx hB e0 b0
  go_enter Tryd.func129, Tryd.ntmps129
  go_wp2_with fail
  generalize (w.alloc (.cells #[.slice A N c] 29)) = W0 at *
  go_loopw [5, 10] (fun s i wr => ∃ k : Nat, k ≤ xs.length ∧ i = .int .i64 (k : Int) ∧ s = .int .i64 (cellF N xs k : Int) ∧ Hid (Ex W0 wr)) (fun _ i _ => xs.length - (intOf i).toNat)
  case atStart => exact ⟨0, Nat.zero_le _, rfl, rfl, Lib.hid (Ex.refl _)⟩
  case round =>
    obtain ⟨k, hk, rfl, rfl, HE⟩ := hrel
    by_cases hlt : k < xs.length
    · obtain ⟨bx, ox, rfl, hbx, hcx⟩ := (HX.out.ex HE.out).ints.at_ hlt
      have hrk := HR.out k hlt
      obtain ⟨x, hx2⟩ : ∃ x : Nat, nth xs k = (x : Int) := ⟨(nth xs k).toNat, by omega⟩
      have hx1 : 1 ≤ x := by omega
      have hxN : x < N := by omega
      have hcl2 : cellF N xs k * (N - 1) ≤ 2401 := by
        have h0 : cellF N xs k < cellsN N k := cellF_lt k (fun j hj => HR.out j (by omega))
        have h1 : cellF N xs k * (N - 1) ≤ cellsN N k * (N - 1) := Nat.mul_le_mul_right _ (by omega)
        rw [← cellsN_succ] at h1
        exact Nat.le_trans h1 (cellsN_le hN (by have := HLX.out; omega))
      have hcl : cellF N xs k ≤ 2401 := by
        have h0 : cellF N xs k < cellsN N k := cellF_lt k (fun j hj => HR.out j (by omega))
        have := cellsN_le (N := N) (j := k) hN (by have := HLX.out; omega)
        omega
      have HCS : Hid (cellF N xs (k + 1) = cellF N xs k * (N - 1) + (x - 1)) := Lib.hid (by rw [cellF, hx2]; rfl)
      rw [HBN.out] at hcl2 HCS
      rw [hx2] at hcx
      obtain ⟨u, hu⟩ : ∃ u, cellF N xs k = u := ⟨_, rfl⟩
      rw [hu] at hcl hcl2 HCS ⊢
      obtain ⟨p, hp⟩ : ∃ p, u * B = p := ⟨_, rfl⟩
      have hpm : (u : Int) * (B : Int) = (p : Int) := by rw [← hp]; simp
      rw [hp] at hcl2 HCS
      have hsub : (p : Int) + (x : Int) - 1 = ((p + (x - 1) : Nat) : Int) := by omega
      have c0 := (HB0.out.ex HE.out).cell 0
      clear hrk hx2 hu hp
      go_wp2_with (go_at_call 109; refine (groupOrder_ex A N c _ hN6).mono ?_; rintro e w' ⟨rfl, he⟩; have HE2 := Lib.hid (HE.out.trans he); clear he)
      go_roundw
      case rel => exact ⟨k + 1, by omega, by go_num, by rw [HCS.out]; exact congrArg (Value.int IntKind.i64) (by omega), HE2⟩
      case measure => simp [intOf]; omega
    · obtain rfl : k = xs.length := by omega
      go_wp2_with fail
      go_ret
      exact ⟨rfl, HE0.out.trans HE.out⟩

end Go.Proofs.YtdehalkebneaoaaDoor
