/- Va Vb Vc in one text. -/
import Derived.IntWalk
import Derived.Deep.RegionHeld3
import Derived.WalkSmall
import Derived.Defers
import Derived.Recover
import Derived.Test.YtcdijeeabgmgmaaGreatDoorFif
import Derived.Test.YtcdijeeabgmgmaaGreatDoorIsg
import Derived.Test.YtcdijeeabgmgmaaGreatDoorCel
/- The value of a cochain at a list: both sides. -/
namespace Go.Proofs.YtcdijeeabgmgmaaGreatDoor
open Go.RowKit

/-- The number of a list of elements other than 0. -/
def cellF (N : Nat) (xs : List Int) : Nat → Nat
  | 0 => 0
  | k + 1 => cellF N xs k * (N - 1) + ((nth xs k).toNat - 1)
theorem cellF_lt {N : Nat} {xs : List Int} : ∀ k, (∀ j, j < k → 1 ≤ (nth xs j).toNat ∧ (nth xs j).toNat < N) → cellF N xs k < cellsN N k
  | 0, _ => by simp [cellF, cellsN]
  | k + 1, h => by
    have h1 := cellF_lt k (fun j hj => h j (by omega))
    have h2 := h k (by omega)
    rw [cellF, cellsN_succ]
    have h3 : (cellF N xs k + 1) * (N - 1) ≤ cellsN N k * (N - 1) := Nat.mul_le_mul_right _ h1
    rw [Nat.add_mul, Nat.one_mul] at h3
    omega
/-- The value. -/
def valR (N : Nat) (fs xs : List Int) : Int := if xs.any (fun x => x == 0) = true then 0 else nth fs (cellF N xs xs.length)
theorem any_zero {xs : List Int} {j : Nat} (hj : j < xs.length) (h : nth xs j = 0) : xs.any (fun x => x == 0) = true := by
  refine List.any_eq_true.2 ⟨0, ?_, by simp⟩
  rw [← h]
  simp [nth, hj]
theorem any_none {xs : List Int} (h : ∀ j, j < xs.length → nth xs j ≠ 0) : xs.any (fun x => x == 0) = false := by
  rw [Bool.eq_false_iff]
  intro e
  obtain ⟨x, hx, h0⟩ := List.any_eq_true.1 e
  obtain ⟨j, hj, rfl⟩ := List.getElem_of_mem hx
  exact h j hj (by simpa [nth, hj] using h0)
theorem valR_zero {N : Nat} {fs xs : List Int} {j : Nat} (hj : j < xs.length) (h : nth xs j = 0) : valR N fs xs = 0 := by rw [valR, if_pos (any_zero hj h)]
theorem valR_at {N : Nat} {fs xs : List Int} (h : ∀ j, j < xs.length → nth xs j ≠ 0) : valR N fs xs = nth fs (cellF N xs xs.length) := by rw [valR, any_none h]; rfl

set_option maxRecDepth 100000 in
set_option maxHeartbeats 2000000 in
theorem l03At_any (A F L : Option Addr) (n N : Nat) (fs xs : List Int) (c d e : Nat) (w : World) (hF : IntsW w F fs) (hX : IntsW w L xs) (hN : N ≤ 8) (hN1 : 1 ≤ N) (hn : n ≤ 4) (hx : xs.length = n) (hf : fs.length = cellsN N n) (hr : InR N xs) :
    Calls Tryz.prog 54 #[.agg #[.slice A N c], .agg #[.int .i64 (n : Int), .slice F fs.length d], .slice L xs.length e] w fun e w' => e = .returned (.int .i64 (valR N fs xs)) ∧ Ex w w' := by
  have e0 : Ex w ((w.alloc (.cells #[.slice A N c] 32)).alloc (.cells #[.int .i64 (n : Int), .slice F fs.length d] 34)) := ((Ex.refl w).alloc _).alloc _
  have b0 : Has ((w.alloc (.cells #[.slice A N c] 32)).alloc (.cells #[.int .i64 (n : Int), .slice F fs.length d] 34)) (w.heap.size) 32 #[.slice A N c] := ((Has.newAt (w := w) (e := 32) (cs := #[.slice A N c]) (k := w.heap.size) (by simp)).alloc _)
  have b1 : Has ((w.alloc (.cells #[.slice A N c] 32)).alloc (.cells #[.int .i64 (n : Int), .slice F fs.length d] 34)) (w.heap.size + 1) 34 #[.int .i64 (n : Int), .slice F fs.length d] := (Has.newAt (w := (w.alloc (.cells #[.slice A N c] 32))) (e := 34) (cs := #[.int .i64 (n : Int), .slice F fs.length d]) (k := w.heap.size + 1) (by simp))
  have HE0 := Lib.hid e0
  have HB0 := Lib.hid b0
  have HB1 := Lib.hid b1
  have HF := Lib.hid (hF.ex e0)
  have HX := Lib.hid (hX.ex e0)
  have HR := Lib.hid hr
  have HLX := Lib.hid hx
  have HLF := Lib.hid hf
  have hxb : xs.length ≤ 1048576 := by omega
  have HCF := Lib.hid (fun k (hk : k ≤ n) => cellsN_le hN (show k ≤ 4 by omega))
  obtain ⟨B, hB⟩ : ∃ B, N - 1 = B := ⟨_, rfl⟩
  have hB' : (N : Int) - 1 = (B : Int) := by omega
  have HBN := Lib.hid hB
  clear hF hX hr hx hf hB e0 b0 b1
  go_enter Tryz.func54, Tryz.ntmps54
  go_wp2_with fail
  generalize ((w.alloc (.cells #[.slice A N c] 32)).alloc (.cells #[.int .i64 (n : Int), .slice F fs.length d] 34)) = W0 at *
  go_loopw [7, 8] (fun s i wr => ∃ k : Nat, k ≤ xs.length ∧ i = .int .i64 (k : Int) ∧ s = .int .i64 (cellF N xs k : Int) ∧ Hid (∀ j, j < k → nth xs j ≠ 0) ∧ Hid (Ex W0 wr)) (fun _ i _ => xs.length - (intOf i).toNat)
  case atStart => exact ⟨0, Nat.zero_le _, rfl, rfl, Lib.hid fun j hj => absurd hj (by omega), Lib.hid (Ex.refl _)⟩
  case round =>
    obtain ⟨k, hk, rfl, rfl, HS, HE⟩ := hrel
    by_cases hlt : k < xs.length
    · obtain ⟨bx, ox, rfl, hbx, hcx⟩ := (HX.out.ex HE.out).ints.at_ hlt
      by_cases hz : nth xs k = 0
      · have HV := Lib.hid (valR_zero (N := N) (fs := fs) hlt hz)
        rw [hz] at hcx
        clear hz
        go_wp2_with fail
        go_ret
        exact ⟨by rw [HV.out]; rfl, HE0.out.trans HE.out⟩
      · have hrk := HR.out k hlt
        obtain ⟨x, hx2⟩ : ∃ x : Nat, nth xs k = (x : Int) := ⟨(nth xs k).toNat, by omega⟩
        have hzz : ((x : Int) == 0) = false := by rw [← hx2]; simpa using hz
        have hx1 : 1 ≤ x := by omega
        have hxN : x < N := by omega
        have HS2 : Hid (∀ j, j < k + 1 → nth xs j ≠ 0) := Lib.hid (fun j hj => by
          rcases Nat.lt_or_ge j k with h | h
          · exact HS.out j h
          · obtain rfl : j = k := by omega
            exact hz)
        have hcl : cellF N xs k < cellsN N k := cellF_lt k (fun j hj => by
          have h1 := HR.out j (by omega)
          have h2 := HS.out j hj
          omega)
        have hcl2 : cellF N xs k * (N - 1) ≤ 2401 := by
          have h1 : cellF N xs k * (N - 1) ≤ cellsN N k * (N - 1) := Nat.mul_le_mul_right _ (by omega)
          rw [← cellsN_succ] at h1
          exact Nat.le_trans h1 (cellsN_le hN (by have := HLX.out; omega))
        have hc3 := HCF.out k (by have := HLX.out; omega)
        have HCS : Hid (cellF N xs (k + 1) = cellF N xs k * (N - 1) + (x - 1)) := Lib.hid (by rw [cellF, hx2]; rfl)
        rw [HBN.out] at hcl2 HCS
        rw [hx2] at hcx
        obtain ⟨u, hu⟩ : ∃ u, cellF N xs k = u := ⟨_, rfl⟩
        rw [hu] at hcl hcl2 HCS ⊢
        obtain ⟨p, hp⟩ : ∃ p, u * B = p := ⟨_, rfl⟩
        have hpm : (u : Int) * (B : Int) = (p : Int) := by rw [← hp]; simp
        rw [hp] at hcl2 HCS
        have hsub : (p : Int) + (x : Int) - 1 = ((p + (x - 1) : Nat) : Int) := by omega
        have HWV : Hid (IntKind.i64.wrap (IntKind.i64.wrap (IntKind.i64.wrap ((u : Int) * IntKind.i64.wrap (B : Int)) + (x : Int)) - 1) = ((p + (x - 1) : Nat) : Int)) := Lib.hid (by rw [IntWalk.i64_in (B : Int) (by omega), hpm, IntWalk.i64_in (p : Int) (by omega), IntWalk.i64_in ((p : Int) + (x : Int)) (by omega), IntWalk.i64_in _ (by omega)]; exact hsub)
        clear hpm hsub
        have hu3 : u ≤ 2401 := by omega
        clear hz hrk hx2 hu hp hcl hc3
        have HSK := Lib.hid (fun W' (he : Ex wr.drew W') => And.intro ((HB0.out.ex (HE.out.drew.trans he)).cell 0) ((he.below.cell (p := ⟨bx, ox + k, none⟩) hbx).trans hcx))
        have hN6 : N ≤ 1048576 := by omega
        go_wp2_with fail
        refine wp_region_quiet (C := fun w' => Ex wr.drew w') (by kernel_rfl) (by kernel_rfl) (Ex.refl _) ?_
        refine BigFrame.wpQuiet_want (by rfl) fun K hK => ⟨?_, fun w' hC => ?_, hK _ ?_⟩
        rotate_left
        · (obtain ⟨q0, q1⟩ := HSK.out _ hC; go_simp; first | done | with_reducible rfl | exact ⟨rfl, hC⟩)
        clear hK K
        simp only [Act.put, List.setIfInBounds_toArray, List.set_cons_zero, List.set_cons_succ]
        refine BigFrame.wpQuiet_want (by rfl) fun K hK => ⟨?_, fun w' hC => ?_, hK _ ?_⟩
        rotate_left
        · (obtain ⟨q0, q1⟩ := HSK.out _ hC; go_simp; first | done | with_reducible rfl | exact ⟨rfl, hC⟩)
        clear hK K
        simp only [Act.put, List.setIfInBounds_toArray, List.set_cons_zero, List.set_cons_succ]
        refine BigFrame.wpQuiet_want (by rfl) fun K hK => ⟨.int .i64 (N : Int), fun w' hC => (by go_simp; refine ((l01N_ex A N c w' hN6)).mono ?_; rintro e w2 ⟨rfl, hb⟩; exact ⟨rfl, hC.trans hb⟩), hK _ ?_⟩
        clear hK K
        simp only [Act.put, List.setIfInBounds_toArray, List.set_cons_zero, List.set_cons_succ]
        refine BigFrame.wpQuiet_want (by rfl) fun K hK => ⟨?_, fun w' hC => ?_, hK _ ?_⟩
        rotate_left
        · (obtain ⟨q0, q1⟩ := HSK.out _ hC; go_simp; first | done | with_reducible rfl | exact ⟨rfl, hC⟩)
        clear hK K
        simp only [Act.put, List.setIfInBounds_toArray, List.set_cons_zero, List.set_cons_succ]
        refine BigFrame.wpQuiet_want (by rfl) fun K hK => ⟨?_, fun w' hC => ?_, hK _ ?_⟩
        rotate_left
        · (obtain ⟨q0, q1⟩ := HSK.out _ hC; go_simp; first | done | with_reducible rfl | exact ⟨rfl, hC⟩)
        clear hK K
        simp only [Act.put, List.setIfInBounds_toArray, List.set_cons_zero, List.set_cons_succ]
        refine BigFrame.wpQuiet_want (by rfl) fun K hK => ⟨?_, fun w' hC => ?_, hK _ ?_⟩
        rotate_left
        · (obtain ⟨q0, q1⟩ := HSK.out _ hC; go_simp; first | done | with_reducible rfl | exact ⟨rfl, hC⟩)
        clear hK K
        simp only [Act.put, List.setIfInBounds_toArray, List.set_cons_zero, List.set_cons_succ]
        refine BigFrame.wpQuiet_want (by rfl) fun K hK => ⟨?_, fun w' hC => ?_, hK _ ?_⟩
        rotate_left
        · (obtain ⟨q0, q1⟩ := HSK.out _ hC; go_simp; first | done | with_reducible rfl | exact ⟨rfl, hC⟩)
        clear hK K
        simp only [Act.put, List.setIfInBounds_toArray, List.set_cons_zero, List.set_cons_succ]
        refine BigFrame.wpQuiet_want (by rfl) fun K hK => ⟨?_, fun w' hC => ?_, hK _ ?_⟩
        rotate_left
        · (obtain ⟨q0, q1⟩ := HSK.out _ hC; go_simp; first | done | with_reducible rfl | exact ⟨rfl, hC⟩)
        clear hK K
        simp only [Act.put, List.setIfInBounds_toArray, List.set_cons_zero, List.set_cons_succ]
        refine BigFrame.wpQuiet_want (by rfl) fun K hK => ⟨?_, fun w' hC => ?_, hK _ ?_⟩
        rotate_left
        · (obtain ⟨q0, q1⟩ := HSK.out _ hC; go_simp; first | done | with_reducible rfl | exact ⟨rfl, hC⟩)
        clear hK K
        simp only [Act.put, List.setIfInBounds_toArray, List.set_cons_zero, List.set_cons_succ]
        refine BigFrame.wpQuiet_want (by rfl) fun K hK => ⟨?_, fun w' hC => ?_, hK _ ?_⟩
        rotate_left
        · (obtain ⟨q0, q1⟩ := HSK.out _ hC; go_simp; first | done | with_reducible rfl | exact ⟨rfl, hC⟩)
        clear hK K
        simp only [Act.put, List.setIfInBounds_toArray, List.set_cons_zero, List.set_cons_succ]
        refine BigFrame.wpQuiet_want (by rfl) fun K hK => ⟨?_, fun w' hC => ?_, hK _ ?_⟩
        rotate_left
        · (obtain ⟨q0, q1⟩ := HSK.out _ hC; go_simp; first | done | with_reducible rfl | exact ⟨rfl, hC⟩)
        clear hK K
        simp only [Act.put, List.setIfInBounds_toArray, List.set_cons_zero, List.set_cons_succ]
        refine BigFrame.wpQuiet_want (by rfl) fun K hK => ⟨?_, fun w' hC => ?_, hK _ ?_⟩
        rotate_left
        · (obtain ⟨q0, q1⟩ := HSK.out _ hC; go_simp; first | done | with_reducible rfl | exact ⟨rfl, hC⟩)
        clear hK K
        simp only [Act.put, List.setIfInBounds_toArray, List.set_cons_zero, List.set_cons_succ]
        refine wpQuiet_nil ?_
        intro w2 hC2
        have HC2 := Lib.hid hC2
        clear hC2
        go_wp2_with fail
        go_roundw
        case rel => exact ⟨k + 1, by omega, by go_num, by rw [HCS.out, ← HWV.out], HS2, Lib.hid (HE.out.drew.trans HC2.out)⟩
        case measure => simp [intOf]; omega
    · obtain rfl : k = xs.length := by omega
      have hcl : cellF N xs xs.length < fs.length := by
        rw [HLF.out, HLX.out]
        have h := cellF_lt (N := N) (xs := xs) xs.length (fun j hj => by
          have h1 := HR.out j hj
          have h2 := HS.out j hj
          omega)
        rw [HLX.out] at h
        rwa [HLX.out] at *
      have HV := Lib.hid (valR_at (N := N) (fs := fs) HS.out)
      obtain ⟨bx, ox, rfl, hbx, hcx⟩ := (HF.out.ex HE.out).ints.at_ hcl
      obtain ⟨u, hu⟩ : ∃ u, cellF N xs xs.length = u := ⟨_, rfl⟩
      rw [hu] at hcl hcx HV ⊢
      have c1 := (HB1.out.ex HE.out).cell 1
      clear hu
      go_wp2_with fail
      go_ret
      exact ⟨by rw [HV.out]; rfl, HE0.out.trans HE.out⟩

end Go.Proofs.YtcdijeeabgmgmaaGreatDoor

/- The value of a cochain at a list: the program's side. -/
namespace Go.Proofs.YtcdijeeabgmgmaaGreatDoor
open Go.RowKit

/-- The variable that a panic throws holds an error. -/
def ErrL (w : World) : Prop := ∃ a : Addr, w.cell? ⟨0, 0, none⟩ = some (.iface 187 (.pointer (some a)))
theorem ErrL.lt {w : World} (h : ErrL w) : 0 < w.heap.size := let ⟨_, h⟩ := h; World.block_lt_of_cell? _ _ h
theorem ErrL.ex {w w' : World} (h : ErrL w) (k : Ex w w') : ErrL w' := by
  have hl := h.lt
  obtain ⟨a, h⟩ := h
  exact ⟨a, (k.below.cell (p := ⟨0, 0, none⟩) hl).trans h⟩

set_option maxHeartbeats 400000 in
theorem isElementList_e (A L : Option Addr) (n c c' : Nat) (xs : List Int) (w : World) (hX : IntsW w L xs) (hn : n ≤ 8) (hx : xs.length ≤ 1048576) :
    Calls Tryz.prog 132 #[.agg #[.slice A n c], .slice L xs.length c'] w fun e w' => e = .returned (.bool (belowB (n : Int) xs)) ∧ Ex w w' := by
  have e0 : Ex w (w.alloc (.cells #[.slice A n c] 32)) := (Ex.refl w).alloc _
  have b0 : Has (w.alloc (.cells #[.slice A n c] 32)) (w.heap.size) 32 #[.slice A n c] := (Has.newAt (w := w) (e := 32) (cs := #[.slice A n c]) (k := w.heap.size) (by simp))
  have HAB := Lib.hid (fun W (he : Ex w W) => areBelow_any L (n : Int) xs c' W (hX.ex he) hx (by omega) (by omega))
  have HE0 := Lib.hid e0
  have c0 := b0.cell 0
  obtain ⟨q, hq⟩ : ∃ q, belowB (n : Int) xs = q := ⟨_, rfl⟩
  rw [hq] at HAB ⊢
  clear hX b0 e0 hq
  go_enter Tryz.func132, Tryz.ntmps132
  go_wp2_with fail
  generalize (w.alloc (.cells #[.slice A n c] 32)) = W0 at *
  refine (groupOrder_ex A n c W0 (by omega)).mono ?_
  rintro e W1 ⟨rfl, he1⟩
  have HE1 := Lib.hid (HE0.out.trans he1)
  clear he1 c0
  go_wp2_with fail
  refine (HAB.out W1 HE1.out).mono ?_
  rintro e W2 ⟨rfl, he2⟩
  have HE2 := Lib.hid (HE1.out.trans he2)
  clear he2
  go_wp2_with fail
  go_ret
  exact ⟨rfl, HE2.out⟩

set_option maxHeartbeats 400000 in
theorem contains_zero (L : Option Addr) (xs : List Int) (c : Nat) (w : World) (hX : IntsW w L xs) (hx : xs.length ≤ 1048576) :
    Calls Tryz.prog 133 #[.slice L xs.length c, .int .i64 0] w fun e w' => e = .returned (.bool (xs.any fun x => x == 0)) ∧ w = w' := by
  by_cases hz : ∃ j, j < xs.length ∧ nth xs j = 0
  · obtain ⟨j0, hj0, hz0⟩ := hz
    obtain ⟨m, hm, hm0, hml⟩ := least_zero (fun c => nth xs c) j0 hz0
    have HC := Lib.hid (index_found L xs 0 m c _ w hX.ints hx (by omega) hm0 hml)
    have HQ := Lib.hid (any_zero hj0 hz0)
    have hge : decide ((0 : Int) ≤ (m : Int)) = true := decide_eq_true (by omega)
    clear hm0 hml hz0 hX
    go_enter Tryz.func133, Tryz.ntmps133
    go_wp2_with fail
    refine HC.out.mono ?_
    rintro e w' ⟨rfl, rfl⟩
    go_wp2_with fail
    go_ret
    exact ⟨by rw [HQ.out]; rfl, rfl⟩
  · have hno : ∀ j, j < xs.length → nth xs j ≠ 0 := fun j hj h => hz ⟨j, hj, h⟩
    have HC := Lib.hid (index_none L xs 0 c _ w hX.ints hx hno)
    have HQ := Lib.hid (any_none hno)
    clear hz hno hX
    go_enter Tryz.func133, Tryz.ntmps133
    go_wp2_with fail
    refine HC.out.mono ?_
    rintro e w' ⟨rfl, rfl⟩
    go_wp2_with fail
    go_ret
    exact ⟨by rw [HQ.out]; rfl, rfl⟩

set_option maxRecDepth 100000 in
set_option maxHeartbeats 2000000 in
theorem cellOf_any (A L : Option Addr) (n N : Nat) (xs : List Int) (c e : Nat) (w : World) (hX : IntsW w L xs) (hN : N ≤ 8) (hN1 : 1 ≤ N) (hn : n ≤ 4) (hx : xs.length = n) (hr : ∀ j, j < xs.length → 1 ≤ (nth xs j).toNat ∧ (nth xs j).toNat < N) :
    Calls Tryz.prog 134 #[.agg #[.slice A N c], .slice L xs.length e] w fun e w' => e = .returned (.int .i64 (cellF N xs xs.length : Int)) ∧ Ex w w' := by
  have e0 : Ex w (w.alloc (.cells #[.slice A N c] 32)) := (Ex.refl w).alloc _
  have b0 : Has (w.alloc (.cells #[.slice A N c] 32)) (w.heap.size) 32 #[.slice A N c] := (Has.newAt (w := w) (e := 32) (cs := #[.slice A N c]) (k := w.heap.size) (by simp))
  have HE0 := Lib.hid e0
  have HB0 := Lib.hid b0
  have HX := Lib.hid (hX.ex e0)
  have HR := Lib.hid hr
  have HLX := Lib.hid hx
  have hxb : xs.length ≤ 1048576 := by omega
  obtain ⟨B, hB⟩ : ∃ B, N - 1 = B := ⟨_, rfl⟩
  have hB' : (N : Int) - 1 = (B : Int) := by omega
  have HBN := Lib.hid hB
  have hN6 : N ≤ 1048576 := by omega
  clear hX hr hx hB e0 b0
  go_enter Tryz.func134, Tryz.ntmps134
  go_wp2_with fail
  generalize (w.alloc (.cells #[.slice A N c] 32)) = W0 at *
  go_loopw [5, 10] (fun s i wr => ∃ k : Nat, k ≤ xs.length ∧ i = .int .i64 (k : Int) ∧ s = .int .i64 (cellF N xs k : Int) ∧ Hid (Ex W0 wr)) (fun _ i _ => xs.length - (intOf i).toNat)
  case atStart => exact ⟨0, Nat.zero_le _, rfl, rfl, Lib.hid (Ex.refl _)⟩
  case round =>
    obtain ⟨k, hk, rfl, rfl, HE⟩ := hrel
    by_cases hlt : k < xs.length
    · obtain ⟨bx, ox, rfl, hbx, hcx⟩ := (HX.out.ex HE.out).ints.at_ hlt
      have hrk := HR.out k hlt
      obtain ⟨x, hx2⟩ : ∃ x : Nat, nth xs k = (x : Int) := ⟨(nth xs k).toNat, by omega⟩
      have hx1 : 1 ≤ x := by omega
      have hxN : x < N := by omega
      have hcl2 : cellF N xs k * (N - 1) ≤ 2401 := by
        have h0 : cellF N xs k < cellsN N k := cellF_lt k (fun j hj => HR.out j (by omega))
        have h1 : cellF N xs k * (N - 1) ≤ cellsN N k * (N - 1) := Nat.mul_le_mul_right _ (by omega)
        rw [← cellsN_succ] at h1
        exact Nat.le_trans h1 (cellsN_le hN (by have := HLX.out; omega))
      have hcl : cellF N xs k ≤ 2401 := by
        have h0 : cellF N xs k < cellsN N k := cellF_lt k (fun j hj => HR.out j (by omega))
        have := cellsN_le (N := N) (j := k) hN (by have := HLX.out; omega)
        omega
      have HCS : Hid (cellF N xs (k + 1) = cellF N xs k * (N - 1) + (x - 1)) := Lib.hid (by rw [cellF, hx2]; rfl)
      rw [HBN.out] at hcl2 HCS
      rw [hx2] at hcx
      obtain ⟨u, hu⟩ : ∃ u, cellF N xs k = u := ⟨_, rfl⟩
      rw [hu] at hcl hcl2 HCS ⊢
      obtain ⟨p, hp⟩ : ∃ p, u * B = p := ⟨_, rfl⟩
      have hpm : (u : Int) * (B : Int) = (p : Int) := by rw [← hp]; simp
      rw [hp] at hcl2 HCS
      have hsub : (p : Int) + (x : Int) - 1 = ((p + (x - 1) : Nat) : Int) := by omega
      have c0 := (HB0.out.ex HE.out).cell 0
      clear hrk hx2 hu hp
      go_wp2_with (go_at_call 110; refine (groupOrder_ex A N c _ hN6).mono ?_; rintro e w' ⟨rfl, he⟩; have HE2 := Lib.hid (HE.out.trans he); clear he)
      go_roundw
      case rel => exact ⟨k + 1, by omega, by go_num, by rw [HCS.out]; exact congrArg (Value.int IntKind.i64) (by omega), HE2⟩
      case measure => simp [intOf]; omega
    · obtain rfl : k = xs.length := by omega
      go_wp2_with fail
      go_ret
      exact ⟨rfl, HE0.out.trans HE.out⟩

end Go.Proofs.YtcdijeeabgmgmaaGreatDoor

/- The value of a cochain at a list behind a door that catches a panic. -/
namespace Go.Proofs.YtcdijeeabgmgmaaGreatDoor
open Go.RowKit

/-- Is a list one of the cochain's degree, of elements? -/
def lisB (N n : Nat) (xs : List Int) : Bool := decide (xs.length = n) && belowB (N : Int) xs
theorem belowB_rng {N : Nat} {xs : List Int} (h : belowB (N : Int) xs = true) : InR N xs := belowB_inR h

set_option maxRecDepth 100000 in
set_option maxHeartbeats 2000000 in
theorem valueAt_yes (A F L : Option Addr) (n N : Nat) (fs xs : List Int) (c d e : Nat) (w : World) (hF : IntsW w F fs) (hX : IntsW w L xs) (hN : N ≤ 8) (hN1 : 1 ≤ N) (hn : n ≤ 4) (hx : xs.length = n) (hf : fs.length = cellsN N n) (hb : belowB (N : Int) xs = true) :
    Calls Tryz.prog 98 #[.agg #[.slice A N c], .agg #[.int .i64 (n : Int), .slice F fs.length d], .slice L xs.length e] w fun e w' => e = .returned (.int .i64 (valR N fs xs)) ∧ Ex w w' := by
  have e0 : Ex w ((w.alloc (.cells #[.slice A N c] 32)).alloc (.cells #[.int .i64 (n : Int), .slice F fs.length d] 34)) := ((Ex.refl w).alloc _).alloc _
  have b0 : Has ((w.alloc (.cells #[.slice A N c] 32)).alloc (.cells #[.int .i64 (n : Int), .slice F fs.length d] 34)) (w.heap.size) 32 #[.slice A N c] := ((Has.newAt (w := w) (e := 32) (cs := #[.slice A N c]) (k := w.heap.size) (by simp)).alloc _)
  have b1 : Has ((w.alloc (.cells #[.slice A N c] 32)).alloc (.cells #[.int .i64 (n : Int), .slice F fs.length d] 34)) (w.heap.size + 1) 34 #[.int .i64 (n : Int), .slice F fs.length d] := (Has.newAt (w := (w.alloc (.cells #[.slice A N c] 32))) (e := 34) (cs := #[.int .i64 (n : Int), .slice F fs.length d]) (k := w.heap.size + 1) (by simp))
  have hr := belowB_inR hb
  have hxb : xs.length ≤ 1048576 := by omega
  have HIE := Lib.hid (hb ▸ isElementList_e A L N c e xs ((w.alloc (.cells #[.slice A N c] 32)).alloc (.cells #[.int .i64 (n : Int), .slice F fs.length d] 34)) (hX.ex e0) hN hxb)
  have hne : ((xs.length : Int) != (n : Int)) = false := by simp [hx]
  have HE0 := Lib.hid e0
  have HB0 := Lib.hid b0
  have HB1 := Lib.hid b1
  have c0 := b0.cell 0
  have c1 := b1.cell 0
  have HCO := Lib.hid (fun W (he : Ex w W) => contains_zero L xs e W (hX.ex he) hxb)
  cases hz : xs.any (fun x => x == 0) with
  | true =>
    rw [hz] at HCO
    have HV : Hid (valR N fs xs = 0) := Lib.hid (by rw [valR, if_pos hz])
    clear hF hX hb hr hz hf e0 b0 b1 hx
    go_enter Tryz.func98, Tryz.ntmps98
    go_wp2_with fail
    generalize ((w.alloc (.cells #[.slice A N c] 32)).alloc (.cells #[.int .i64 (n : Int), .slice F fs.length d] 34)) = W0 at *
    refine HIE.out.mono ?_
    rintro e' W1 ⟨rfl, he1⟩
    have HE1 := Lib.hid (HE0.out.trans he1)
    clear he1 c0 c1
    go_wp2_with fail
    refine (HCO.out W1 HE1.out).mono ?_
    rintro e' w' ⟨rfl, rfl⟩
    clear HCO
    go_wp2_with fail
    go_ret
    exact ⟨by rw [HV.out]; rfl, HE1.out⟩
  | false =>
    rw [hz] at HCO
    have hnz : ∀ j, j < xs.length → nth xs j ≠ 0 := fun j hj h => by rw [any_zero hj h] at hz; cases hz
    have HV := Lib.hid (valR_at (N := N) (fs := fs) hnz)
    have hr2 : ∀ j, j < xs.length → 1 ≤ (nth xs j).toNat ∧ (nth xs j).toNat < N := fun j hj => by
      have h1 := hr j hj
      have h2 := hnz j hj
      omega
    have hcl : cellF N xs xs.length < fs.length := by
      have h := cellF_lt (N := N) (xs := xs) xs.length hr2
      rw [hf, ← hx]
      exact h
    have HCE := Lib.hid (fun W (he : Ex w W) => cellOf_any A L n N xs c e W (hX.ex he) hN hN1 hn hx hr2)
    obtain ⟨bx, ox, rfl, hbx, hcx⟩ := hF.ints.at_ hcl
    obtain ⟨u, hu⟩ : ∃ u, cellF N xs xs.length = u := ⟨_, rfl⟩
    rw [hu] at hcl hcx HV HCE
    have HCX := Lib.hid (fun W (he : Ex w W) => (he.below.cell (p := ⟨bx, ox + u, none⟩) hbx).trans hcx)
    clear hF hX hb hr hz hnz hr2 hu hcx e0 b0 b1 hx hf
    go_enter Tryz.func98, Tryz.ntmps98
    go_wp2_with fail
    generalize ((w.alloc (.cells #[.slice A N c] 32)).alloc (.cells #[.int .i64 (n : Int), .slice (some ⟨bx, ox, none⟩) fs.length d] 34)) = W0 at *
    refine HIE.out.mono ?_
    rintro e' W1 ⟨rfl, he1⟩
    have HE1 := Lib.hid (HE0.out.trans he1)
    have HB01 := Lib.hid (HB0.out.ex he1)
    have HB11 := Lib.hid (HB1.out.ex he1)
    clear he1 c0 c1 HB0 HB1
    go_wp2_with fail
    refine (HCO.out W1 HE1.out).mono ?_
    rintro e' w' ⟨rfl, rfl⟩
    clear HCO
    have HSK := Lib.hid (fun W' (he : Ex W1.drew W') => And.intro ((Has.ex (w := W1.drew) HB01.out he).cell 0) (And.intro ((Has.ex (w := W1.drew) HB11.out he).cell 1) (HCX.out W' (HE1.out.drew.trans he))))
    go_wp2_with fail
    refine wp_region_quiet (C := fun w' => Ex W1.drew w') (by kernel_rfl) (by kernel_rfl) (Ex.refl _) ?_
    refine BigFrame.wpQuiet_want (by rfl) fun K hK => ⟨?_, fun w' hC => ?_, hK _ ?_⟩
    rotate_left
    · (obtain ⟨q0, q1, q2⟩ := HSK.out _ hC; go_simp; first | done | with_reducible rfl | exact ⟨rfl, hC⟩)
    clear hK K
    simp only [Act.put, List.setIfInBounds_toArray, List.set_cons_zero, List.set_cons_succ]
    refine BigFrame.wpQuiet_want (by rfl) fun K hK => ⟨?_, fun w' hC => ?_, hK _ ?_⟩
    rotate_left
    · (obtain ⟨q0, q1, q2⟩ := HSK.out _ hC; go_simp; first | done | with_reducible rfl | exact ⟨rfl, hC⟩)
    clear hK K
    simp only [Act.put, List.setIfInBounds_toArray, List.set_cons_zero, List.set_cons_succ]
    refine BigFrame.wpQuiet_want (by rfl) fun K hK => ⟨?_, fun w' hC => ?_, hK _ ?_⟩
    rotate_left
    · (obtain ⟨q0, q1, q2⟩ := HSK.out _ hC; go_simp; first | done | with_reducible rfl | exact ⟨rfl, hC⟩)
    clear hK K
    simp only [Act.put, List.setIfInBounds_toArray, List.set_cons_zero, List.set_cons_succ]
    refine BigFrame.wpQuiet_want (by rfl) fun K hK => ⟨?_, fun w' hC => ?_, hK _ ?_⟩
    rotate_left
    · (obtain ⟨q0, q1, q2⟩ := HSK.out _ hC; go_simp; first | done | with_reducible rfl | exact ⟨rfl, hC⟩)
    clear hK K
    simp only [Act.put, List.setIfInBounds_toArray, List.set_cons_zero, List.set_cons_succ]
    refine BigFrame.wpQuiet_want (by rfl) fun K hK => ⟨.int .i64 (u : Int), fun w' hC => (by go_simp; refine ((HCE.out w' (HE1.out.drew.trans hC))).mono ?_; rintro e w2 ⟨rfl, hb⟩; exact ⟨rfl, hC.trans hb⟩), hK _ ?_⟩
    clear hK K
    simp only [Act.put, List.setIfInBounds_toArray, List.set_cons_zero, List.set_cons_succ]
    refine BigFrame.wpQuiet_want (by rfl) fun K hK => ⟨?_, fun w' hC => ?_, hK _ ?_⟩
    rotate_left
    · (obtain ⟨q0, q1, q2⟩ := HSK.out _ hC; go_simp; first | done | with_reducible rfl | exact ⟨rfl, hC⟩)
    clear hK K
    simp only [Act.put, List.setIfInBounds_toArray, List.set_cons_zero, List.set_cons_succ]
    refine BigFrame.wpQuiet_want (by rfl) fun K hK => ⟨?_, fun w' hC => ?_, hK _ ?_⟩
    rotate_left
    · (obtain ⟨q0, q1, q2⟩ := HSK.out _ hC; go_simp; first | done | with_reducible rfl | exact ⟨rfl, hC⟩)
    clear hK K
    simp only [Act.put, List.setIfInBounds_toArray, List.set_cons_zero, List.set_cons_succ]
    refine BigFrame.wpQuiet_want (by rfl) fun K hK => ⟨?_, fun w' hC => ?_, hK _ ?_⟩
    rotate_left
    · (obtain ⟨q0, q1, q2⟩ := HSK.out _ hC; go_simp; first | done | with_reducible rfl | exact ⟨rfl, hC⟩)
    clear hK K
    simp only [Act.put, List.setIfInBounds_toArray, List.set_cons_zero, List.set_cons_succ]
    refine wpQuiet_nil ?_
    intro w2 hC2
    have HC2 := Lib.hid hC2
    clear hC2
    go_wp2_with fail
    go_ret
    exact ⟨by rw [HV.out]; rfl, HE1.out.drew.trans HC2.out⟩

set_option maxRecDepth 100000 in
set_option maxHeartbeats 2000000 in
theorem valueAt_no (A F L : Option Addr) (n N m : Nat) (xs : List Int) (c d e : Nat) (w : World) (hX : IntsW w L xs) (hN : N ≤ 8) (hxb : xs.length ≤ 1048576) (hb : lisB N n xs = false) (hE : ErrL w) :
    Calls Tryz.prog 98 #[.agg #[.slice A N c], .agg #[.int .i64 (n : Int), .slice F m d], .slice L xs.length e] w fun e w' => (∃ a : Addr, e = .panicked [{ v := .iface 187 (.pointer (some a)), recovered := false }]) ∧ Ex w w' := by
  have e0 : Ex w ((w.alloc (.cells #[.slice A N c] 32)).alloc (.cells #[.int .i64 (n : Int), .slice F m d] 34)) := ((Ex.refl w).alloc _).alloc _
  have b0 : Has ((w.alloc (.cells #[.slice A N c] 32)).alloc (.cells #[.int .i64 (n : Int), .slice F m d] 34)) (w.heap.size) 32 #[.slice A N c] := ((Has.newAt (w := w) (e := 32) (cs := #[.slice A N c]) (k := w.heap.size) (by simp)).alloc _)
  have b1 : Has ((w.alloc (.cells #[.slice A N c] 32)).alloc (.cells #[.int .i64 (n : Int), .slice F m d] 34)) (w.heap.size + 1) 34 #[.int .i64 (n : Int), .slice F m d] := (Has.newAt (w := (w.alloc (.cells #[.slice A N c] 32))) (e := 34) (cs := #[.int .i64 (n : Int), .slice F m d]) (k := w.heap.size + 1) (by simp))
  have HE0 := Lib.hid e0
  have c0 := b0.cell 0
  have c1 := b1.cell 0
  have HER := Lib.hid (fun W (he : Ex w W) => hE.ex he)
  by_cases hl : xs.length = n
  · have hbb : belowB (N : Int) xs = false := by
      simp only [lisB, hl, decide_true, Bool.true_and] at hb
      exact hb
    have hne : ((xs.length : Int) != (n : Int)) = false := by simp [hl]
    have HIE := Lib.hid (hbb ▸ isElementList_e A L N c e xs ((w.alloc (.cells #[.slice A N c] 32)).alloc (.cells #[.int .i64 (n : Int), .slice F m d] 34)) (hX.ex e0) hN hxb)
    clear hX hb hE hbb hl e0 b0 b1
    go_enter Tryz.func98, Tryz.ntmps98
    go_wp2_with fail
    generalize ((w.alloc (.cells #[.slice A N c] 32)).alloc (.cells #[.int .i64 (n : Int), .slice F m d] 34)) = W0 at *
    refine HIE.out.mono ?_
    rintro e' W1 ⟨rfl, he1⟩
    have HE1 := Lib.hid (HE0.out.trans he1)
    clear he1 c0 c1
    obtain ⟨a, hv⟩ := HER.out W1 HE1.out
    go_wp2_with fail
    exact ⟨rfl, ⟨a, rfl⟩, HE1.out⟩
  · have hne : ((xs.length : Int) != (n : Int)) = true := by simp; omega
    obtain ⟨a, hv⟩ := HER.out _ HE0.out
    clear hX hb hE hl e0 b0 b1
    go_enter Tryz.func98, Tryz.ntmps98
    go_wp2_with fail
    exact ⟨rfl, ⟨a, rfl⟩, HE0.out⟩

theorem ta_err (b : Addr) (xT : TypeId) (w : World) : (Instr.typeAssert (.iface 187 (.pointer (some b))) xT 153 true).run Tryz.prog w = .ok (.tuple #[.iface 187 (.pointer (some b)), .bool true]) w := by kernel_rfl
theorem ta_nil (xT : TypeId) (w : World) : (Instr.typeAssert .nilIface xT 153 true).run Tryz.prog w = .ok (.tuple #[.nilIface, .bool false]) w := by kernel_rfl

end Go.Proofs.YtcdijeeabgmgmaaGreatDoor
