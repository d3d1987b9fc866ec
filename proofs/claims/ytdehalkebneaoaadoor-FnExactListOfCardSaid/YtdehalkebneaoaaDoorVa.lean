/- The value of a cochain at a list: both sides. -/
import Derived.IntWalk
import Derived.Deep.RegionHeld3
import Derived.Test.YtdehalkebneaoaaDoorCo
import Derived.Test.YtdehalkebneaoaaDoorImB
namespace Go.Proofs.YtdehalkebneaoaaDoor
open Go.RowKit

/-- The number of a list of elements other than 0. -/
def cellF (N : Nat) (xs : List Int) : Nat → Nat
  | 0 => 0
  | k + 1 => cellF N xs k * (N - 1) + ((nth xs k).toNat - 1)
theorem cellF_lt {N : Nat} {xs : List Int} : ∀ k, (∀ j, j < k → 1 ≤ (nth xs j).toNat ∧ (nth xs j).toNat < N) → cellF N xs k < cellsN N k
  | 0, _ => by simp [cellF, cellsN]
  | k + 1, h => by
    have h1 := cellF_lt k (fun j hj => h j (by omega))
    have h2 := h k (by omega)
    rw [cellF, cellsN_succ]
    have h3 : (cellF N xs k + 1) * (N - 1) ≤ cellsN N k * (N - 1) := Nat.mul_le_mul_right _ h1
    rw [Nat.add_mul, Nat.one_mul] at h3
    omega
/-- The value. -/
def valR (N : Nat) (fs xs : List Int) : Int := if xs.any (fun x => x == 0) = true then 0 else nth fs (cellF N xs xs.length)
theorem any_zero {xs : List Int} {j : Nat} (hj : j < xs.length) (h : nth xs j = 0) : xs.any (fun x => x == 0) = true := by
  refine List.any_eq_true.2 ⟨0, ?_, by simp⟩
  rw [← h]
  simp [nth, hj]
theorem any_none {xs : List Int} (h : ∀ j, j < xs.length → nth xs j ≠ 0) : xs.any (fun x => x == 0) = false := by
  rw [Bool.eq_false_iff]
  intro e
  obtain ⟨x, hx, h0⟩ := List.any_eq_true.1 e
  obtain ⟨j, hj, rfl⟩ := List.getElem_of_mem hx
  exact h j hj (by simpa [nth, hj] using h0)
theorem valR_zero {N : Nat} {fs xs : List Int} {j : Nat} (hj : j < xs.length) (h : nth xs j = 0) : valR N fs xs = 0 := by rw [valR, if_pos (any_zero hj h)]
theorem valR_at {N : Nat} {fs xs : List Int} (h : ∀ j, j < xs.length → nth xs j ≠ 0) : valR N fs xs = nth fs (cellF N xs xs.length) := by rw [valR, any_none h]; rfl

set_option maxRecDepth 100000 in
set_option maxHeartbeats 2000000 in
theorem l03At_any (A F L : Option Addr) (n N : Nat) (fs xs : List Int) (c d e : Nat) (w : World) (hF : IntsW w F fs) (hX : IntsW w L xs) (hN : N ≤ 8) (hN1 : 1 ≤ N) (hn : n ≤ 4) (hx : xs.length = n) (hf : fs.length = cellsN N n) (hr : InR N xs) :
    Calls Tryd.prog 73 #[.agg #[.slice A N c], .agg #[.int .i64 (n : Int), .slice F fs.length d], .slice L xs.length e] w fun e w' => e = .returned (.int .i64 (valR N fs xs)) ∧ Ex w w' := by
  have e0 : Ex w ((w.alloc (.cells #[.slice A N c] 29)).alloc (.cells #[.int .i64 (n : Int), .slice F fs.length d] 46)) := ((Ex.refl w).alloc _).alloc _
  have b0 : Has ((w.alloc (.cells #[.slice A N c] 29)).alloc (.cells #[.int .i64 (n : Int), .slice F fs.length d] 46)) (w.heap.size) 29 #[.slice A N c] := ((Has.newAt (w := w) (e := 29) (cs := #[.slice A N c]) (k := w.heap.size) (by simp)).alloc _)
  have b1 : Has ((w.alloc (.cells #[.slice A N c] 29)).alloc (.cells #[.int .i64 (n : Int), .slice F fs.length d] 46)) (w.heap.size + 1) 46 #[.int .i64 (n : Int), .slice F fs.length d] := (Has.newAt (w := (w.alloc (.cells #[.slice A N c] 29))) (e := 46) (cs := #[.int .i64 (n : Int), .slice F fs.length d]) (k := w.heap.size + 1) (by simp))
  have HE0 := Lib.hid e0
  have HB0 := Lib.hid b0
  have HB1 := Lib.hid b1
  have HF := Lib.hid (hF.ex e0)
  have HX := Lib.hid (hX.ex e0)
  have HR := Lib.hid hr
  have HLX := Lib.hid hx
  have HLF := Lib.hid hf
  have hxb : xs.length ≤ 1048576 := by omega
  have HCF := Lib.hid (fun k (hk : k ≤ n) => cellsN_le hN (show k ≤ 4 by omega))
  obtain ⟨B, hB⟩ : ∃ B, N - 1 = B := ⟨_, rfl⟩
  have hB' : (N : Int) - 1 = (B : Int) := by omega
  have HBN := Lib.hid hB
  clear hF hX hr hx hf hB e0 b0 b1
  go_enter Tryd.func73, Tryd.ntmps73
  go_wp2_with fail
  generalize ((w.alloc (.cells #[.slice A N c] 29)).alloc (.cells #[.int .i64 (n : Int), .slice F fs.length d] 46)) = W0 at *
  go_loopw [7, 8] (fun s i wr => ∃ k : Nat, k ≤ xs.length ∧ i = .int .i64 (k : Int) ∧ s = .int .i64 (cellF N xs k : Int) ∧ Hid (∀ j, j < k → nth xs j ≠ 0) ∧ Hid (Ex W0 wr)) (fun _ i _ => xs.length - (intOf i).toNat)
  case atStart => exact ⟨0, Nat.zero_le _, rfl, rfl, Lib.hid fun j hj => absurd hj (by omega), Lib.hid (Ex.refl _)⟩
  case round =>
    obtain ⟨k, hk, rfl, rfl, HS, HE⟩ := hrel
    by_cases hlt : k < xs.length
    · obtain ⟨bx, ox, rfl, hbx, hcx⟩ := (HX.out.ex HE.out).ints.at_ hlt
      by_cases hz : nth xs k = 0
      · have HV := Lib.hid (valR_zero (N := N) (fs := fs) hlt hz)
        rw [hz] at hcx
        clear hz
        go_wp2_with fail
        go_ret
        exact ⟨by rw [HV.out]; rfl, HE0.out.trans HE.out⟩
      · have hrk := HR.out k hlt
        obtain ⟨x, hx2⟩ : ∃ x : Nat, nth xs k = (x : Int) := ⟨(nth xs k).toNat, by omega⟩
        have hzz : ((x : Int) == 0) = false := by rw [← hx2]; simpa using hz
        have hx1 : 1 ≤ x := by omega
        have hxN : x < N := by omega
        have HS2 : Hid (∀ j, j < k + 1 → nth xs j ≠ 0) := Lib.hid (fun j hj => by
          rcases Nat.lt_or_ge j k with h | h
          · exact HS.out j h
          · obtain rfl : j = k := by omega
            exact hz)
        have hcl : cellF N xs k < cellsN N k := cellF_lt k (fun j hj => by
          have h1 := HR.out j (by omega)
          have h2 := HS.out j hj
          omega)
        have hcl2 : cellF N xs k * (N - 1) ≤ 2401 := by
          have h1 : cellF N xs k * (N - 1) ≤ cellsN N k * (N - 1) := Nat.mul_le_mul_right _ (by omega)
          rw [← cellsN_succ] at h1
          exact Nat.le_trans h1 (cellsN_le hN (by have := HLX.out; omega))
        have hc3 := HCF.out k (by have := HLX.out; omega)
        have HCS : Hid (cellF N xs (k + 1) = cellF N xs k * (N - 1) + (x - 1)) := Lib.hid (by rw [cellF, hx2]; rfl)
        rw [HBN.out] at hcl2 HCS
        rw [hx2] at hcx
        obtain ⟨u, hu⟩ : ∃ u, cellF N xs k = u := ⟨_, rfl⟩
        rw [hu] at hcl hcl2 HCS ⊢
        obtain ⟨p, hp⟩ : ∃ p, u * B = p := ⟨_, rfl⟩
        have hpm : (u : Int) * (B : Int) = (p : Int) := by rw [← hp]; simp
        rw [hp] at hcl2 HCS
        have hsub : (p : Int) + (x : Int) - 1 = ((p + (x - 1) : Nat) : Int) := by omega
        have HWV : Hid (IntKind.i64.wrap (IntKind.i64.wrap (IntKind.i64.wrap ((u : Int) * IntKind.i64.wrap (B : Int)) + (x : Int)) - 1) = ((p + (x - 1) : Nat) : Int)) := Lib.hid (by rw [IntWalk.i64_in (B : Int) (by omega), hpm, IntWalk.i64_in (p : Int) (by omega), IntWalk.i64_in ((p : Int) + (x : Int)) (by omega), IntWalk.i64_in _ (by omega)]; exact hsub)
        clear hpm hsub
        have hu3 : u ≤ 2401 := by omega
        clear hz hrk hx2 hu hp hcl hc3
        have HSK := Lib.hid (fun W' (he : Ex wr.drew W') => And.intro ((HB0.out.ex (HE.out.drew.trans he)).cell 0) ((he.below.cell (p := ⟨bx, ox + k, none⟩) hbx).trans hcx))
        have hN6 : N ≤ 1048576 := by omega
        go_wp2_with fail
        refine wp_region_quiet (C := fun w' => Ex wr.drew w') (by kernel_rfl) (by kernel_rfl) (Ex.refl _) ?_
        refine BigFrame.wpQuiet_want (by rfl) fun K hK => ⟨?_, fun w' hC => ?_, hK _ ?_⟩
        rotate_left
        · (obtain ⟨q0, q1⟩ := HSK.out _ hC; go_simp; first | done | with_reducible rfl | exact ⟨rfl, hC⟩)
        clear hK K
        simp only [Act.put, List.setIfInBounds_toArray, List.set_cons_zero, List.set_cons_succ]
        refine BigFrame.wpQuiet_want (by rfl) fun K hK => ⟨?_, fun w' hC => ?_, hK _ ?_⟩
        rotate_left
        · (obtain ⟨q0, q1⟩ := HSK.out _ hC; go_simp; first | done | with_reducible rfl | exact ⟨rfl, hC⟩)
        clear hK K
        simp only [Act.put, List.setIfInBounds_toArray, List.set_cons_zero, List.set_cons_succ]
        refine BigFrame.wpQuiet_want (by rfl) fun K hK => ⟨.int .i64 (N : Int), fun w' hC => (by go_simp; refine ((l01N_ex A N c w' hN6)).mono ?_; rintro e w2 ⟨rfl, hb⟩; exact ⟨rfl, hC.trans hb⟩), hK _ ?_⟩
        clear hK K
        simp only [Act.put, List.setIfInBounds_toArray, List.set_cons_zero, List.set_cons_succ]
        refine BigFrame.wpQuiet_want (by rfl) fun K hK => ⟨?_, fun w' hC => ?_, hK _ ?_⟩
        rotate_left
        · (obtain ⟨q0, q1⟩ := HSK.out _ hC; go_simp; first | done | with_reducible rfl | exact ⟨rfl, hC⟩)
        clear hK K
        simp only [Act.put, List.setIfInBounds_toArray, List.set_cons_zero, List.set_cons_succ]
        refine BigFrame.wpQuiet_want (by rfl) fun K hK => ⟨?_, fun w' hC => ?_, hK _ ?_⟩
        rotate_left
        · (obtain ⟨q0, q1⟩ := HSK.out _ hC; go_simp; first | done | with_reducible rfl | exact ⟨rfl, hC⟩)
        clear hK K
        simp only [Act.put, List.setIfInBounds_toArray, List.set_cons_zero, List.set_cons_succ]
        refine BigFrame.wpQuiet_want (by rfl) fun K hK => ⟨?_, fun w' hC => ?_, hK _ ?_⟩
        rotate_left
        · (obtain ⟨q0, q1⟩ := HSK.out _ hC; go_simp; first | done | with_reducible rfl | exact ⟨rfl, hC⟩)
        clear hK K
        simp only [Act.put, List.setIfInBounds_toArray, List.set_cons_zero, List.set_cons_succ]
        refine BigFrame.wpQuiet_want (by rfl) fun K hK => ⟨?_, fun w' hC => ?_, hK _ ?_⟩
        rotate_left
        · (obtain ⟨q0, q1⟩ := HSK.out _ hC; go_simp; first | done | with_reducible rfl | exact ⟨rfl, hC⟩)
        clear hK K
        simp only [Act.put, List.setIfInBounds_toArray, List.set_cons_zero, List.set_cons_succ]
        refine BigFrame.wpQuiet_want (by rfl) fun K hK => ⟨?_, fun w' hC => ?_, hK _ ?_⟩
        rotate_left
        · (obtain ⟨q0, q1⟩ := HSK.out _ hC; go_simp; first | done | with_reducible rfl | exact ⟨rfl, hC⟩)
        clear hK K
        simp only [Act.put, List.setIfInBounds_toArray, List.set_cons_zero, List.set_cons_succ]
        refine BigFrame.wpQuiet_want (by rfl) fun K hK => ⟨?_, fun w' hC => ?_, hK _ ?_⟩
        rotate_left
        · (obtain ⟨q0, q1⟩ := HSK.out _ hC; go_simp; first | done | with_reducible rfl | exact ⟨rfl, hC⟩)
        clear hK K
        simp only [Act.put, List.setIfInBounds_toArray, List.set_cons_zero, List.set_cons_succ]
        refine BigFrame.wpQuiet_want (by rfl) fun K hK => ⟨?_, fun w' hC => ?_, hK _ ?_⟩
        rotate_left
        · (obtain ⟨q0, q1⟩ := HSK.out _ hC; go_simp; first | done | with_reducible rfl | exact ⟨rfl, hC⟩)
        clear hK K
        simp only [Act.put, List.setIfInBounds_toArray, List.set_cons_zero, List.set_cons_succ]
        refine BigFrame.wpQuiet_want (by rfl) fun K hK => ⟨?_, fun w' hC => ?_, hK _ ?_⟩
        rotate_left
        · (obtain ⟨q0, q1⟩ := HSK.out _ hC; go_simp; first | done | with_reducible rfl | exact ⟨rfl, hC⟩)
        clear hK K
        simp only [Act.put, List.setIfInBounds_toArray, List.set_cons_zero, List.set_cons_succ]
        refine BigFrame.wpQuiet_want (by rfl) fun K hK => ⟨?_, fun w' hC => ?_, hK _ ?_⟩
        rotate_left
        · (obtain ⟨q0, q1⟩ := HSK.out _ hC; go_simp; first | done | with_reducible rfl | exact ⟨rfl, hC⟩)
        clear hK K
        simp only [Act.put, List.setIfInBounds_toArray, List.set_cons_zero, List.set_cons_succ]
        refine wpQuiet_nil ?_
        intro w2 hC2
        have HC2 := Lib.hid hC2
        clear hC2
        go_wp2_with fail
        go_roundw
        case rel => exact ⟨k + 1, by omega, by go_num, by rw [HCS.out, ← HWV.out], HS2, Lib.hid (HE.out.drew.trans HC2.out)⟩
        case measure => simp [intOf]; omega
    · obtain rfl : k = xs.length := by omega
      have hcl : cellF N xs xs.length < fs.length := by
        rw [HLF.out, HLX.out]
        have h := cellF_lt (N := N) (xs := xs) xs.length (fun j hj => by
          have h1 := HR.out j hj
          have h2 := HS.out j hj
          omega)
        rw [HLX.out] at h
        rwa [HLX.out] at *
      have HV := Lib.hid (valR_at (N := N) (fs := fs) HS.out)
      obtain ⟨bx, ox, rfl, hbx, hcx⟩ := (HF.out.ex HE.out).ints.at_ hcl
      obtain ⟨u, hu⟩ : ∃ u, cellF N xs xs.length = u := ⟨_, rfl⟩
      rw [hu] at hcl hcx HV ⊢
      have c1 := (HB1.out.ex HE.out).cell 1
      clear hu
      go_wp2_with fail
      go_ret
      exact ⟨by rw [HV.out]; rfl, HE0.out.trans HE.out⟩

end Go.Proofs.YtdehalkebneaoaaDoor
