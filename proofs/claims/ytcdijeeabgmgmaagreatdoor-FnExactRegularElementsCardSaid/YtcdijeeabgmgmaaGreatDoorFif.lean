/- Fi Fc Fdc in one text. -/
import Derived.Test.YtcdijeeabgmgmaaGreatDoorMnm
import Derived.Test.YtcdijeeabgmgmaaGreatDoorCel
import Derived.Test.YtcdijeeabgmgmaaGreatDoorMdl
/- Is it a cochain of a group and a module? Both sides' tests. -/
namespace Go.Proofs.YtcdijeeabgmgmaaGreatDoor
open Go.RowKit

/-- Has a cochain of a group of order N and a module with M a Degree n and the Values fs? -/
def cocB (N : Nat) (M : Int) (n : Int) (fs : List Int) : Bool := inB n 0 3 && (decide (fs.length = cellsN N n.toNat) && belowB M fs)

set_option maxRecDepth 100000 in
set_option maxHeartbeats 2000000 in
theorem fitsModule_any (B0 B1 B2 : Option Addr) (t0 : List (List Int)) (M : Nat) (us : List Int) (n : Int) (fs : List Int) (d0 d1 d2 : Nat) (w : World) (hN1 : 1 ≤ t0.length) (hN : t0.length ≤ 8) (hM12 : M ≤ 12) (hF : IntsW w B2 fs) (hx : fs.length ≤ 1048576) :
    Calls Tryz.prog 86 #[.agg #[.slice B0 t0.length d0], .agg #[.int .i64 (M : Int), .slice B1 us.length d1], .agg #[.int .i64 n, .slice B2 fs.length d2]] w fun e w' => e = .returned (.bool (cocB t0.length (M : Int) n fs)) ∧ Ex w w' := by
  have e0 : Ex w (((w.alloc (.cells #[.slice B0 t0.length d0] 32)).alloc (.cells #[.int .i64 (M : Int), .slice B1 us.length d1] 52)).alloc (.cells #[.int .i64 n, .slice B2 fs.length d2] 34)) := (((Ex.refl w).alloc _).alloc _).alloc _
  have b0 : Has (((w.alloc (.cells #[.slice B0 t0.length d0] 32)).alloc (.cells #[.int .i64 (M : Int), .slice B1 us.length d1] 52)).alloc (.cells #[.int .i64 n, .slice B2 fs.length d2] 34)) (w.heap.size) 32 #[.slice B0 t0.length d0] := (((Has.newAt (w := w) (e := 32) (cs := #[.slice B0 t0.length d0]) (k := w.heap.size) (by simp)).alloc _).alloc _)
  have b1 : Has (((w.alloc (.cells #[.slice B0 t0.length d0] 32)).alloc (.cells #[.int .i64 (M : Int), .slice B1 us.length d1] 52)).alloc (.cells #[.int .i64 n, .slice B2 fs.length d2] 34)) (w.heap.size + 1) 52 #[.int .i64 (M : Int), .slice B1 us.length d1] := ((Has.newAt (w := (w.alloc (.cells #[.slice B0 t0.length d0] 32))) (e := 52) (cs := #[.int .i64 (M : Int), .slice B1 us.length d1]) (k := w.heap.size + 1) (by simp)).alloc _)
  have b2 : Has (((w.alloc (.cells #[.slice B0 t0.length d0] 32)).alloc (.cells #[.int .i64 (M : Int), .slice B1 us.length d1] 52)).alloc (.cells #[.int .i64 n, .slice B2 fs.length d2] 34)) (w.heap.size + 1 + 1) 34 #[.int .i64 n, .slice B2 fs.length d2] := (Has.newAt (w := ((w.alloc (.cells #[.slice B0 t0.length d0] 32)).alloc (.cells #[.int .i64 (M : Int), .slice B1 us.length d1] 52))) (e := 34) (cs := #[.int .i64 n, .slice B2 fs.length d2]) (k := w.heap.size + 1 + 1) (by simp))
  have HF := Lib.hid (hF.ex e0)
  have HE0 := Lib.hid e0
  clear hF
  cases hd : inB n 0 3 with
  | false =>
    have HC : Hid (cocB t0.length (M : Int) n fs = false) := Lib.hid (by rw [cocB, hd]; rfl)
    go_enter Tryz.func86, Tryz.ntmps86
    go_wp2_with fail
    generalize (((w.alloc (.cells #[.slice B0 t0.length d0] 32)).alloc (.cells #[.int .i64 (M : Int), .slice B1 us.length d1] 52)).alloc (.cells #[.int .i64 n, .slice B2 fs.length d2] 34)) = W0 at *
    have HSK := Lib.hid (fun (W' : World) (hb : Ex W0.drew W') => And.intro ((Has.ex (w := W0.drew) b2 hb).cell 0) ((Has.ex (w := W0.drew) b2 hb).cell 1))
    clear b0 b1 b2 e0
    refine wp_region_quiet (C := fun w' => Ex W0.drew w') (by kernel_rfl) (by kernel_rfl) (Ex.refl _) ?_
    refine BigFrame.wpQuiet_want (by rfl) fun K hK => ⟨?_, fun w' hC => ?_, hK _ ?_⟩
    rotate_left
    · (obtain ⟨q0, q1⟩ := HSK.out _ hC; go_simp; first | done | with_reducible rfl | exact ⟨rfl, hC⟩)
    clear hK K
    simp only [Act.put, List.setIfInBounds_toArray, List.set_cons_zero, List.set_cons_succ]
    refine BigFrame.wpQuiet_want (by rfl) fun K hK => ⟨?_, fun w' hC => ?_, hK _ ?_⟩
    rotate_left
    · (obtain ⟨q0, q1⟩ := HSK.out _ hC; go_simp; first | done | with_reducible rfl | exact ⟨rfl, hC⟩)
    clear hK K
    simp only [Act.put, List.setIfInBounds_toArray, List.set_cons_zero, List.set_cons_succ]
    refine BigFrame.wpQuiet_want (by rfl) fun K hK => ⟨.bool false, fun w' hC => (by go_simp; refine ((hd ▸ isDegree_e n w')).mono ?_; rintro e w2 ⟨rfl, hb⟩; exact ⟨rfl, hC.trans hb⟩), hK _ ?_⟩
    clear hK K
    simp only [Act.put, List.setIfInBounds_toArray, List.set_cons_zero, List.set_cons_succ]
    refine BigFrame.wpQuiet_want (by rfl) fun K hK => ⟨?_, fun w' hC => ?_, hK _ ?_⟩
    rotate_left
    · (obtain ⟨q0, q1⟩ := HSK.out _ hC; go_simp; first | done | with_reducible rfl | exact ⟨rfl, hC⟩)
    clear hK K
    simp only [Act.put, List.setIfInBounds_toArray, List.set_cons_zero, List.set_cons_succ]
    refine BigFrame.wpQuiet_skip (by rfl) ?_
    simp only [Act.put, List.setIfInBounds_toArray, List.set_cons_zero, List.set_cons_succ]
    refine BigFrame.wpQuiet_skip (by rfl) ?_
    simp only [Act.put, List.setIfInBounds_toArray, List.set_cons_zero, List.set_cons_succ]
    refine BigFrame.wpQuiet_skip (by rfl) ?_
    simp only [Act.put, List.setIfInBounds_toArray, List.set_cons_zero, List.set_cons_succ]
    refine BigFrame.wpQuiet_skip (by rfl) ?_
    simp only [Act.put, List.setIfInBounds_toArray, List.set_cons_zero, List.set_cons_succ]
    refine BigFrame.wpQuiet_skip (by rfl) ?_
    simp only [Act.put, List.setIfInBounds_toArray, List.set_cons_zero, List.set_cons_succ]
    refine BigFrame.wpQuiet_skip (by rfl) ?_
    simp only [Act.put, List.setIfInBounds_toArray, List.set_cons_zero, List.set_cons_succ]
    refine BigFrame.wpQuiet_skip (by rfl) ?_
    simp only [Act.put, List.setIfInBounds_toArray, List.set_cons_zero, List.set_cons_succ]
    refine BigFrame.wpQuiet_skip (by rfl) ?_
    simp only [Act.put, List.setIfInBounds_toArray, List.set_cons_zero, List.set_cons_succ]
    refine BigFrame.wpQuiet_want (by rfl) fun K hK => ⟨?_, fun w' hC => ?_, hK _ ?_⟩
    rotate_left
    · (obtain ⟨q0, q1⟩ := HSK.out _ hC; go_simp; first | done | with_reducible rfl | exact ⟨rfl, hC⟩)
    clear hK K
    simp only [Act.put, List.setIfInBounds_toArray, List.set_cons_zero, List.set_cons_succ]
    refine BigFrame.wpQuiet_want (by rfl) fun K hK => ⟨?_, fun w' hC => ?_, hK _ ?_⟩
    rotate_left
    · (obtain ⟨q0, q1⟩ := HSK.out _ hC; go_simp; first | done | with_reducible rfl | exact ⟨rfl, hC⟩)
    clear hK K
    simp only [Act.put, List.setIfInBounds_toArray, List.set_cons_zero, List.set_cons_succ]
    refine BigFrame.wpQuiet_skip (by rfl) ?_
    simp only [Act.put, List.setIfInBounds_toArray, List.set_cons_zero, List.set_cons_succ]
    refine BigFrame.wpQuiet_skip (by rfl) ?_
    simp only [Act.put, List.setIfInBounds_toArray, List.set_cons_zero, List.set_cons_succ]
    refine BigFrame.wpQuiet_skip (by rfl) ?_
    simp only [Act.put, List.setIfInBounds_toArray, List.set_cons_zero, List.set_cons_succ]
    refine BigFrame.wpQuiet_skip (by rfl) ?_
    simp only [Act.put, List.setIfInBounds_toArray, List.set_cons_zero, List.set_cons_succ]
    refine BigFrame.wpQuiet_skip (by rfl) ?_
    simp only [Act.put, List.setIfInBounds_toArray, List.set_cons_zero, List.set_cons_succ]
    refine BigFrame.wpQuiet_want (by rfl) fun K hK => ⟨?_, fun w' hC => ?_, hK _ ?_⟩
    rotate_left
    · (obtain ⟨q0, q1⟩ := HSK.out _ hC; go_simp; first | done | with_reducible rfl | exact ⟨rfl, hC⟩)
    clear hK K
    simp only [Act.put, List.setIfInBounds_toArray, List.set_cons_zero, List.set_cons_succ]
    refine BigFrame.wpQuiet_want (by rfl) fun K hK => ⟨?_, fun w' hC => ?_, hK _ ?_⟩
    rotate_left
    · (obtain ⟨q0, q1⟩ := HSK.out _ hC; go_simp; first | done | with_reducible rfl | exact ⟨rfl, hC⟩)
    clear hK K
    simp only [Act.put, List.setIfInBounds_toArray, List.set_cons_zero, List.set_cons_succ]
    refine wpQuiet_nil ?_
    intro w2 hC2
    have HC2 := Lib.hid hC2
    clear hC2
    go_wp2_with fail
    go_ret
    exact ⟨by rw [HC.out]; rfl, HE0.out.trans ((Ex.refl W0).drew.trans HC2.out)⟩
  | true =>
    obtain ⟨hn0, hn3⟩ := inB_true hd
    obtain ⟨k, rfl⟩ : ∃ k : Nat, n = (k : Int) := ⟨n.toNat, by omega⟩
    have hk4 : k ≤ 4 := by omega
    have hcl := cellsN_le hN hk4
    by_cases hl : fs.length = cellsN t0.length k
    · have hq : ((fs.length : Int) == (cellsN t0.length k : Int)) = true := by simp [hl]
      have HC : Hid (cocB t0.length (M : Int) (k : Int) fs = belowB (M : Int) fs) := Lib.hid (by rw [cocB, hd]; simp [hl])
      have HL := Lib.hid hl
      clear hl
      obtain ⟨cn, hcn⟩ : ∃ cn, cellsN t0.length k = cn := ⟨_, rfl⟩
      have HCN := Lib.hid hcn
      rw [hcn] at hq hcl
      clear hcn
      obtain ⟨bv, hbv⟩ : ∃ b, belowB (M : Int) fs = b := ⟨_, rfl⟩
      have HBV := Lib.hid hbv
      clear hbv
      go_enter Tryz.func86, Tryz.ntmps86
      go_wp2_with fail
      generalize (((w.alloc (.cells #[.slice B0 t0.length d0] 32)).alloc (.cells #[.int .i64 (M : Int), .slice B1 us.length d1] 52)).alloc (.cells #[.int .i64 (k : Int), .slice B2 fs.length d2] 34)) = W0 at *
      have HSK := Lib.hid (fun (W' : World) (hb : Ex W0.drew W') => And.intro ((Has.ex (w := W0.drew) b2 hb).cell 0) (And.intro ((Has.ex (w := W0.drew) b2 hb).cell 1) (And.intro ((Has.ex (w := W0.drew) b0 hb).cell 0) ((Has.ex (w := W0.drew) b1 hb).cell 0))))
      clear b0 b1 b2 e0
      refine wp_region_quiet (C := fun w' => Ex W0.drew w') (by kernel_rfl) (by kernel_rfl) (Ex.refl _) ?_
      refine BigFrame.wpQuiet_want (by rfl) fun K hK => ⟨?_, fun w' hC => ?_, hK _ ?_⟩
      rotate_left
      · (obtain ⟨q0, q1, q2, q3⟩ := HSK.out _ hC; go_simp; first | done | with_reducible rfl | exact ⟨rfl, hC⟩)
      clear hK K
      simp only [Act.put, List.setIfInBounds_toArray, List.set_cons_zero, List.set_cons_succ]
      refine BigFrame.wpQuiet_want (by rfl) fun K hK => ⟨?_, fun w' hC => ?_, hK _ ?_⟩
      rotate_left
      · (obtain ⟨q0, q1, q2, q3⟩ := HSK.out _ hC; go_simp; first | done | with_reducible rfl | exact ⟨rfl, hC⟩)
      clear hK K
      simp only [Act.put, List.setIfInBounds_toArray, List.set_cons_zero, List.set_cons_succ]
      refine BigFrame.wpQuiet_want (by rfl) fun K hK => ⟨.bool true, fun w' hC => (by go_simp; refine ((hd ▸ isDegree_e (k : Int) w')).mono ?_; rintro e w2 ⟨rfl, hb⟩; exact ⟨rfl, hC.trans hb⟩), hK _ ?_⟩
      clear hK K
      simp only [Act.put, List.setIfInBounds_toArray, List.set_cons_zero, List.set_cons_succ]
      refine BigFrame.wpQuiet_want (by rfl) fun K hK => ⟨?_, fun w' hC => ?_, hK _ ?_⟩
      rotate_left
      · (obtain ⟨q0, q1, q2, q3⟩ := HSK.out _ hC; go_simp; first | done | with_reducible rfl | exact ⟨rfl, hC⟩)
      clear hK K
      simp only [Act.put, List.setIfInBounds_toArray, List.set_cons_zero, List.set_cons_succ]
      refine BigFrame.wpQuiet_want (by rfl) fun K hK => ⟨?_, fun w' hC => ?_, hK _ ?_⟩
      rotate_left
      · (obtain ⟨q0, q1, q2, q3⟩ := HSK.out _ hC; go_simp; first | done | with_reducible rfl | exact ⟨rfl, hC⟩)
      clear hK K
      simp only [Act.put, List.setIfInBounds_toArray, List.set_cons_zero, List.set_cons_succ]
      refine BigFrame.wpQuiet_want (by rfl) fun K hK => ⟨?_, fun w' hC => ?_, hK _ ?_⟩
      rotate_left
      · (obtain ⟨q0, q1, q2, q3⟩ := HSK.out _ hC; go_simp; first | done | with_reducible rfl | exact ⟨rfl, hC⟩)
      clear hK K
      simp only [Act.put, List.setIfInBounds_toArray, List.set_cons_zero, List.set_cons_succ]
      refine BigFrame.wpQuiet_want (by rfl) fun K hK => ⟨?_, fun w' hC => ?_, hK _ ?_⟩
      rotate_left
      · (obtain ⟨q0, q1, q2, q3⟩ := HSK.out _ hC; go_simp; first | done | with_reducible rfl | exact ⟨rfl, hC⟩)
      clear hK K
      simp only [Act.put, List.setIfInBounds_toArray, List.set_cons_zero, List.set_cons_succ]
      refine BigFrame.wpQuiet_want (by rfl) fun K hK => ⟨?_, fun w' hC => ?_, hK _ ?_⟩
      rotate_left
      · (obtain ⟨q0, q1, q2, q3⟩ := HSK.out _ hC; go_simp; first | done | with_reducible rfl | exact ⟨rfl, hC⟩)
      clear hK K
      simp only [Act.put, List.setIfInBounds_toArray, List.set_cons_zero, List.set_cons_succ]
      refine BigFrame.wpQuiet_want (by rfl) fun K hK => ⟨?_, fun w' hC => ?_, hK _ ?_⟩
      rotate_left
      · (obtain ⟨q0, q1, q2, q3⟩ := HSK.out _ hC; go_simp; first | done | with_reducible rfl | exact ⟨rfl, hC⟩)
      clear hK K
      simp only [Act.put, List.setIfInBounds_toArray, List.set_cons_zero, List.set_cons_succ]
      refine BigFrame.wpQuiet_want (by rfl) fun K hK => ⟨?_, fun w' hC => ?_, hK _ ?_⟩
      rotate_left
      · (obtain ⟨q0, q1, q2, q3⟩ := HSK.out _ hC; go_simp; first | done | with_reducible rfl | exact ⟨rfl, hC⟩)
      clear hK K
      simp only [Act.put, List.setIfInBounds_toArray, List.set_cons_zero, List.set_cons_succ]
      refine BigFrame.wpQuiet_want (by rfl) fun K hK => ⟨.int .i64 (cn : Int), fun w' hC => (by go_simp; refine ((HCN.out ▸ cellCount_any B0 t0.length d0 k w' hN hN1 hk4)).mono ?_; rintro e w2 ⟨rfl, hb⟩; exact ⟨rfl, hC.trans hb⟩), hK _ ?_⟩
      clear hK K
      simp only [Act.put, List.setIfInBounds_toArray, List.set_cons_zero, List.set_cons_succ]
      refine BigFrame.wpQuiet_want (by rfl) fun K hK => ⟨?_, fun w' hC => ?_, hK _ ?_⟩
      rotate_left
      · (obtain ⟨q0, q1, q2, q3⟩ := HSK.out _ hC; go_simp; first | done | with_reducible rfl | exact ⟨rfl, hC⟩)
      clear hK K
      simp only [Act.put, List.setIfInBounds_toArray, List.set_cons_zero, List.set_cons_succ]
      refine BigFrame.wpQuiet_want (by rfl) fun K hK => ⟨?_, fun w' hC => ?_, hK _ ?_⟩
      rotate_left
      · (obtain ⟨q0, q1, q2, q3⟩ := HSK.out _ hC; go_simp; first | done | with_reducible rfl | exact ⟨rfl, hC⟩)
      clear hK K
      simp only [Act.put, List.setIfInBounds_toArray, List.set_cons_zero, List.set_cons_succ]
      refine BigFrame.wpQuiet_want (by rfl) fun K hK => ⟨?_, fun w' hC => ?_, hK _ ?_⟩
      rotate_left
      · (obtain ⟨q0, q1, q2, q3⟩ := HSK.out _ hC; go_simp; first | done | with_reducible rfl | exact ⟨rfl, hC⟩)
      clear hK K
      simp only [Act.put, List.setIfInBounds_toArray, List.set_cons_zero, List.set_cons_succ]
      refine BigFrame.wpQuiet_want (by rfl) fun K hK => ⟨?_, fun w' hC => ?_, hK _ ?_⟩
      rotate_left
      · (obtain ⟨q0, q1, q2, q3⟩ := HSK.out _ hC; go_simp; first | done | with_reducible rfl | exact ⟨rfl, hC⟩)
      clear hK K
      simp only [Act.put, List.setIfInBounds_toArray, List.set_cons_zero, List.set_cons_succ]
      refine BigFrame.wpQuiet_want (by rfl) fun K hK => ⟨?_, fun w' hC => ?_, hK _ ?_⟩
      rotate_left
      · (obtain ⟨q0, q1, q2, q3⟩ := HSK.out _ hC; go_simp; first | done | with_reducible rfl | exact ⟨rfl, hC⟩)
      clear hK K
      simp only [Act.put, List.setIfInBounds_toArray, List.set_cons_zero, List.set_cons_succ]
      refine BigFrame.wpQuiet_want (by rfl) fun K hK => ⟨?_, fun w' hC => ?_, hK _ ?_⟩
      rotate_left
      · (obtain ⟨q0, q1, q2, q3⟩ := HSK.out _ hC; go_simp; first | done | with_reducible rfl | exact ⟨rfl, hC⟩)
      clear hK K
      simp only [Act.put, List.setIfInBounds_toArray, List.set_cons_zero, List.set_cons_succ]
      refine BigFrame.wpQuiet_want (by rfl) fun K hK => ⟨?_, fun w' hC => ?_, hK _ ?_⟩
      rotate_left
      · (obtain ⟨q0, q1, q2, q3⟩ := HSK.out _ hC; go_simp; first | done | with_reducible rfl | exact ⟨rfl, hC⟩)
      clear hK K
      simp only [Act.put, List.setIfInBounds_toArray, List.set_cons_zero, List.set_cons_succ]
      refine BigFrame.wpQuiet_want (by rfl) fun K hK => ⟨.bool bv, fun w' hC => (by go_simp; refine ((HBV.out ▸ areBelow_any B2 (M : Int) fs d2 w' (HF.out.ex ((Ex.refl W0).drew.trans hC)) hx (by omega) (by omega))).mono ?_; rintro e w2 ⟨rfl, hb⟩; exact ⟨rfl, hC.trans hb⟩), hK _ ?_⟩
      clear hK K
      simp only [Act.put, List.setIfInBounds_toArray, List.set_cons_zero, List.set_cons_succ]
      refine BigFrame.wpQuiet_want (by rfl) fun K hK => ⟨?_, fun w' hC => ?_, hK _ ?_⟩
      rotate_left
      · (obtain ⟨q0, q1, q2, q3⟩ := HSK.out _ hC; go_simp; first | done | with_reducible rfl | exact ⟨rfl, hC⟩)
      clear hK K
      simp only [Act.put, List.setIfInBounds_toArray, List.set_cons_zero, List.set_cons_succ]
      refine BigFrame.wpQuiet_want (by rfl) fun K hK => ⟨?_, fun w' hC => ?_, hK _ ?_⟩
      rotate_left
      · (obtain ⟨q0, q1, q2, q3⟩ := HSK.out _ hC; go_simp; first | done | with_reducible rfl | exact ⟨rfl, hC⟩)
      clear hK K
      simp only [Act.put, List.setIfInBounds_toArray, List.set_cons_zero, List.set_cons_succ]
      refine wpQuiet_nil ?_
      intro w2 hC2
      have HC2 := Lib.hid hC2
      clear hC2
      go_wp2_with fail
      go_ret
      exact ⟨by rw [HC.out, HBV.out]; rfl, HE0.out.trans ((Ex.refl W0).drew.trans HC2.out)⟩
    · have hq : ((fs.length : Int) == (cellsN t0.length k : Int)) = false := by simp; omega
      have HC : Hid (cocB t0.length (M : Int) (k : Int) fs = false) := Lib.hid (by rw [cocB, hd]; simp [hl])
      clear hl
      obtain ⟨cn, hcn⟩ : ∃ cn, cellsN t0.length k = cn := ⟨_, rfl⟩
      have HCN := Lib.hid hcn
      rw [hcn] at hq hcl
      clear hcn
      go_enter Tryz.func86, Tryz.ntmps86
      go_wp2_with fail
      generalize (((w.alloc (.cells #[.slice B0 t0.length d0] 32)).alloc (.cells #[.int .i64 (M : Int), .slice B1 us.length d1] 52)).alloc (.cells #[.int .i64 (k : Int), .slice B2 fs.length d2] 34)) = W0 at *
      have HSK := Lib.hid (fun (W' : World) (hb : Ex W0.drew W') => And.intro ((Has.ex (w := W0.drew) b2 hb).cell 0) (And.intro ((Has.ex (w := W0.drew) b2 hb).cell 1) (And.intro ((Has.ex (w := W0.drew) b0 hb).cell 0) ((Has.ex (w := W0.drew) b1 hb).cell 0))))
      clear b0 b1 b2 e0
      refine wp_region_quiet (C := fun w' => Ex W0.drew w') (by kernel_rfl) (by kernel_rfl) (Ex.refl _) ?_
      refine BigFrame.wpQuiet_want (by rfl) fun K hK => ⟨?_, fun w' hC => ?_, hK _ ?_⟩
      rotate_left
      · (obtain ⟨q0, q1, q2, q3⟩ := HSK.out _ hC; go_simp; first | done | with_reducible rfl | exact ⟨rfl, hC⟩)
      clear hK K
      simp only [Act.put, List.setIfInBounds_toArray, List.set_cons_zero, List.set_cons_succ]
      refine BigFrame.wpQuiet_want (by rfl) fun K hK => ⟨?_, fun w' hC => ?_, hK _ ?_⟩
      rotate_left
      · (obtain ⟨q0, q1, q2, q3⟩ := HSK.out _ hC; go_simp; first | done | with_reducible rfl | exact ⟨rfl, hC⟩)
      clear hK K
      simp only [Act.put, List.setIfInBounds_toArray, List.set_cons_zero, List.set_cons_succ]
      refine BigFrame.wpQuiet_want (by rfl) fun K hK => ⟨.bool true, fun w' hC => (by go_simp; refine ((hd ▸ isDegree_e (k : Int) w')).mono ?_; rintro e w2 ⟨rfl, hb⟩; exact ⟨rfl, hC.trans hb⟩), hK _ ?_⟩
      clear hK K
      simp only [Act.put, List.setIfInBounds_toArray, List.set_cons_zero, List.set_cons_succ]
      refine BigFrame.wpQuiet_want (by rfl) fun K hK => ⟨?_, fun w' hC => ?_, hK _ ?_⟩
      rotate_left
      · (obtain ⟨q0, q1, q2, q3⟩ := HSK.out _ hC; go_simp; first | done | with_reducible rfl | exact ⟨rfl, hC⟩)
      clear hK K
      simp only [Act.put, List.setIfInBounds_toArray, List.set_cons_zero, List.set_cons_succ]
      refine BigFrame.wpQuiet_want (by rfl) fun K hK => ⟨?_, fun w' hC => ?_, hK _ ?_⟩
      rotate_left
      · (obtain ⟨q0, q1, q2, q3⟩ := HSK.out _ hC; go_simp; first | done | with_reducible rfl | exact ⟨rfl, hC⟩)
      clear hK K
      simp only [Act.put, List.setIfInBounds_toArray, List.set_cons_zero, List.set_cons_succ]
      refine BigFrame.wpQuiet_want (by rfl) fun K hK => ⟨?_, fun w' hC => ?_, hK _ ?_⟩
      rotate_left
      · (obtain ⟨q0, q1, q2, q3⟩ := HSK.out _ hC; go_simp; first | done | with_reducible rfl | exact ⟨rfl, hC⟩)
      clear hK K
      simp only [Act.put, List.setIfInBounds_toArray, List.set_cons_zero, List.set_cons_succ]
      refine BigFrame.wpQuiet_want (by rfl) fun K hK => ⟨?_, fun w' hC => ?_, hK _ ?_⟩
      rotate_left
      · (obtain ⟨q0, q1, q2, q3⟩ := HSK.out _ hC; go_simp; first | done | with_reducible rfl | exact ⟨rfl, hC⟩)
      clear hK K
      simp only [Act.put, List.setIfInBounds_toArray, List.set_cons_zero, List.set_cons_succ]
      refine BigFrame.wpQuiet_want (by rfl) fun K hK => ⟨?_, fun w' hC => ?_, hK _ ?_⟩
      rotate_left
      · (obtain ⟨q0, q1, q2, q3⟩ := HSK.out _ hC; go_simp; first | done | with_reducible rfl | exact ⟨rfl, hC⟩)
      clear hK K
      simp only [Act.put, List.setIfInBounds_toArray, List.set_cons_zero, List.set_cons_succ]
      refine BigFrame.wpQuiet_want (by rfl) fun K hK => ⟨?_, fun w' hC => ?_, hK _ ?_⟩
      rotate_left
      · (obtain ⟨q0, q1, q2, q3⟩ := HSK.out _ hC; go_simp; first | done | with_reducible rfl | exact ⟨rfl, hC⟩)
      clear hK K
      simp only [Act.put, List.setIfInBounds_toArray, List.set_cons_zero, List.set_cons_succ]
      refine BigFrame.wpQuiet_want (by rfl) fun K hK => ⟨?_, fun w' hC => ?_, hK _ ?_⟩
      rotate_left
      · (obtain ⟨q0, q1, q2, q3⟩ := HSK.out _ hC; go_simp; first | done | with_reducible rfl | exact ⟨rfl, hC⟩)
      clear hK K
      simp only [Act.put, List.setIfInBounds_toArray, List.set_cons_zero, List.set_cons_succ]
      refine BigFrame.wpQuiet_want (by rfl) fun K hK => ⟨.int .i64 (cn : Int), fun w' hC => (by go_simp; refine ((HCN.out ▸ cellCount_any B0 t0.length d0 k w' hN hN1 hk4)).mono ?_; rintro e w2 ⟨rfl, hb⟩; exact ⟨rfl, hC.trans hb⟩), hK _ ?_⟩
      clear hK K
      simp only [Act.put, List.setIfInBounds_toArray, List.set_cons_zero, List.set_cons_succ]
      refine BigFrame.wpQuiet_want (by rfl) fun K hK => ⟨?_, fun w' hC => ?_, hK _ ?_⟩
      rotate_left
      · (obtain ⟨q0, q1, q2, q3⟩ := HSK.out _ hC; go_simp; first | done | with_reducible rfl | exact ⟨rfl, hC⟩)
      clear hK K
      simp only [Act.put, List.setIfInBounds_toArray, List.set_cons_zero, List.set_cons_succ]
      refine BigFrame.wpQuiet_want (by rfl) fun K hK => ⟨?_, fun w' hC => ?_, hK _ ?_⟩
      rotate_left
      · (obtain ⟨q0, q1, q2, q3⟩ := HSK.out _ hC; go_simp; first | done | with_reducible rfl | exact ⟨rfl, hC⟩)
      clear hK K
      simp only [Act.put, List.setIfInBounds_toArray, List.set_cons_zero, List.set_cons_succ]
      refine BigFrame.wpQuiet_want (by rfl) fun K hK => ⟨?_, fun w' hC => ?_, hK _ ?_⟩
      rotate_left
      · (obtain ⟨q0, q1, q2, q3⟩ := HSK.out _ hC; go_simp; first | done | with_reducible rfl | exact ⟨rfl, hC⟩)
      clear hK K
      simp only [Act.put, List.setIfInBounds_toArray, List.set_cons_zero, List.set_cons_succ]
      refine BigFrame.wpQuiet_skip (by rfl) ?_
      simp only [Act.put, List.setIfInBounds_toArray, List.set_cons_zero, List.set_cons_succ]
      refine BigFrame.wpQuiet_skip (by rfl) ?_
      simp only [Act.put, List.setIfInBounds_toArray, List.set_cons_zero, List.set_cons_succ]
      refine BigFrame.wpQuiet_skip (by rfl) ?_
      simp only [Act.put, List.setIfInBounds_toArray, List.set_cons_zero, List.set_cons_succ]
      refine BigFrame.wpQuiet_skip (by rfl) ?_
      simp only [Act.put, List.setIfInBounds_toArray, List.set_cons_zero, List.set_cons_succ]
      refine BigFrame.wpQuiet_skip (by rfl) ?_
      simp only [Act.put, List.setIfInBounds_toArray, List.set_cons_zero, List.set_cons_succ]
      refine BigFrame.wpQuiet_want (by rfl) fun K hK => ⟨?_, fun w' hC => ?_, hK _ ?_⟩
      rotate_left
      · (obtain ⟨q0, q1, q2, q3⟩ := HSK.out _ hC; go_simp; first | done | with_reducible rfl | exact ⟨rfl, hC⟩)
      clear hK K
      simp only [Act.put, List.setIfInBounds_toArray, List.set_cons_zero, List.set_cons_succ]
      refine BigFrame.wpQuiet_want (by rfl) fun K hK => ⟨?_, fun w' hC => ?_, hK _ ?_⟩
      rotate_left
      · (obtain ⟨q0, q1, q2, q3⟩ := HSK.out _ hC; go_simp; first | done | with_reducible rfl | exact ⟨rfl, hC⟩)
      clear hK K
      simp only [Act.put, List.setIfInBounds_toArray, List.set_cons_zero, List.set_cons_succ]
      refine wpQuiet_nil ?_
      intro w2 hC2
      have HC2 := Lib.hid hC2
      clear hC2
      go_wp2_with fail
      go_ret
      exact ⟨by rw [HC.out]; rfl, HE0.out.trans ((Ex.refl W0).drew.trans HC2.out)⟩

end Go.Proofs.YtcdijeeabgmgmaaGreatDoor

/- The model's tests of cochains. -/
namespace Go.Proofs.YtcdijeeabgmgmaaGreatDoor
open Go.RowKit

theorem l02Is_ex (A L : Option Addr) (t : List (List Int)) (m : Int) (us : List Int) (c c' : Nat) (w : World) (hR : RwsW w A t) (hX : IntsW w L us) (hg : IsGrp t) (hx : us.length ≤ 1048576) :
    Calls Tryz.prog 82 #[.agg #[.slice A t.length c], .agg #[.int .i64 m, .slice L us.length c']] w fun e w' => e = .returned (.bool (modB t m us)) ∧ Ex w w' :=
  l02Is_any A L t m us c c' _ _ w hR.rws hX.ints (Nat.le_refl _) (Nat.le_refl _) hg hx

set_option maxRecDepth 100000 in
set_option maxHeartbeats 2000000 in
theorem l03Is_any (B0 B1 B2 : Option Addr) (t0 : List (List Int)) (M : Nat) (us : List Int) (n : Int) (fs : List Int) (d0 d1 d2 : Nat) (w : World) (hN1 : 1 ≤ t0.length) (hN : t0.length ≤ 8) (hM2 : 2 ≤ M) (hM12 : M ≤ 12) (hF : IntsW w B2 fs) (hx : fs.length ≤ 1048576) :
    Calls Tryz.prog 50 #[.agg #[.slice B0 t0.length d0], .agg #[.int .i64 (M : Int), .slice B1 us.length d1], .agg #[.int .i64 n, .slice B2 fs.length d2]] w fun e w' => e = .returned (.bool (cocB t0.length (M : Int) n fs)) ∧ Ex w w' := by
  have e0 : Ex w (((w.alloc (.cells #[.slice B0 t0.length d0] 32)).alloc (.cells #[.int .i64 (M : Int), .slice B1 us.length d1] 52)).alloc (.cells #[.int .i64 n, .slice B2 fs.length d2] 34)) := (((Ex.refl w).alloc _).alloc _).alloc _
  have b0 : Has (((w.alloc (.cells #[.slice B0 t0.length d0] 32)).alloc (.cells #[.int .i64 (M : Int), .slice B1 us.length d1] 52)).alloc (.cells #[.int .i64 n, .slice B2 fs.length d2] 34)) (w.heap.size) 32 #[.slice B0 t0.length d0] := (((Has.newAt (w := w) (e := 32) (cs := #[.slice B0 t0.length d0]) (k := w.heap.size) (by simp)).alloc _).alloc _)
  have b1 : Has (((w.alloc (.cells #[.slice B0 t0.length d0] 32)).alloc (.cells #[.int .i64 (M : Int), .slice B1 us.length d1] 52)).alloc (.cells #[.int .i64 n, .slice B2 fs.length d2] 34)) (w.heap.size + 1) 52 #[.int .i64 (M : Int), .slice B1 us.length d1] := ((Has.newAt (w := (w.alloc (.cells #[.slice B0 t0.length d0] 32))) (e := 52) (cs := #[.int .i64 (M : Int), .slice B1 us.length d1]) (k := w.heap.size + 1) (by simp)).alloc _)
  have b2 : Has (((w.alloc (.cells #[.slice B0 t0.length d0] 32)).alloc (.cells #[.int .i64 (M : Int), .slice B1 us.length d1] 52)).alloc (.cells #[.int .i64 n, .slice B2 fs.length d2] 34)) (w.heap.size + 1 + 1) 34 #[.int .i64 n, .slice B2 fs.length d2] := (Has.newAt (w := ((w.alloc (.cells #[.slice B0 t0.length d0] 32)).alloc (.cells #[.int .i64 (M : Int), .slice B1 us.length d1] 52))) (e := 34) (cs := #[.int .i64 n, .slice B2 fs.length d2]) (k := w.heap.size + 1 + 1) (by simp))
  have HF := Lib.hid (hF.ex e0)
  have HE0 := Lib.hid e0
  clear hF
  cases hd : inB n 0 3 with
  | false =>
    have HC : Hid (cocB t0.length (M : Int) n fs = false) := Lib.hid (by rw [cocB, hd]; rfl)
    go_enter Tryz.func50, Tryz.ntmps50
    go_wp2_with fail
    generalize (((w.alloc (.cells #[.slice B0 t0.length d0] 32)).alloc (.cells #[.int .i64 (M : Int), .slice B1 us.length d1] 52)).alloc (.cells #[.int .i64 n, .slice B2 fs.length d2] 34)) = W0 at *
    have HSK := Lib.hid (fun (W' : World) (hb : Ex W0.drew W') => And.intro ((Has.ex (w := W0.drew) b2 hb).cell 0) ((Has.ex (w := W0.drew) b2 hb).cell 1))
    clear b0 b1 b2 e0
    refine wp_region_quiet (C := fun w' => Ex W0.drew w') (by kernel_rfl) (by kernel_rfl) (Ex.refl _) ?_
    refine BigFrame.wpQuiet_want (by rfl) fun K hK => ⟨?_, fun w' hC => ?_, hK _ ?_⟩
    rotate_left
    · (obtain ⟨q0, q1⟩ := HSK.out _ hC; go_simp; first | done | with_reducible rfl | exact ⟨rfl, hC⟩)
    clear hK K
    simp only [Act.put, List.setIfInBounds_toArray, List.set_cons_zero, List.set_cons_succ]
    refine BigFrame.wpQuiet_want (by rfl) fun K hK => ⟨?_, fun w' hC => ?_, hK _ ?_⟩
    rotate_left
    · (obtain ⟨q0, q1⟩ := HSK.out _ hC; go_simp; first | done | with_reducible rfl | exact ⟨rfl, hC⟩)
    clear hK K
    simp only [Act.put, List.setIfInBounds_toArray, List.set_cons_zero, List.set_cons_succ]
    refine BigFrame.wpQuiet_want (by rfl) fun K hK => ⟨.bool false, fun w' hC => (by go_simp; refine ((hd ▸ l01In_e n 0 3 w')).mono ?_; rintro e w2 ⟨rfl, hb⟩; exact ⟨rfl, hC.trans hb⟩), hK _ ?_⟩
    clear hK K
    simp only [Act.put, List.setIfInBounds_toArray, List.set_cons_zero, List.set_cons_succ]
    refine BigFrame.wpQuiet_want (by rfl) fun K hK => ⟨?_, fun w' hC => ?_, hK _ ?_⟩
    rotate_left
    · (obtain ⟨q0, q1⟩ := HSK.out _ hC; go_simp; first | done | with_reducible rfl | exact ⟨rfl, hC⟩)
    clear hK K
    simp only [Act.put, List.setIfInBounds_toArray, List.set_cons_zero, List.set_cons_succ]
    refine BigFrame.wpQuiet_want (by rfl) fun K hK => ⟨?_, fun w' hC => ?_, hK _ ?_⟩
    rotate_left
    · (obtain ⟨q0, q1⟩ := HSK.out _ hC; go_simp; first | done | with_reducible rfl | exact ⟨rfl, hC⟩)
    clear hK K
    simp only [Act.put, List.setIfInBounds_toArray, List.set_cons_zero, List.set_cons_succ]
    refine BigFrame.wpQuiet_skip (by rfl) ?_
    simp only [Act.put, List.setIfInBounds_toArray, List.set_cons_zero, List.set_cons_succ]
    refine BigFrame.wpQuiet_skip (by rfl) ?_
    simp only [Act.put, List.setIfInBounds_toArray, List.set_cons_zero, List.set_cons_succ]
    refine BigFrame.wpQuiet_skip (by rfl) ?_
    simp only [Act.put, List.setIfInBounds_toArray, List.set_cons_zero, List.set_cons_succ]
    refine BigFrame.wpQuiet_skip (by rfl) ?_
    simp only [Act.put, List.setIfInBounds_toArray, List.set_cons_zero, List.set_cons_succ]
    refine BigFrame.wpQuiet_skip (by rfl) ?_
    simp only [Act.put, List.setIfInBounds_toArray, List.set_cons_zero, List.set_cons_succ]
    refine BigFrame.wpQuiet_skip (by rfl) ?_
    simp only [Act.put, List.setIfInBounds_toArray, List.set_cons_zero, List.set_cons_succ]
    refine BigFrame.wpQuiet_skip (by rfl) ?_
    simp only [Act.put, List.setIfInBounds_toArray, List.set_cons_zero, List.set_cons_succ]
    refine BigFrame.wpQuiet_skip (by rfl) ?_
    simp only [Act.put, List.setIfInBounds_toArray, List.set_cons_zero, List.set_cons_succ]
    refine BigFrame.wpQuiet_want (by rfl) fun K hK => ⟨?_, fun w' hC => ?_, hK _ ?_⟩
    rotate_left
    · (obtain ⟨q0, q1⟩ := HSK.out _ hC; go_simp; first | done | with_reducible rfl | exact ⟨rfl, hC⟩)
    clear hK K
    simp only [Act.put, List.setIfInBounds_toArray, List.set_cons_zero, List.set_cons_succ]
    refine wpQuiet_nil ?_
    intro w2 hC2
    have HC2 := Lib.hid hC2
    clear hC2
    go_wp2_with fail
    go_ret
    exact ⟨by rw [HC.out]; rfl, HE0.out.trans ((Ex.refl W0).drew.trans HC2.out)⟩
  | true =>
    obtain ⟨hn0, hn3⟩ := inB_true hd
    obtain ⟨k, rfl⟩ : ∃ k : Nat, n = (k : Int) := ⟨n.toNat, by omega⟩
    have hk4 : k ≤ 4 := by omega
    have hcl := cellsN_le hN hk4
    by_cases hl : fs.length = cellsN t0.length k
    · have hq : ((fs.length : Int) != (cellsN t0.length k : Int)) = false := by simp [hl]
      have HC : Hid (cocB t0.length (M : Int) (k : Int) fs = belowB (M : Int) fs) := Lib.hid (by rw [cocB, hd]; simp [hl])
      have HL := Lib.hid hl
      clear hl
      obtain ⟨cn, hcn⟩ : ∃ cn, cellsN t0.length k = cn := ⟨_, rfl⟩
      have HCN := Lib.hid hcn
      rw [hcn] at hq hcl
      clear hcn
      go_enter Tryz.func50, Tryz.ntmps50
      go_wp2_with fail
      generalize (((w.alloc (.cells #[.slice B0 t0.length d0] 32)).alloc (.cells #[.int .i64 (M : Int), .slice B1 us.length d1] 52)).alloc (.cells #[.int .i64 (k : Int), .slice B2 fs.length d2] 34)) = W0 at *
      have HSK := Lib.hid (fun (W' : World) (hb : Ex W0.drew W') => And.intro ((Has.ex (w := W0.drew) b2 hb).cell 0) (And.intro ((Has.ex (w := W0.drew) b2 hb).cell 1) ((Has.ex (w := W0.drew) b0 hb).cell 0)))
      have HB1 := Lib.hid b1
      have HB2 := Lib.hid b2
      clear b0 b1 b2 e0
      refine wp_region_quiet (C := fun w' => Ex W0.drew w') (by kernel_rfl) (by kernel_rfl) (Ex.refl _) ?_
      refine BigFrame.wpQuiet_want (by rfl) fun K hK => ⟨?_, fun w' hC => ?_, hK _ ?_⟩
      rotate_left
      · (obtain ⟨q0, q1, q2⟩ := HSK.out _ hC; go_simp; first | done | with_reducible rfl | exact ⟨rfl, hC⟩)
      clear hK K
      simp only [Act.put, List.setIfInBounds_toArray, List.set_cons_zero, List.set_cons_succ]
      refine BigFrame.wpQuiet_want (by rfl) fun K hK => ⟨?_, fun w' hC => ?_, hK _ ?_⟩
      rotate_left
      · (obtain ⟨q0, q1, q2⟩ := HSK.out _ hC; go_simp; first | done | with_reducible rfl | exact ⟨rfl, hC⟩)
      clear hK K
      simp only [Act.put, List.setIfInBounds_toArray, List.set_cons_zero, List.set_cons_succ]
      refine BigFrame.wpQuiet_want (by rfl) fun K hK => ⟨.bool true, fun w' hC => (by go_simp; refine ((hd ▸ l01In_e (k : Int) 0 3 w')).mono ?_; rintro e w2 ⟨rfl, hb⟩; exact ⟨rfl, hC.trans hb⟩), hK _ ?_⟩
      clear hK K
      simp only [Act.put, List.setIfInBounds_toArray, List.set_cons_zero, List.set_cons_succ]
      refine BigFrame.wpQuiet_want (by rfl) fun K hK => ⟨?_, fun w' hC => ?_, hK _ ?_⟩
      rotate_left
      · (obtain ⟨q0, q1, q2⟩ := HSK.out _ hC; go_simp; first | done | with_reducible rfl | exact ⟨rfl, hC⟩)
      clear hK K
      simp only [Act.put, List.setIfInBounds_toArray, List.set_cons_zero, List.set_cons_succ]
      refine BigFrame.wpQuiet_want (by rfl) fun K hK => ⟨?_, fun w' hC => ?_, hK _ ?_⟩
      rotate_left
      · (obtain ⟨q0, q1, q2⟩ := HSK.out _ hC; go_simp; first | done | with_reducible rfl | exact ⟨rfl, hC⟩)
      clear hK K
      simp only [Act.put, List.setIfInBounds_toArray, List.set_cons_zero, List.set_cons_succ]
      refine BigFrame.wpQuiet_want (by rfl) fun K hK => ⟨?_, fun w' hC => ?_, hK _ ?_⟩
      rotate_left
      · (obtain ⟨q0, q1, q2⟩ := HSK.out _ hC; go_simp; first | done | with_reducible rfl | exact ⟨rfl, hC⟩)
      clear hK K
      simp only [Act.put, List.setIfInBounds_toArray, List.set_cons_zero, List.set_cons_succ]
      refine BigFrame.wpQuiet_want (by rfl) fun K hK => ⟨?_, fun w' hC => ?_, hK _ ?_⟩
      rotate_left
      · (obtain ⟨q0, q1, q2⟩ := HSK.out _ hC; go_simp; first | done | with_reducible rfl | exact ⟨rfl, hC⟩)
      clear hK K
      simp only [Act.put, List.setIfInBounds_toArray, List.set_cons_zero, List.set_cons_succ]
      refine BigFrame.wpQuiet_want (by rfl) fun K hK => ⟨?_, fun w' hC => ?_, hK _ ?_⟩
      rotate_left
      · (obtain ⟨q0, q1, q2⟩ := HSK.out _ hC; go_simp; first | done | with_reducible rfl | exact ⟨rfl, hC⟩)
      clear hK K
      simp only [Act.put, List.setIfInBounds_toArray, List.set_cons_zero, List.set_cons_succ]
      refine BigFrame.wpQuiet_want (by rfl) fun K hK => ⟨?_, fun w' hC => ?_, hK _ ?_⟩
      rotate_left
      · (obtain ⟨q0, q1, q2⟩ := HSK.out _ hC; go_simp; first | done | with_reducible rfl | exact ⟨rfl, hC⟩)
      clear hK K
      simp only [Act.put, List.setIfInBounds_toArray, List.set_cons_zero, List.set_cons_succ]
      refine BigFrame.wpQuiet_want (by rfl) fun K hK => ⟨?_, fun w' hC => ?_, hK _ ?_⟩
      rotate_left
      · (obtain ⟨q0, q1, q2⟩ := HSK.out _ hC; go_simp; first | done | with_reducible rfl | exact ⟨rfl, hC⟩)
      clear hK K
      simp only [Act.put, List.setIfInBounds_toArray, List.set_cons_zero, List.set_cons_succ]
      refine BigFrame.wpQuiet_want (by rfl) fun K hK => ⟨?_, fun w' hC => ?_, hK _ ?_⟩
      rotate_left
      · (obtain ⟨q0, q1, q2⟩ := HSK.out _ hC; go_simp; first | done | with_reducible rfl | exact ⟨rfl, hC⟩)
      clear hK K
      simp only [Act.put, List.setIfInBounds_toArray, List.set_cons_zero, List.set_cons_succ]
      refine BigFrame.wpQuiet_want (by rfl) fun K hK => ⟨.int .i64 (cn : Int), fun w' hC => (by go_simp; refine ((HCN.out ▸ l03Cells_any B0 t0.length d0 k w' hN hN1 hk4)).mono ?_; rintro e w2 ⟨rfl, hb⟩; exact ⟨rfl, hC.trans hb⟩), hK _ ?_⟩
      clear hK K
      simp only [Act.put, List.setIfInBounds_toArray, List.set_cons_zero, List.set_cons_succ]
      refine BigFrame.wpQuiet_want (by rfl) fun K hK => ⟨?_, fun w' hC => ?_, hK _ ?_⟩
      rotate_left
      · (obtain ⟨q0, q1, q2⟩ := HSK.out _ hC; go_simp; first | done | with_reducible rfl | exact ⟨rfl, hC⟩)
      clear hK K
      simp only [Act.put, List.setIfInBounds_toArray, List.set_cons_zero, List.set_cons_succ]
      refine BigFrame.wpQuiet_want (by rfl) fun K hK => ⟨?_, fun w' hC => ?_, hK _ ?_⟩
      rotate_left
      · (obtain ⟨q0, q1, q2⟩ := HSK.out _ hC; go_simp; first | done | with_reducible rfl | exact ⟨rfl, hC⟩)
      clear hK K
      simp only [Act.put, List.setIfInBounds_toArray, List.set_cons_zero, List.set_cons_succ]
      refine wpQuiet_nil ?_
      intro w2 hC2
      have HC2 := Lib.hid hC2
      clear hC2
      go_wp2_with fail
      have HE1 := Lib.hid ((Ex.refl W0).drew.trans HC2.out)
      clear HSK HC2 hq
      go_loopw [7] (fun i wr => ∃ j : Nat, j ≤ fs.length ∧ i = .int .i64 (j : Int) ∧ Hid (Ex W0 wr) ∧ Hid (∀ l, l < j → inB (nth fs l) 0 ((M : Int) - 1) = true)) (fun i _ => fs.length - (intOf i).toNat)
      case atStart => exact ⟨0, Nat.zero_le _, rfl, HE1, Lib.hid fun l hl => absurd hl (by omega)⟩
      case round =>
        obtain ⟨j, hj, rfl, HE, HS⟩ := hrel
        have c2' := (HB2.out.ex HE.out).cell 1
        by_cases hlt : j < fs.length
        · obtain ⟨bx, ox, rfl, hbx, hcx⟩ := (HF.out.ex HE.out).ints.at_ hlt
          have hw : IntKind.i64.wrap ((M : Int) - 1) = (M : Int) - 1 := IntWalk.i64_in _ (by omega)
          have hj0 : (0 : Int) ≤ (j : Int) := by omega
          have hjn : (j : Int) < (fs.length : Int) := by omega
          obtain ⟨bv, hbv⟩ : ∃ b, inB (nth fs j) 0 ((M : Int) - 1) = b := ⟨_, rfl⟩
          have HBV := Lib.hid hbv
          obtain ⟨x, hxx⟩ : ∃ x, nth fs j = x := ⟨_, rfl⟩
          rw [hxx] at hcx
          have HXX := Lib.hid hxx
          have HBX : Hid (inB x 0 ((M : Int) - 1) = bv) := Lib.hid (by rw [← hxx, hbv])
          clear hbv hxx
          have HSK := Lib.hid (fun (W' : World) (hb : Ex wr.drew W') => And.intro ((Has.ex (w := wr.drew) (HB2.out.ex HE.out.drew) hb).cell 1) (And.intro ((Has.ex (w := wr.drew) (HB1.out.ex HE.out.drew) hb).cell 0) ((Below.cell (w := wr.drew) hb (p := ⟨bx, ox + j, none⟩) hbx).trans hcx)))
          go_wp2_with fail
          refine wp_region_quiet (C := fun w' => Ex wr.drew w') (by kernel_rfl) (by kernel_rfl) (Ex.refl _) ?_
          refine BigFrame.wpQuiet_want (by rfl) fun K hK => ⟨?_, fun w' hC => ?_, hK _ ?_⟩
          rotate_left
          · (obtain ⟨q0, q1, q2⟩ := HSK.out _ hC; go_simp; first | done | with_reducible rfl | exact ⟨rfl, hC⟩)
          clear hK K
          simp only [Act.put, List.setIfInBounds_toArray, List.set_cons_zero, List.set_cons_succ]
          refine BigFrame.wpQuiet_want (by rfl) fun K hK => ⟨?_, fun w' hC => ?_, hK _ ?_⟩
          rotate_left
          · (obtain ⟨q0, q1, q2⟩ := HSK.out _ hC; go_simp; first | done | with_reducible rfl | exact ⟨rfl, hC⟩)
          clear hK K
          simp only [Act.put, List.setIfInBounds_toArray, List.set_cons_zero, List.set_cons_succ]
          refine BigFrame.wpQuiet_want (by rfl) fun K hK => ⟨?_, fun w' hC => ?_, hK _ ?_⟩
          rotate_left
          · (obtain ⟨q0, q1, q2⟩ := HSK.out _ hC; go_simp; first | done | with_reducible rfl | exact ⟨rfl, hC⟩)
          clear hK K
          simp only [Act.put, List.setIfInBounds_toArray, List.set_cons_zero, List.set_cons_succ]
          refine BigFrame.wpQuiet_want (by rfl) fun K hK => ⟨?_, fun w' hC => ?_, hK _ ?_⟩
          rotate_left
          · (obtain ⟨q0, q1, q2⟩ := HSK.out _ hC; go_simp; first | done | with_reducible rfl | exact ⟨rfl, hC⟩)
          clear hK K
          simp only [Act.put, List.setIfInBounds_toArray, List.set_cons_zero, List.set_cons_succ]
          refine BigFrame.wpQuiet_want (by rfl) fun K hK => ⟨?_, fun w' hC => ?_, hK _ ?_⟩
          rotate_left
          · (obtain ⟨q0, q1, q2⟩ := HSK.out _ hC; go_simp; first | done | with_reducible rfl | exact ⟨rfl, hC⟩)
          clear hK K
          simp only [Act.put, List.setIfInBounds_toArray, List.set_cons_zero, List.set_cons_succ]
          refine BigFrame.wpQuiet_want (by rfl) fun K hK => ⟨?_, fun w' hC => ?_, hK _ ?_⟩
          rotate_left
          · (obtain ⟨q0, q1, q2⟩ := HSK.out _ hC; go_simp; first | done | with_reducible rfl | exact ⟨rfl, hC⟩)
          clear hK K
          simp only [Act.put, List.setIfInBounds_toArray, List.set_cons_zero, List.set_cons_succ]
          refine BigFrame.wpQuiet_want (by rfl) fun K hK => ⟨?_, fun w' hC => ?_, hK _ ?_⟩
          rotate_left
          · (obtain ⟨q0, q1, q2⟩ := HSK.out _ hC; go_simp; first | done | with_reducible rfl | exact ⟨rfl, hC⟩)
          clear hK K
          simp only [Act.put, List.setIfInBounds_toArray, List.set_cons_zero, List.set_cons_succ]
          refine BigFrame.wpQuiet_want (by rfl) fun K hK => ⟨?_, fun w' hC => ?_, hK _ ?_⟩
          rotate_left
          · (obtain ⟨q0, q1, q2⟩ := HSK.out _ hC; go_simp; first | done | with_reducible rfl | exact ⟨rfl, hC⟩)
          clear hK K
          simp only [Act.put, List.setIfInBounds_toArray, List.set_cons_zero, List.set_cons_succ]
          refine BigFrame.wpQuiet_want (by rfl) fun K hK => ⟨.bool bv, fun w' hC => (by go_simp; refine ((HBX.out ▸ l01In_e x 0 ((M : Int) - 1) w')).mono ?_; rintro e w2 ⟨rfl, hb⟩; exact ⟨rfl, hC.trans hb⟩), hK _ ?_⟩
          clear hK K
          simp only [Act.put, List.setIfInBounds_toArray, List.set_cons_zero, List.set_cons_succ]
          cases bv with
          | false =>
            refine BigFrame.wpQuiet_want (by rfl) fun K hK => ⟨?_, fun w' hC => ?_, hK _ ?_⟩
            rotate_left
            · (obtain ⟨q0, q1, q2⟩ := HSK.out _ hC; go_simp; first | done | with_reducible rfl | exact ⟨rfl, hC⟩)
            clear hK K
            simp only [Act.put, List.setIfInBounds_toArray, List.set_cons_zero, List.set_cons_succ]
            refine wpQuiet_nil ?_
            intro w2 hC2
            have HC2 := Lib.hid hC2
            clear hC2
            go_wp2_with fail
            go_ret
            exact ⟨by rw [HC.out, belowB_at hlt HBV.out]; rfl, HE0.out.trans (HE.out.trans ((Ex.refl wr).drew.trans HC2.out))⟩
          | true =>
            refine BigFrame.wpQuiet_want (by rfl) fun K hK => ⟨?_, fun w' hC => ?_, hK _ ?_⟩
            rotate_left
            · (obtain ⟨q0, q1, q2⟩ := HSK.out _ hC; go_simp; first | done | with_reducible rfl | exact ⟨rfl, hC⟩)
            clear hK K
            simp only [Act.put, List.setIfInBounds_toArray, List.set_cons_zero, List.set_cons_succ]
            refine wpQuiet_nil ?_
            intro w2 hC2
            have HC2 := Lib.hid hC2
            clear hC2
            go_wp2_with fail
            go_roundw
            case rel => exact ⟨j + 1, by omega, by go_num, Lib.hid (HE.out.trans ((Ex.refl wr).drew.trans HC2.out)), Lib.hid fun l hl => by
              rcases Nat.lt_or_ge l j with h | h
              · exact HS.out l h
              · obtain rfl : l = j := by omega
                exact HBV.out⟩
            case measure => simp [intOf]; omega
        · obtain rfl : j = fs.length := by omega
          go_wp2_with fail
          go_ret
          exact ⟨by rw [HC.out, belowB_iff.2 HS.out]; rfl, HE0.out.trans HE.out⟩
    · have hq : ((fs.length : Int) != (cellsN t0.length k : Int)) = true := by simp; omega
      have HC : Hid (cocB t0.length (M : Int) (k : Int) fs = false) := Lib.hid (by rw [cocB, hd]; simp [hl])
      clear hl
      obtain ⟨cn, hcn⟩ : ∃ cn, cellsN t0.length k = cn := ⟨_, rfl⟩
      have HCN := Lib.hid hcn
      rw [hcn] at hq hcl
      clear hcn
      go_enter Tryz.func50, Tryz.ntmps50
      go_wp2_with fail
      generalize (((w.alloc (.cells #[.slice B0 t0.length d0] 32)).alloc (.cells #[.int .i64 (M : Int), .slice B1 us.length d1] 52)).alloc (.cells #[.int .i64 (k : Int), .slice B2 fs.length d2] 34)) = W0 at *
      have HSK := Lib.hid (fun (W' : World) (hb : Ex W0.drew W') => And.intro ((Has.ex (w := W0.drew) b2 hb).cell 0) (And.intro ((Has.ex (w := W0.drew) b2 hb).cell 1) ((Has.ex (w := W0.drew) b0 hb).cell 0)))
      clear b0 b1 b2 e0
      refine wp_region_quiet (C := fun w' => Ex W0.drew w') (by kernel_rfl) (by kernel_rfl) (Ex.refl _) ?_
      refine BigFrame.wpQuiet_want (by rfl) fun K hK => ⟨?_, fun w' hC => ?_, hK _ ?_⟩
      rotate_left
      · (obtain ⟨q0, q1, q2⟩ := HSK.out _ hC; go_simp; first | done | with_reducible rfl | exact ⟨rfl, hC⟩)
      clear hK K
      simp only [Act.put, List.setIfInBounds_toArray, List.set_cons_zero, List.set_cons_succ]
      refine BigFrame.wpQuiet_want (by rfl) fun K hK => ⟨?_, fun w' hC => ?_, hK _ ?_⟩
      rotate_left
      · (obtain ⟨q0, q1, q2⟩ := HSK.out _ hC; go_simp; first | done | with_reducible rfl | exact ⟨rfl, hC⟩)
      clear hK K
      simp only [Act.put, List.setIfInBounds_toArray, List.set_cons_zero, List.set_cons_succ]
      refine BigFrame.wpQuiet_want (by rfl) fun K hK => ⟨.bool true, fun w' hC => (by go_simp; refine ((hd ▸ l01In_e (k : Int) 0 3 w')).mono ?_; rintro e w2 ⟨rfl, hb⟩; exact ⟨rfl, hC.trans hb⟩), hK _ ?_⟩
      clear hK K
      simp only [Act.put, List.setIfInBounds_toArray, List.set_cons_zero, List.set_cons_succ]
      refine BigFrame.wpQuiet_want (by rfl) fun K hK => ⟨?_, fun w' hC => ?_, hK _ ?_⟩
      rotate_left
      · (obtain ⟨q0, q1, q2⟩ := HSK.out _ hC; go_simp; first | done | with_reducible rfl | exact ⟨rfl, hC⟩)
      clear hK K
      simp only [Act.put, List.setIfInBounds_toArray, List.set_cons_zero, List.set_cons_succ]
      refine BigFrame.wpQuiet_want (by rfl) fun K hK => ⟨?_, fun w' hC => ?_, hK _ ?_⟩
      rotate_left
      · (obtain ⟨q0, q1, q2⟩ := HSK.out _ hC; go_simp; first | done | with_reducible rfl | exact ⟨rfl, hC⟩)
      clear hK K
      simp only [Act.put, List.setIfInBounds_toArray, List.set_cons_zero, List.set_cons_succ]
      refine BigFrame.wpQuiet_want (by rfl) fun K hK => ⟨?_, fun w' hC => ?_, hK _ ?_⟩
      rotate_left
      · (obtain ⟨q0, q1, q2⟩ := HSK.out _ hC; go_simp; first | done | with_reducible rfl | exact ⟨rfl, hC⟩)
      clear hK K
      simp only [Act.put, List.setIfInBounds_toArray, List.set_cons_zero, List.set_cons_succ]
      refine BigFrame.wpQuiet_want (by rfl) fun K hK => ⟨?_, fun w' hC => ?_, hK _ ?_⟩
      rotate_left
      · (obtain ⟨q0, q1, q2⟩ := HSK.out _ hC; go_simp; first | done | with_reducible rfl | exact ⟨rfl, hC⟩)
      clear hK K
      simp only [Act.put, List.setIfInBounds_toArray, List.set_cons_zero, List.set_cons_succ]
      refine BigFrame.wpQuiet_want (by rfl) fun K hK => ⟨?_, fun w' hC => ?_, hK _ ?_⟩
      rotate_left
      · (obtain ⟨q0, q1, q2⟩ := HSK.out _ hC; go_simp; first | done | with_reducible rfl | exact ⟨rfl, hC⟩)
      clear hK K
      simp only [Act.put, List.setIfInBounds_toArray, List.set_cons_zero, List.set_cons_succ]
      refine BigFrame.wpQuiet_want (by rfl) fun K hK => ⟨?_, fun w' hC => ?_, hK _ ?_⟩
      rotate_left
      · (obtain ⟨q0, q1, q2⟩ := HSK.out _ hC; go_simp; first | done | with_reducible rfl | exact ⟨rfl, hC⟩)
      clear hK K
      simp only [Act.put, List.setIfInBounds_toArray, List.set_cons_zero, List.set_cons_succ]
      refine BigFrame.wpQuiet_want (by rfl) fun K hK => ⟨?_, fun w' hC => ?_, hK _ ?_⟩
      rotate_left
      · (obtain ⟨q0, q1, q2⟩ := HSK.out _ hC; go_simp; first | done | with_reducible rfl | exact ⟨rfl, hC⟩)
      clear hK K
      simp only [Act.put, List.setIfInBounds_toArray, List.set_cons_zero, List.set_cons_succ]
      refine BigFrame.wpQuiet_want (by rfl) fun K hK => ⟨?_, fun w' hC => ?_, hK _ ?_⟩
      rotate_left
      · (obtain ⟨q0, q1, q2⟩ := HSK.out _ hC; go_simp; first | done | with_reducible rfl | exact ⟨rfl, hC⟩)
      clear hK K
      simp only [Act.put, List.setIfInBounds_toArray, List.set_cons_zero, List.set_cons_succ]
      refine BigFrame.wpQuiet_want (by rfl) fun K hK => ⟨.int .i64 (cn : Int), fun w' hC => (by go_simp; refine ((HCN.out ▸ l03Cells_any B0 t0.length d0 k w' hN hN1 hk4)).mono ?_; rintro e w2 ⟨rfl, hb⟩; exact ⟨rfl, hC.trans hb⟩), hK _ ?_⟩
      clear hK K
      simp only [Act.put, List.setIfInBounds_toArray, List.set_cons_zero, List.set_cons_succ]
      refine BigFrame.wpQuiet_want (by rfl) fun K hK => ⟨?_, fun w' hC => ?_, hK _ ?_⟩
      rotate_left
      · (obtain ⟨q0, q1, q2⟩ := HSK.out _ hC; go_simp; first | done | with_reducible rfl | exact ⟨rfl, hC⟩)
      clear hK K
      simp only [Act.put, List.setIfInBounds_toArray, List.set_cons_zero, List.set_cons_succ]
      refine BigFrame.wpQuiet_want (by rfl) fun K hK => ⟨?_, fun w' hC => ?_, hK _ ?_⟩
      rotate_left
      · (obtain ⟨q0, q1, q2⟩ := HSK.out _ hC; go_simp; first | done | with_reducible rfl | exact ⟨rfl, hC⟩)
      clear hK K
      simp only [Act.put, List.setIfInBounds_toArray, List.set_cons_zero, List.set_cons_succ]
      refine wpQuiet_nil ?_
      intro w2 hC2
      have HC2 := Lib.hid hC2
      clear hC2
      go_wp2_with fail
      go_ret
      exact ⟨by rw [HC.out]; rfl, HE0.out.trans ((Ex.refl W0).drew.trans HC2.out)⟩

end Go.Proofs.YtcdijeeabgmgmaaGreatDoor

/- Fd Co in one text. -/
/- The model's code of a group, a module and cochains. -/
namespace Go.Proofs.YtcdijeeabgmgmaaGreatDoor
open Go.RowKit

/-- A list of L cochains in memory: the degrees, the values. -/
structure CoL (w : World) (kb L : Nat) (ns : Nat → Int) (fss : Nat → List Int) (Bs : Nat → Option Addr) (ds : Nat → Nat) : Prop where
  lt : kb < w.heap.size
  deg : ∀ i, i < L → w.cell? ⟨kb, i * 2, none⟩ = some (.int .i64 (ns i))
  val : ∀ i, i < L → w.cell? ⟨kb, i * 2 + 1, none⟩ = some (.slice (Bs i) (fss i).length (ds i))
  rd : ∀ i, i < L → IntsW w (Bs i) (fss i)
  small : ∀ i, i < L → (fss i).length ≤ 1048576
theorem CoL.ex {w w' : World} {kb L : Nat} {ns : Nat → Int} {fss : Nat → List Int} {Bs : Nat → Option Addr} {ds : Nat → Nat} (h : CoL w kb L ns fss Bs ds) (k : Ex w w') : CoL w' kb L ns fss Bs ds :=
  ⟨Nat.lt_of_lt_of_le h.lt k.size, fun i hi => (k.below.cell (p := ⟨kb, i * 2, none⟩) h.lt).trans (h.deg i hi), fun i hi => (k.below.cell (p := ⟨kb, i * 2 + 1, none⟩) h.lt).trans (h.val i hi), fun i hi => (h.rd i hi).ex k, h.small⟩

/-- Are the first L all cochains? -/
def cocsB (N : Nat) (M : Int) (L : Nat) (ns : Nat → Int) (fss : Nat → List Int) : Bool := (List.range L).all fun i => cocB N M (ns i) (fss i)
theorem cocsB_at {N L i : Nat} {M : Int} {ns : Nat → Int} {fss : Nat → List Int} (hi : i < L) (h : cocB N M (ns i) (fss i) = false) : cocsB N M L ns fss = false := by
  cases hb : cocsB N M L ns fss
  · rfl
  · simp only [cocsB, List.all_eq_true, List.mem_range] at hb
    rw [hb i hi] at h
    cases h
theorem cocsB_all {N L : Nat} {M : Int} {ns : Nat → Int} {fss : Nat → List Int} (h : ∀ i, i < L → cocB N M (ns i) (fss i) = true) : cocsB N M L ns fss = true := by
  simp only [cocsB, List.all_eq_true, List.mem_range]
  exact h

/-- The code of a group, a module and cochains. -/
noncomputable def coC (t : List (List Int)) (m : Int) (us : List Int) (L : Nat) (ns : Nat → Int) (fss : Nat → List Int) : Int := if gmB t m us = true ∧ cocsB t.length m L ns fss = true then 0 else 1
section
variable {t : List (List Int)} {m : Int} {us : List Int} {L : Nat} {ns : Nat → Int} {fss : Nat → List Int}
theorem coC_mod (h : gmB t m us = false) : coC t m us L ns fss = 1 := by simp [coC, h]
theorem coC_no (h : cocsB t.length m L ns fss = false) : coC t m us L ns fss = 1 := by simp [coC, h]
theorem coC_yes (h : gmB t m us = true) (h2 : cocsB t.length m L ns fss = true) : coC t m us L ns fss = 0 := by simp [coC, h, h2]
end

set_option maxRecDepth 100000 in
set_option maxHeartbeats 2000000 in
theorem l03Code_any (B0 B1 Bk : Option Addr) (t0 : List (List Int)) (m : Int) (us : List Int) (kb L ck : Nat) (ns : Nat → Int) (fss : Nat → List Int) (Bs : Nat → Option Addr) (ds : Nat → Nat) (d0 d1 : Nat) (w : World)
    (hR : RwsW w B0 t0) (hX : IntsW w B1 us) (hs : SmallT t0) (hu : us.length ≤ 1048576) (hL : L ≤ 8) (hk : 0 < L → Bk = some ⟨kb, 0, none⟩ ∧ CoL w kb L ns fss Bs ds) :
    Calls Tryz.prog 68 #[.agg #[.slice B0 t0.length d0], .agg #[.int .i64 m, .slice B1 us.length d1], .slice Bk L ck] w fun e w' => e = .returned (.int .i64 (coC t0 m us L ns fss)) ∧ Ex w w' := by
  have e0 : Ex w ((w.alloc (.cells #[.slice B0 t0.length d0] 32)).alloc (.cells #[.int .i64 m, .slice B1 us.length d1] 52)) := ((Ex.refl w).alloc _).alloc _
  have b0 : Has ((w.alloc (.cells #[.slice B0 t0.length d0] 32)).alloc (.cells #[.int .i64 m, .slice B1 us.length d1] 52)) (w.heap.size) 32 #[.slice B0 t0.length d0] := ((Has.newAt (w := w) (e := 32) (cs := #[.slice B0 t0.length d0]) (k := w.heap.size) (by simp)).alloc _)
  have b1 : Has ((w.alloc (.cells #[.slice B0 t0.length d0] 32)).alloc (.cells #[.int .i64 m, .slice B1 us.length d1] 52)) (w.heap.size + 1) 52 #[.int .i64 m, .slice B1 us.length d1] := (Has.newAt (w := (w.alloc (.cells #[.slice B0 t0.length d0] 32))) (e := 52) (cs := #[.int .i64 m, .slice B1 us.length d1]) (k := w.heap.size + 1) (by simp))
  have HE0 := Lib.hid e0
  have HI := Lib.hid (l01Is_ex B0 t0 d0 _ (hR.ex e0) hs)
  have HR := Lib.hid (hR.ex e0)
  have HX := Lib.hid (hX.ex e0)
  have HK := Lib.hid (fun h => (⟨(hk h).1, (hk h).2.ex e0⟩ : _ ∧ _))
  clear hR hX hk
  cases hg : grpB t0 with
  | false =>
    rw [hg] at HI
    have HC : Hid (gmB t0 m us = false) := Lib.hid (by rw [gmB, hg]; rfl)
    clear hg
    have c0 := b0.cell 0
    go_enter Tryz.func68, Tryz.ntmps68
    go_wp2_with fail
    generalize ((w.alloc (.cells #[.slice B0 t0.length d0] 32)).alloc (.cells #[.int .i64 m, .slice B1 us.length d1] 52)) = W0 at *
    refine HI.out.mono ?_
    rintro e W1 ⟨rfl, he1⟩
    go_wp2_with fail
    go_ret
    exact ⟨by rw [coC_mod HC.out]; rfl, HE0.out.trans he1⟩
  | true =>
    rw [hg] at HI
    have HGB := Lib.hid hg
    have hgr := grpB_iff.1 hg
    have hn1 := hgr.n1
    have hn8 := hgr.n8
    have HG := Lib.hid hgr
    have HM := Lib.hid (fun (w' : World) (he : Ex ((w.alloc (.cells #[.slice B0 t0.length d0] 32)).alloc (.cells #[.int .i64 m, .slice B1 us.length d1] 52)) w') => l02Is_ex B0 B1 t0 m us d0 d1 w' (HR.out.ex he) (HX.out.ex he) HG.out hu)
    clear hg hgr
    cases hmd : modB t0 m us with
    | false =>
      rw [hmd] at HM
      have HC : Hid (gmB t0 m us = false) := Lib.hid (by rw [gmB, hmd, Bool.and_false])
      clear hmd
      go_enter Tryz.func68, Tryz.ntmps68
      go_wp2_with fail
      generalize ((w.alloc (.cells #[.slice B0 t0.length d0] 32)).alloc (.cells #[.int .i64 m, .slice B1 us.length d1] 52)) = W0 at *
      refine HI.out.mono ?_
      rintro e W1 ⟨rfl, he1⟩
      have c0 := (b0.ex he1).cell 0
      have c1 := (b1.ex he1).cell 0
      have c1' := (b1.ex he1).cell 1
      go_wp2_with fail
      refine (HM.out W1 he1).mono ?_
      rintro e W2 ⟨rfl, he2⟩
      go_wp2_with fail
      go_ret
      exact ⟨by rw [coC_mod HC.out]; rfl, HE0.out.trans (he1.trans he2)⟩
    | true =>
      rw [hmd] at HM
      have HC : Hid (gmB t0 m us = true) := Lib.hid (by rw [gmB, HGB.out, hmd]; rfl)
      obtain ⟨M, rfl, hF⟩ := gmB_f HC.out
      have hm2 := hF.m2
      have hm12 := hF.m12
      clear hmd hF
      go_enter Tryz.func68, Tryz.ntmps68
      go_wp2_with fail
      generalize ((w.alloc (.cells #[.slice B0 t0.length d0] 32)).alloc (.cells #[.int .i64 (M : Int), .slice B1 us.length d1] 52)) = W0 at *
      refine HI.out.mono ?_
      rintro e W1 ⟨rfl, he1⟩
      have c0 := (b0.ex he1).cell 0
      have c1 := (b1.ex he1).cell 0
      have c1' := (b1.ex he1).cell 1
      go_wp2_with fail
      refine (HM.out W1 he1).mono ?_
      rintro e W2 ⟨rfl, he2⟩
      have HE2 := Lib.hid (he1.trans he2)
      have HB0 := Lib.hid b0
      have HB1 := Lib.hid b1
      clear b0 b1 c0 c1 c1' he1 he2 e0
      go_wp2_with fail
      go_loopw [7] (fun i wr => ∃ j : Nat, j ≤ L ∧ i = .int .i64 (j : Int) ∧ Hid (Ex W0 wr) ∧ Hid (∀ l, l < j → cocB t0.length (M : Int) (ns l) (fss l) = true)) (fun i _ => L - (intOf i).toNat)
      case atStart => exact ⟨0, Nat.zero_le _, rfl, HE2, Lib.hid fun l hl => absurd hl (by omega)⟩
      case round =>
        obtain ⟨j, hj, rfl, HE, HS⟩ := hrel
        by_cases hlt : j < L
        · obtain ⟨rfl, hcol⟩ := HK.out (by omega)
          have hcl := hcol.ex HE.out.drew
          have HCL := Lib.hid hcl
          have hj0 : (0 : Int) ≤ (j : Int) := by omega
          have hjn : (j : Int) < (L : Int) := by omega
          obtain ⟨bv, hbv⟩ : ∃ b, cocB t0.length (M : Int) (ns j) (fss j) = b := ⟨_, rfl⟩
          have HBV := Lib.hid hbv
          have HSK := Lib.hid (fun (W' : World) (hb : Ex wr.drew W') => And.intro ((Has.ex (w := wr.drew) (HB0.out.ex HE.out.drew) hb).cell 0) (And.intro ((Has.ex (w := wr.drew) (HB1.out.ex HE.out.drew) hb).cell 0) (And.intro ((Has.ex (w := wr.drew) (HB1.out.ex HE.out.drew) hb).cell 1) (And.intro ((HCL.out.ex hb).deg j hlt) ((HCL.out.ex hb).val j hlt)))))
          clear hbv hcl hcol
          go_wp2_with fail
          refine wp_region_quiet (C := fun w' => Ex wr.drew w') (by kernel_rfl) (by kernel_rfl) (Ex.refl _) ?_
          refine BigFrame.wpQuiet_want (by rfl) fun K hK => ⟨?_, fun w' hC => ?_, hK _ ?_⟩
          rotate_left
          · (obtain ⟨q0, q1, q2, q3, q4⟩ := HSK.out _ hC; go_simp; first | done | with_reducible rfl | exact ⟨rfl, hC⟩)
          clear hK K
          simp only [Act.put, List.setIfInBounds_toArray, List.set_cons_zero, List.set_cons_succ]
          refine BigFrame.wpQuiet_want (by rfl) fun K hK => ⟨?_, fun w' hC => ?_, hK _ ?_⟩
          rotate_left
          · (obtain ⟨q0, q1, q2, q3, q4⟩ := HSK.out _ hC; go_simp; first | done | with_reducible rfl | exact ⟨rfl, hC⟩)
          clear hK K
          simp only [Act.put, List.setIfInBounds_toArray, List.set_cons_zero, List.set_cons_succ]
          refine BigFrame.wpQuiet_want (by rfl) fun K hK => ⟨?_, fun w' hC => ?_, hK _ ?_⟩
          rotate_left
          · (obtain ⟨q0, q1, q2, q3, q4⟩ := HSK.out _ hC; go_simp; first | done | with_reducible rfl | exact ⟨rfl, hC⟩)
          clear hK K
          simp only [Act.put, List.setIfInBounds_toArray, List.set_cons_zero, List.set_cons_succ]
          refine BigFrame.wpQuiet_want (by rfl) fun K hK => ⟨?_, fun w' hC => ?_, hK _ ?_⟩
          rotate_left
          · (obtain ⟨q0, q1, q2, q3, q4⟩ := HSK.out _ hC; go_simp; first | done | with_reducible rfl | exact ⟨rfl, hC⟩)
          clear hK K
          simp only [Act.put, List.setIfInBounds_toArray, List.set_cons_zero, List.set_cons_succ]
          refine BigFrame.wpQuiet_want (by rfl) fun K hK => ⟨?_, fun w' hC => ?_, hK _ ?_⟩
          rotate_left
          · (obtain ⟨q0, q1, q2, q3, q4⟩ := HSK.out _ hC; go_simp; first | done | with_reducible rfl | exact ⟨rfl, hC⟩)
          clear hK K
          simp only [Act.put, List.setIfInBounds_toArray, List.set_cons_zero, List.set_cons_succ]
          refine BigFrame.wpQuiet_want (by rfl) fun K hK => ⟨?_, fun w' hC => ?_, hK _ ?_⟩
          rotate_left
          · (obtain ⟨q0, q1, q2, q3, q4⟩ := HSK.out _ hC; go_simp; first | done | with_reducible rfl | exact ⟨rfl, hC⟩)
          clear hK K
          simp only [Act.put, List.setIfInBounds_toArray, List.set_cons_zero, List.set_cons_succ]
          refine BigFrame.wpQuiet_want (by rfl) fun K hK => ⟨.bool bv, fun w' hC => (by go_simp; refine ((HBV.out ▸ l03Is_any B0 B1 (Bs j) t0 M us (ns j) (fss j) d0 d1 (ds j) w' hn1 hn8 hm2 hm12 ((HCL.out.ex hC).rd j hlt) (HCL.out.small j hlt))).mono ?_; rintro e w2 ⟨rfl, hb⟩; exact ⟨rfl, hC.trans hb⟩), hK _ ?_⟩
          clear hK K
          simp only [Act.put, List.setIfInBounds_toArray, List.set_cons_zero, List.set_cons_succ]
          cases bv with
          | false =>
            refine BigFrame.wpQuiet_want (by rfl) fun K hK => ⟨?_, fun w' hC => ?_, hK _ ?_⟩
            rotate_left
            · (obtain ⟨q0, q1, q2, q3, q4⟩ := HSK.out _ hC; go_simp; first | done | with_reducible rfl | exact ⟨rfl, hC⟩)
            clear hK K
            simp only [Act.put, List.setIfInBounds_toArray, List.set_cons_zero, List.set_cons_succ]
            refine wpQuiet_nil ?_
            intro w2 hC2
            have HC2 := Lib.hid hC2
            clear hC2
            go_wp2_with fail
            go_ret
            exact ⟨by rw [coC_no (cocsB_at hlt HBV.out)]; rfl, HE0.out.trans (HE.out.trans ((Ex.refl wr).drew.trans HC2.out))⟩
          | true =>
            refine BigFrame.wpQuiet_want (by rfl) fun K hK => ⟨?_, fun w' hC => ?_, hK _ ?_⟩
            rotate_left
            · (obtain ⟨q0, q1, q2, q3, q4⟩ := HSK.out _ hC; go_simp; first | done | with_reducible rfl | exact ⟨rfl, hC⟩)
            clear hK K
            simp only [Act.put, List.setIfInBounds_toArray, List.set_cons_zero, List.set_cons_succ]
            refine wpQuiet_nil ?_
            intro w2 hC2
            have HC2 := Lib.hid hC2
            clear hC2
            go_wp2_with fail
            go_roundw
            case rel => exact ⟨j + 1, by omega, by go_num, Lib.hid (HE.out.trans ((Ex.refl wr).drew.trans HC2.out)), Lib.hid fun l hl => by
              rcases Nat.lt_or_ge l j with h | h
              · exact HS.out l h
              · obtain rfl : l = j := by omega
                exact HBV.out⟩
            case measure => simp [intOf]; omega
        · obtain rfl : j = L := by omega
          go_wp2_with fail
          go_ret
          exact ⟨by rw [coC_yes HC.out (cocsB_all HS.out)]; rfl, HE0.out.trans HE.out⟩

end Go.Proofs.YtcdijeeabgmgmaaGreatDoor

/- The model's code of a group, a module and one cochain. -/
namespace Go.Proofs.YtcdijeeabgmgmaaGreatDoor
open Go.RowKit

theorem cocB_yes {N : Nat} {m n : Int} {fs : List Int} (h : cocB N m n fs = true) : 0 ≤ n ∧ n ≤ 3 ∧ fs.length = cellsN N n.toNat ∧ belowB m fs = true := by
  simp only [cocB, Bool.and_eq_true, decide_eq_true_eq] at h
  exact ⟨(inB_true h.1).1, (inB_true h.1).2, h.2.1, h.2.2⟩

/-- Is all that is given of the right kind? -/
noncomputable def gmcB (t : List (List Int)) (m : Int) (us : List Int) (n : Int) (fs : List Int) : Bool := gmB t m us && cocB t.length m n fs

theorem l03Code1_ex (B0 B1 B2 : Option Addr) (t0 : List (List Int)) (m : Int) (us : List Int) (n : Int) (fs : List Int) (d0 d1 d2 kb : Nat) (w : World) (hR : RwsW w B0 t0) (hX : IntsW w B1 us) (hF : IntsW w B2 fs) (hs : SmallT t0) (hu : us.length ≤ 1048576) (hf : fs.length ≤ 1048576)
    (hK : Has w kb 34 #[.int .i64 n, .slice B2 fs.length d2]) :
    Calls Tryz.prog 68 #[.agg #[.slice B0 t0.length d0], .agg #[.int .i64 m, .slice B1 us.length d1], .slice (some ⟨kb, 0, none⟩) 1 1] w fun e w' => e = .returned (.int .i64 (if gmcB t0 m us n fs = true then 0 else 1)) ∧ Ex w w' := by
  have h1 : ∀ i, i < 1 → i = 0 := fun i hi => by omega
  have hcol : CoL w kb 1 (fun _ => n) (fun _ => fs) (fun _ => B2) (fun _ => d2) := by
    refine ⟨hK.lt, fun i hi => ?_, fun i hi => ?_, fun i hi => hF, fun i hi => hf⟩
    · obtain rfl := h1 i hi
      exact hK.cell 0
    · obtain rfl := h1 i hi
      exact hK.cell 1
  refine (l03Code_any B0 B1 (some ⟨kb, 0, none⟩) t0 m us kb 1 1 _ _ _ _ d0 d1 w hR hX hs hu (by omega) (fun _ => ⟨rfl, hcol⟩)).mono fun e w' ⟨h3, h4⟩ => ⟨?_, h4⟩
  rw [h3]
  congr 2
  have hc : cocsB t0.length m 1 (fun _ => n) (fun _ => fs) = cocB t0.length m n fs := by
    have h01 : List.range 1 = [0] := rfl
    simp [cocsB, h01]
  rw [coC, hc, gmcB]
  simp only [Bool.and_eq_true]

/-- What a cochain gives. -/
theorem gmc_facts {t : List (List Int)} {m n : Int} {us fs : List Int} (h : gmcB t m us n fs = true) :
    ∃ (M k : Nat), m = (M : Int) ∧ n = (k : Int) ∧ ModF t M us ∧ k ≤ 3 ∧ fs.length = cellsN t.length k ∧ fs.length ≤ 343 ∧ InR M fs := by
  simp only [gmcB, Bool.and_eq_true] at h
  obtain ⟨M, rfl, hF⟩ := gmB_f h.1
  obtain ⟨h0, h1, h2, h3⟩ := cocB_yes h.2
  have hle : cellsN t.length n.toNat ≤ 343 := by
    have hn : n.toNat ≤ 3 := by omega
    exact Nat.le_trans (Nat.pow_le_pow_left (show t.length - 1 ≤ 7 by have := hF.g.n8; omega) _) (Nat.le_trans (Nat.pow_le_pow_right (show 0 < 7 by omega) hn) (by decide))
  exact ⟨M, n.toNat, rfl, by omega, hF, by omega, h2, by rw [h2]; exact hle, belowB_inR h3⟩

end Go.Proofs.YtcdijeeabgmgmaaGreatDoor
