/- The value of a cochain at a list behind a door that catches a panic. -/
import Derived.WalkSmall
import Derived.Defers
import Derived.Recover
import Derived.Deep.RegionHeld3
import Derived.Test.YtdehalkebneaoaaDoorVb
namespace Go.Proofs.YtdehalkebneaoaaDoor
open Go.RowKit

/-- Is a list one of the cochain's degree, of elements? -/
def lisB (N n : Nat) (xs : List Int) : Bool := decide (xs.length = n) && belowB (N : Int) xs
theorem belowB_rng {N : Nat} {xs : List Int} (h : belowB (N : Int) xs = true) : InR N xs := belowB_inR h

set_option maxRecDepth 100000 in
set_option maxHeartbeats 2000000 in
theorem valueAt_yes (A F L : Option Addr) (n N : Nat) (fs xs : List Int) (c d e : Nat) (w : World) (hF : IntsW w F fs) (hX : IntsW w L xs) (hN : N ≤ 8) (hN1 : 1 ≤ N) (hn : n ≤ 4) (hx : xs.length = n) (hf : fs.length = cellsN N n) (hb : belowB (N : Int) xs = true) :
    Calls Tryd.prog 77 #[.agg #[.slice A N c], .agg #[.int .i64 (n : Int), .slice F fs.length d], .slice L xs.length e] w fun e w' => e = .returned (.int .i64 (valR N fs xs)) ∧ Ex w w' := by
  have e0 : Ex w ((w.alloc (.cells #[.slice A N c] 29)).alloc (.cells #[.int .i64 (n : Int), .slice F fs.length d] 46)) := ((Ex.refl w).alloc _).alloc _
  have b0 : Has ((w.alloc (.cells #[.slice A N c] 29)).alloc (.cells #[.int .i64 (n : Int), .slice F fs.length d] 46)) (w.heap.size) 29 #[.slice A N c] := ((Has.newAt (w := w) (e := 29) (cs := #[.slice A N c]) (k := w.heap.size) (by simp)).alloc _)
  have b1 : Has ((w.alloc (.cells #[.slice A N c] 29)).alloc (.cells #[.int .i64 (n : Int), .slice F fs.length d] 46)) (w.heap.size + 1) 46 #[.int .i64 (n : Int), .slice F fs.length d] := (Has.newAt (w := (w.alloc (.cells #[.slice A N c] 29))) (e := 46) (cs := #[.int .i64 (n : Int), .slice F fs.length d]) (k := w.heap.size + 1) (by simp))
  have hr := belowB_inR hb
  have hxb : xs.length ≤ 1048576 := by omega
  have HIE := Lib.hid (hb ▸ isElementList_e A L N c e xs ((w.alloc (.cells #[.slice A N c] 29)).alloc (.cells #[.int .i64 (n : Int), .slice F fs.length d] 46)) (hX.ex e0) hN hxb)
  have hne : ((xs.length : Int) != (n : Int)) = false := by simp [hx]
  have HE0 := Lib.hid e0
  have HB0 := Lib.hid b0
  have HB1 := Lib.hid b1
  have c0 := b0.cell 0
  have c1 := b1.cell 0
  have HCO := Lib.hid (fun W (he : Ex w W) => contains_zero L xs e W (hX.ex he) hxb)
  cases hz : xs.any (fun x => x == 0) with
  | true =>
    rw [hz] at HCO
    have HV : Hid (valR N fs xs = 0) := Lib.hid (by rw [valR, if_pos hz])
    clear hF hX hb hr hz hf e0 b0 b1 hx
    go_enter Tryd.func77, Tryd.ntmps77
    go_wp2_with fail
    generalize ((w.alloc (.cells #[.slice A N c] 29)).alloc (.cells #[.int .i64 (n : Int), .slice F fs.length d] 46)) = W0 at *
    refine HIE.out.mono ?_
    rintro e' W1 ⟨rfl, he1⟩
    have HE1 := Lib.hid (HE0.out.trans he1)
    clear he1 c0 c1
    go_wp2_with fail
    refine (HCO.out W1 HE1.out).mono ?_
    rintro e' w' ⟨rfl, rfl⟩
    clear HCO
    go_wp2_with fail
    go_ret
    exact ⟨by rw [HV.out]; rfl, HE1.out⟩
  | false =>
    rw [hz] at HCO
    have hnz : ∀ j, j < xs.length → nth xs j ≠ 0 := fun j hj h => by rw [any_zero hj h] at hz; cases hz
    have HV := Lib.hid (valR_at (N := N) (fs := fs) hnz)
    have hr2 : ∀ j, j < xs.length → 1 ≤ (nth xs j).toNat ∧ (nth xs j).toNat < N := fun j hj => by
      have h1 := hr j hj
      have h2 := hnz j hj
      omega
    have hcl : cellF N xs xs.length < fs.length := by
      have h := cellF_lt (N := N) (xs := xs) xs.length hr2
      rw [hf, ← hx]
      exact h
    have HCE := Lib.hid (fun W (he : Ex w W) => cellOf_any A L n N xs c e W (hX.ex he) hN hN1 hn hx hr2)
    obtain ⟨bx, ox, rfl, hbx, hcx⟩ := hF.ints.at_ hcl
    obtain ⟨u, hu⟩ : ∃ u, cellF N xs xs.length = u := ⟨_, rfl⟩
    rw [hu] at hcl hcx HV HCE
    have HCX := Lib.hid (fun W (he : Ex w W) => (he.below.cell (p := ⟨bx, ox + u, none⟩) hbx).trans hcx)
    clear hF hX hb hr hz hnz hr2 hu hcx e0 b0 b1 hx hf
    go_enter Tryd.func77, Tryd.ntmps77
    go_wp2_with fail
    generalize ((w.alloc (.cells #[.slice A N c] 29)).alloc (.cells #[.int .i64 (n : Int), .slice (some ⟨bx, ox, none⟩) fs.length d] 46)) = W0 at *
    refine HIE.out.mono ?_
    rintro e' W1 ⟨rfl, he1⟩
    have HE1 := Lib.hid (HE0.out.trans he1)
    have HB01 := Lib.hid (HB0.out.ex he1)
    have HB11 := Lib.hid (HB1.out.ex he1)
    clear he1 c0 c1 HB0 HB1
    go_wp2_with fail
    refine (HCO.out W1 HE1.out).mono ?_
    rintro e' w' ⟨rfl, rfl⟩
    clear HCO
    have HSK := Lib.hid (fun W' (he : Ex W1.drew W') => And.intro ((Has.ex (w := W1.drew) HB01.out he).cell 0) (And.intro ((Has.ex (w := W1.drew) HB11.out he).cell 1) (HCX.out W' (HE1.out.drew.trans he))))
    go_wp2_with fail
    refine wp_region_quiet (C := fun w' => Ex W1.drew w') (by kernel_rfl) (by kernel_rfl) (Ex.refl _) ?_
    refine BigFrame.wpQuiet_want (by rfl) fun K hK => ⟨?_, fun w' hC => ?_, hK _ ?_⟩
    rotate_left
    · (obtain ⟨q0, q1, q2⟩ := HSK.out _ hC; go_simp; first | done | with_reducible rfl | exact ⟨rfl, hC⟩)
    clear hK K
    simp only [Act.put, List.setIfInBounds_toArray, List.set_cons_zero, List.set_cons_succ]
    refine BigFrame.wpQuiet_want (by rfl) fun K hK => ⟨?_, fun w' hC => ?_, hK _ ?_⟩
    rotate_left
    · (obtain ⟨q0, q1, q2⟩ := HSK.out _ hC; go_simp; first | done | with_reducible rfl | exact ⟨rfl, hC⟩)
    clear hK K
    simp only [Act.put, List.setIfInBounds_toArray, List.set_cons_zero, List.set_cons_succ]
    refine BigFrame.wpQuiet_want (by rfl) fun K hK => ⟨?_, fun w' hC => ?_, hK _ ?_⟩
    rotate_left
    · (obtain ⟨q0, q1, q2⟩ := HSK.out _ hC; go_simp; first | done | with_reducible rfl | exact ⟨rfl, hC⟩)
    clear hK K
    simp only [Act.put, List.setIfInBounds_toArray, List.set_cons_zero, List.set_cons_succ]
    refine BigFrame.wpQuiet_want (by rfl) fun K hK => ⟨?_, fun w' hC => ?_, hK _ ?_⟩
    rotate_left
    · (obtain ⟨q0, q1, q2⟩ := HSK.out _ hC; go_simp; first | done | with_reducible rfl | exact ⟨rfl, hC⟩)
    clear hK K
    simp only [Act.put, List.setIfInBounds_toArray, List.set_cons_zero, List.set_cons_succ]
    refine BigFrame.wpQuiet_want (by rfl) fun K hK => ⟨.int .i64 (u : Int), fun w' hC => (by go_simp; refine ((HCE.out w' (HE1.out.drew.trans hC))).mono ?_; rintro e w2 ⟨rfl, hb⟩; exact ⟨rfl, hC.trans hb⟩), hK _ ?_⟩
    clear hK K
    simp only [Act.put, List.setIfInBounds_toArray, List.set_cons_zero, List.set_cons_succ]
    refine BigFrame.wpQuiet_want (by rfl) fun K hK => ⟨?_, fun w' hC => ?_, hK _ ?_⟩
    rotate_left
    · (obtain ⟨q0, q1, q2⟩ := HSK.out _ hC; go_simp; first | done | with_reducible rfl | exact ⟨rfl, hC⟩)
    clear hK K
    simp only [Act.put, List.setIfInBounds_toArray, List.set_cons_zero, List.set_cons_succ]
    refine BigFrame.wpQuiet_want (by rfl) fun K hK => ⟨?_, fun w' hC => ?_, hK _ ?_⟩
    rotate_left
    · (obtain ⟨q0, q1, q2⟩ := HSK.out _ hC; go_simp; first | done | with_reducible rfl | exact ⟨rfl, hC⟩)
    clear hK K
    simp only [Act.put, List.setIfInBounds_toArray, List.set_cons_zero, List.set_cons_succ]
    refine BigFrame.wpQuiet_want (by rfl) fun K hK => ⟨?_, fun w' hC => ?_, hK _ ?_⟩
    rotate_left
    · (obtain ⟨q0, q1, q2⟩ := HSK.out _ hC; go_simp; first | done | with_reducible rfl | exact ⟨rfl, hC⟩)
    clear hK K
    simp only [Act.put, List.setIfInBounds_toArray, List.set_cons_zero, List.set_cons_succ]
    refine wpQuiet_nil ?_
    intro w2 hC2
    have HC2 := Lib.hid hC2
    clear hC2
    go_wp2_with fail
    go_ret
    exact ⟨by rw [HV.out]; rfl, HE1.out.drew.trans HC2.out⟩

set_option maxRecDepth 100000 in
set_option maxHeartbeats 2000000 in
theorem valueAt_no (A F L : Option Addr) (n N m : Nat) (xs : List Int) (c d e : Nat) (w : World) (hX : IntsW w L xs) (hN : N ≤ 8) (hxb : xs.length ≤ 1048576) (hb : lisB N n xs = false) (hE : ErrL w) :
    Calls Tryd.prog 77 #[.agg #[.slice A N c], .agg #[.int .i64 (n : Int), .slice F m d], .slice L xs.length e] w fun e w' => (∃ a : Addr, e = .panicked [{ v := .iface 218 (.pointer (some a)), recovered := false }]) ∧ Ex w w' := by
  have e0 : Ex w ((w.alloc (.cells #[.slice A N c] 29)).alloc (.cells #[.int .i64 (n : Int), .slice F m d] 46)) := ((Ex.refl w).alloc _).alloc _
  have b0 : Has ((w.alloc (.cells #[.slice A N c] 29)).alloc (.cells #[.int .i64 (n : Int), .slice F m d] 46)) (w.heap.size) 29 #[.slice A N c] := ((Has.newAt (w := w) (e := 29) (cs := #[.slice A N c]) (k := w.heap.size) (by simp)).alloc _)
  have b1 : Has ((w.alloc (.cells #[.slice A N c] 29)).alloc (.cells #[.int .i64 (n : Int), .slice F m d] 46)) (w.heap.size + 1) 46 #[.int .i64 (n : Int), .slice F m d] := (Has.newAt (w := (w.alloc (.cells #[.slice A N c] 29))) (e := 46) (cs := #[.int .i64 (n : Int), .slice F m d]) (k := w.heap.size + 1) (by simp))
  have HE0 := Lib.hid e0
  have c0 := b0.cell 0
  have c1 := b1.cell 0
  have HER := Lib.hid (fun W (he : Ex w W) => hE.ex he)
  by_cases hl : xs.length = n
  · have hbb : belowB (N : Int) xs = false := by
      simp only [lisB, hl, decide_true, Bool.true_and] at hb
      exact hb
    have hne : ((xs.length : Int) != (n : Int)) = false := by simp [hl]
    have HIE := Lib.hid (hbb ▸ isElementList_e A L N c e xs ((w.alloc (.cells #[.slice A N c] 29)).alloc (.cells #[.int .i64 (n : Int), .slice F m d] 46)) (hX.ex e0) hN hxb)
    clear hX hb hE hbb hl e0 b0 b1
    go_enter Tryd.func77, Tryd.ntmps77
    go_wp2_with fail
    generalize ((w.alloc (.cells #[.slice A N c] 29)).alloc (.cells #[.int .i64 (n : Int), .slice F m d] 46)) = W0 at *
    refine HIE.out.mono ?_
    rintro e' W1 ⟨rfl, he1⟩
    have HE1 := Lib.hid (HE0.out.trans he1)
    clear he1 c0 c1
    obtain ⟨a, hv⟩ := HER.out W1 HE1.out
    go_wp2_with fail
    exact ⟨rfl, ⟨a, rfl⟩, HE1.out⟩
  · have hne : ((xs.length : Int) != (n : Int)) = true := by simp; omega
    obtain ⟨a, hv⟩ := HER.out _ HE0.out
    clear hX hb hE hl e0 b0 b1
    go_enter Tryd.func77, Tryd.ntmps77
    go_wp2_with fail
    exact ⟨rfl, ⟨a, rfl⟩, HE0.out⟩

theorem ta_err (b : Addr) (xT : TypeId) (w : World) : (Instr.typeAssert (.iface 218 (.pointer (some b))) xT 133 true).run Tryd.prog w = .ok (.tuple #[.iface 218 (.pointer (some b)), .bool true]) w := by kernel_rfl
theorem ta_nil (xT : TypeId) (w : World) : (Instr.typeAssert .nilIface xT 133 true).run Tryd.prog w = .ok (.tuple #[.nilIface, .bool false]) w := by kernel_rfl

set_option maxRecDepth 100000 in
set_option maxHeartbeats 1000000 in
theorem catch_panicking (p : Addr) (x : Int) (b : Addr) (older : List PanicEntry) (w : World) (hc : w.cell? p = some (.int .i64 x)) (hz : w.frozen? p = false) :
    CallsD Tryd.prog 126 #[.pointer (some p)] (.panicking ({ v := .iface 218 (.pointer (some b)), recovered := false } :: older)) w fun e u' w' =>
      e = .returned (.tuple #[]) ∧ u' = .panicking ({ v := .iface 218 (.pointer (some b)), recovered := true } :: older) ∧ w' = w.setCell p (.int .i64 2) := by
  refine callsD_of_wpS Tryd.func126 rfl fun c₀ cs hu => ?_
  apply wpS_seq
  apply wpS_region
  simp [wpOpsS, go_sem, recoverD, hu, Tryd.ntmps126, Exit.thenS, ta_err]
  apply wpS_seq
  apply wpS_region
  simp [wpOpsS, go_sem, Exit.thenS]
  refine wpS_cond (t := true) (by simp [Act.eval]) ?_
  simp only [if_true]
  apply wpS_region
  simp [wpOpsS, go_sem, hc, hz, bodyPostS, results, Tryd.results126]

set_option maxRecDepth 100000 in
set_option maxHeartbeats 1000000 in
theorem catch_idle (p : Addr) (w : World) :
    CallsD Tryd.prog 126 #[.pointer (some p)] .returning w fun e u' w' => e = .returned (.tuple #[]) ∧ u' = .returning ∧ w' = w := by
  refine callsD_of_wpS Tryd.func126 rfl fun c₀ cs hu => ?_
  apply wpS_seq
  apply wpS_region
  simp [wpOpsS, go_sem, recoverD, hu, Tryd.ntmps126, Exit.thenS, ta_nil]
  apply wpS_seq
  apply wpS_region
  simp [wpOpsS, go_sem, Exit.thenS]
  refine wpS_cond (t := false) (by simp [Act.eval]) ?_
  simp only [Bool.false_eq_true, if_false]
  refine wpS_of_wp (wp_skip ?_)
  cases c₀
  simp_all [bodyPostS, results, Tryd.results126]

end Go.Proofs.YtdehalkebneaoaaDoor
