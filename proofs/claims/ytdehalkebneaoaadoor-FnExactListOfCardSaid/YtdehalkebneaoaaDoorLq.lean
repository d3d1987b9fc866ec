/- ListOf: the model, both contracts. -/
import Derived.WalkSmall
import Derived.Defers
import Derived.Recover
import Derived.Test.YtdehalkebneaoaaDoorLj
import Derived.Test.YtdehalkebneaoaaDoorVb
namespace Go.Proofs.YtdehalkebneaoaaDoor
open Go.RowKit

theorem taL_err (b : Addr) (xT : TypeId) (w : World) : (Instr.typeAssert (.iface 218 (.pointer (some b))) xT 133 true).run Tryd.prog w = .ok (.tuple #[.iface 218 (.pointer (some b)), .bool true]) w := by kernel_rfl
theorem taL_nil (xT : TypeId) (w : World) : (Instr.typeAssert .nilIface xT 133 true).run Tryd.prog w = .ok (.tuple #[.nilIface, .bool false]) w := by kernel_rfl

set_option maxRecDepth 100000 in
set_option maxHeartbeats 4000000 in
theorem listAt_no (A : Option Addr) (N c n : Nat) (i : Int) (w : World) (hN : N ≤ 8) (hN1 : 1 ≤ N) (hn : n ≤ 4) (hb : inB i 0 ((cellsN N n : Int) - 1) = false) (hE : ErrL w) :
    Calls Tryd.prog 67 #[.agg #[.slice A N c], .int .i64 (n : Int), .int .i64 i] w fun e w' => (∃ a : Addr, e = .panicked [{ v := .iface 218 (.pointer (some a)), recovered := false }]) ∧ Ex w w' := by
  have e0 : Ex w ((w.alloc (.cells #[.slice A N c] 29)).alloc (.cells #[.int .i64 i] 2)) := ((Ex.refl w).alloc _).alloc _
  have b0 : Has ((w.alloc (.cells #[.slice A N c] 29)).alloc (.cells #[.int .i64 i] 2)) (w.heap.size) 29 #[.slice A N c] := ((Has.newAt (w := w) (e := 29) (cs := #[.slice A N c]) (k := w.heap.size) (by simp)).alloc _)
  have b1 : Has ((w.alloc (.cells #[.slice A N c] 29)).alloc (.cells #[.int .i64 i] 2)) (w.heap.size + 1) 2 #[.int .i64 i] := (Has.newAt (w := (w.alloc (.cells #[.slice A N c] 29))) (e := 2) (cs := #[.int .i64 i]) (k := w.heap.size + 1) (by simp))
  have HE0 := Lib.hid e0
  have HB0 := Lib.hid b0
  have HB1 := Lib.hid b1
  have hc24 := cellsN_le hN hn
  have HCC := Lib.hid (fun W => cellCount_any A N c n W hN hN1 hn)
  have HER := Lib.hid (fun W (he : Ex w W) => hE.ex he)
  have hbb := inB_false hb
  obtain ⟨cn, hcn⟩ : ∃ cn, cellsN N n = cn := ⟨_, rfl⟩
  rw [hcn] at hbb hc24 HCC
  clear hb hcn e0 b0 b1 hE
  by_cases hlt : i < 0
  · have hlt0 : decide (i < 0) = true := decide_eq_true hlt
    clear hbb
    go_enter Tryd.func67, Tryd.ntmps67
    go_wp2_with fail
    generalize ((w.alloc (.cells #[.slice A N c] 29)).alloc (.cells #[.int .i64 i] 2)) = W0 at *
    have HSK := Lib.hid (fun W' (he : Ex W0.drew W') => And.intro ((Has.ex (w := W0.drew) HB0.out he).cell 0) ((Has.ex (w := W0.drew) HB1.out he).cell 0))
    refine wp_region_quiet (C := fun w' => Ex W0.drew w') (by kernel_rfl) (by kernel_rfl) (Ex.refl _) ?_
    refine BigFrame.wpQuiet_want (by rfl) fun K hK => ⟨?_, fun w' hC => ?_, hK _ ?_⟩
    rotate_left
    · (obtain ⟨q0, q1⟩ := HSK.out _ hC; go_simp; first | done | with_reducible rfl | exact ⟨rfl, hC⟩)
    clear hK K
    simp only [Act.put, List.setIfInBounds_toArray, List.set_cons_zero, List.set_cons_succ]
    refine BigFrame.wpQuiet_want (by rfl) fun K hK => ⟨?_, fun w' hC => ?_, hK _ ?_⟩
    rotate_left
    · (obtain ⟨q0, q1⟩ := HSK.out _ hC; go_simp; first | done | with_reducible rfl | exact ⟨rfl, hC⟩)
    clear hK K
    simp only [Act.put, List.setIfInBounds_toArray, List.set_cons_zero, List.set_cons_succ]
    refine BigFrame.wpQuiet_want (by rfl) fun K hK => ⟨?_, fun w' hC => ?_, hK _ ?_⟩
    rotate_left
    · (obtain ⟨q0, q1⟩ := HSK.out _ hC; go_simp; first | done | with_reducible rfl | exact ⟨rfl, hC⟩)
    clear hK K
    simp only [Act.put, List.setIfInBounds_toArray, List.set_cons_zero, List.set_cons_succ]
    refine BigFrame.wpQuiet_skip (by rfl) ?_
    simp only [Act.put, List.setIfInBounds_toArray, List.set_cons_zero, List.set_cons_succ]
    refine BigFrame.wpQuiet_skip (by rfl) ?_
    simp only [Act.put, List.setIfInBounds_toArray, List.set_cons_zero, List.set_cons_succ]
    refine BigFrame.wpQuiet_skip (by rfl) ?_
    simp only [Act.put, List.setIfInBounds_toArray, List.set_cons_zero, List.set_cons_succ]
    refine BigFrame.wpQuiet_skip (by rfl) ?_
    simp only [Act.put, List.setIfInBounds_toArray, List.set_cons_zero, List.set_cons_succ]
    refine BigFrame.wpQuiet_skip (by rfl) ?_
    simp only [Act.put, List.setIfInBounds_toArray, List.set_cons_zero, List.set_cons_succ]
    refine BigFrame.wpQuiet_want (by rfl) fun K hK => ⟨?_, fun w' hC => ?_, hK _ ?_⟩
    rotate_left
    · (obtain ⟨q0, q1⟩ := HSK.out _ hC; go_simp; first | done | with_reducible rfl | exact ⟨rfl, hC⟩)
    clear hK K
    simp only [Act.put, List.setIfInBounds_toArray, List.set_cons_zero, List.set_cons_succ]
    refine wpQuiet_nil ?_
    intro w2 hC2
    have hE2 := HE0.out.trans ((Ex.refl W0).drew.trans hC2)
    have HE2 := Lib.hid hE2
    obtain ⟨a, hv⟩ := HER.out w2 hE2
    clear hC2 hE2
    go_wp2_with fail
    exact ⟨rfl, ⟨a, rfl⟩, HE2.out⟩
  · have hlt0 : decide (i < 0) = false := decide_eq_false hlt
    have hge : decide ((cn : Int) ≤ i) = true := decide_eq_true (by omega)
    clear hbb
    go_enter Tryd.func67, Tryd.ntmps67
    go_wp2_with fail
    generalize ((w.alloc (.cells #[.slice A N c] 29)).alloc (.cells #[.int .i64 i] 2)) = W0 at *
    have HSK := Lib.hid (fun W' (he : Ex W0.drew W') => And.intro ((Has.ex (w := W0.drew) HB0.out he).cell 0) ((Has.ex (w := W0.drew) HB1.out he).cell 0))
    refine wp_region_quiet (C := fun w' => Ex W0.drew w') (by kernel_rfl) (by kernel_rfl) (Ex.refl _) ?_
    refine BigFrame.wpQuiet_want (by rfl) fun K hK => ⟨?_, fun w' hC => ?_, hK _ ?_⟩
    rotate_left
    · (obtain ⟨q0, q1⟩ := HSK.out _ hC; go_simp; first | done | with_reducible rfl | exact ⟨rfl, hC⟩)
    clear hK K
    simp only [Act.put, List.setIfInBounds_toArray, List.set_cons_zero, List.set_cons_succ]
    refine BigFrame.wpQuiet_want (by rfl) fun K hK => ⟨?_, fun w' hC => ?_, hK _ ?_⟩
    rotate_left
    · (obtain ⟨q0, q1⟩ := HSK.out _ hC; go_simp; first | done | with_reducible rfl | exact ⟨rfl, hC⟩)
    clear hK K
    simp only [Act.put, List.setIfInBounds_toArray, List.set_cons_zero, List.set_cons_succ]
    refine BigFrame.wpQuiet_want (by rfl) fun K hK => ⟨?_, fun w' hC => ?_, hK _ ?_⟩
    rotate_left
    · (obtain ⟨q0, q1⟩ := HSK.out _ hC; go_simp; first | done | with_reducible rfl | exact ⟨rfl, hC⟩)
    clear hK K
    simp only [Act.put, List.setIfInBounds_toArray, List.set_cons_zero, List.set_cons_succ]
    refine BigFrame.wpQuiet_want (by rfl) fun K hK => ⟨?_, fun w' hC => ?_, hK _ ?_⟩
    rotate_left
    · (obtain ⟨q0, q1⟩ := HSK.out _ hC; go_simp; first | done | with_reducible rfl | exact ⟨rfl, hC⟩)
    clear hK K
    simp only [Act.put, List.setIfInBounds_toArray, List.set_cons_zero, List.set_cons_succ]
    refine BigFrame.wpQuiet_want (by rfl) fun K hK => ⟨?_, fun w' hC => ?_, hK _ ?_⟩
    rotate_left
    · (obtain ⟨q0, q1⟩ := HSK.out _ hC; go_simp; first | done | with_reducible rfl | exact ⟨rfl, hC⟩)
    clear hK K
    simp only [Act.put, List.setIfInBounds_toArray, List.set_cons_zero, List.set_cons_succ]
    refine BigFrame.wpQuiet_want (by rfl) fun K hK => ⟨?_, fun w' hC => ?_, hK _ ?_⟩
    rotate_left
    · (obtain ⟨q0, q1⟩ := HSK.out _ hC; go_simp; first | done | with_reducible rfl | exact ⟨rfl, hC⟩)
    clear hK K
    simp only [Act.put, List.setIfInBounds_toArray, List.set_cons_zero, List.set_cons_succ]
    refine BigFrame.wpQuiet_want (by rfl) fun K hK => ⟨.int .i64 (cn : Int), fun w' hC => (by go_simp; refine ((HCC.out w')).mono ?_; rintro e w2 ⟨rfl, hb⟩; exact ⟨rfl, hC.trans hb⟩), hK _ ?_⟩
    clear hK K
    simp only [Act.put, List.setIfInBounds_toArray, List.set_cons_zero, List.set_cons_succ]
    refine BigFrame.wpQuiet_want (by rfl) fun K hK => ⟨?_, fun w' hC => ?_, hK _ ?_⟩
    rotate_left
    · (obtain ⟨q0, q1⟩ := HSK.out _ hC; go_simp; first | done | with_reducible rfl | exact ⟨rfl, hC⟩)
    clear hK K
    simp only [Act.put, List.setIfInBounds_toArray, List.set_cons_zero, List.set_cons_succ]
    refine BigFrame.wpQuiet_want (by rfl) fun K hK => ⟨?_, fun w' hC => ?_, hK _ ?_⟩
    rotate_left
    · (obtain ⟨q0, q1⟩ := HSK.out _ hC; go_simp; first | done | with_reducible rfl | exact ⟨rfl, hC⟩)
    clear hK K
    simp only [Act.put, List.setIfInBounds_toArray, List.set_cons_zero, List.set_cons_succ]
    refine wpQuiet_nil ?_
    intro w2 hC2
    have hE2 := HE0.out.trans ((Ex.refl W0).drew.trans hC2)
    have HE2 := Lib.hid hE2
    obtain ⟨a, hv⟩ := HER.out w2 hE2
    clear hC2 hE2
    go_wp2_with fail
    exact ⟨rfl, ⟨a, rfl⟩, HE2.out⟩

set_option maxHeartbeats 1000000 in
theorem lclo_yes (bg bn bi : Nat) (A : Option Addr) (n N i : Nat) (c : Nat) (w : World) (h0 : Has w bg 29 #[.slice A N c]) (h1 : Has w bn 2 #[.int .i64 (n : Int)]) (h2 : Has w bi 2 #[.int .i64 (i : Int)])
    (hN : N ≤ 8) (hN1 : 1 ≤ N) (hN2 : n = 0 ∨ 2 ≤ N) (hn : n ≤ 4) (hi : i < cellsN N n) :
    Calls Tryd.prog 66 #[.pointer (some ⟨bg, 0, none⟩), .pointer (some ⟨bn, 0, none⟩), .pointer (some ⟨bi, 0, none⟩)] w fun e w' => ∃ (C0 : Option Addr) (e0 : Nat), e = .returned (.slice C0 (lsL N n i).length e0) ∧ Ex w w' ∧ OwnL w' w.heap.size w'.heap.size C0 (lsL N n i) := by
  have HC := Lib.hid (listAt_yes A N c n i w hN hN1 hN2 hn hi)
  have c0 := h0.cell 0
  have c1 := h1.cell 0
  have c2 := h2.cell 0
  clear h0 h1 h2 hi
  go_enter Tryd.func66, Tryd.ntmps66
  go_wp2_with fail
  refine HC.out.mono ?_
  rintro e' w' ⟨C0, e0, rfl, he, ho⟩
  have HE := Lib.hid he
  have HO := Lib.hid ho
  clear he ho
  go_wp2_with fail
  go_ret
  exact ⟨C0, e0, rfl, HE.out, HO.out⟩

set_option maxHeartbeats 1000000 in
theorem lclo_no (bg bn bi : Nat) (A : Option Addr) (n N : Nat) (i : Int) (c : Nat) (w : World) (h0 : Has w bg 29 #[.slice A N c]) (h1 : Has w bn 2 #[.int .i64 (n : Int)]) (h2 : Has w bi 2 #[.int .i64 i])
    (hN : N ≤ 8) (hN1 : 1 ≤ N) (hn : n ≤ 4) (hb : inB i 0 ((cellsN N n : Int) - 1) = false) (hE : ErrL w) :
    Calls Tryd.prog 66 #[.pointer (some ⟨bg, 0, none⟩), .pointer (some ⟨bn, 0, none⟩), .pointer (some ⟨bi, 0, none⟩)] w fun e w' => (∃ a : Addr, e = .panicked [{ v := .iface 218 (.pointer (some a)), recovered := false }]) ∧ Ex w w' := by
  have HC := Lib.hid (listAt_no A N c n i w hN hN1 hn hb hE)
  have c0 := h0.cell 0
  have c1 := h1.cell 0
  have c2 := h2.cell 0
  clear h0 h1 h2 hb hE
  go_enter Tryd.func66, Tryd.ntmps66
  go_wp2_with fail
  refine HC.out.mono ?_
  rintro e' w' ⟨⟨a, rfl⟩, he⟩
  have HE := Lib.hid he
  clear he
  go_wp2_with fail
  exact ⟨rfl, ⟨a, rfl⟩, HE.out⟩

set_option maxRecDepth 100000 in
set_option maxHeartbeats 1000000 in
theorem catchL_panicking (p : Addr) (x : Int) (b : Addr) (older : List PanicEntry) (w : World) (hc : w.cell? p = some (.int .i64 x)) (hz : w.frozen? p = false) :
    CallsD Tryd.prog 121 #[.pointer (some p)] (.panicking ({ v := .iface 218 (.pointer (some b)), recovered := false } :: older)) w fun e u' w' =>
      e = .returned (.tuple #[]) ∧ u' = .panicking ({ v := .iface 218 (.pointer (some b)), recovered := true } :: older) ∧ w' = w.setCell p (.int .i64 2) := by
  refine callsD_of_wpS Tryd.func121 rfl fun c₀ cs hu => ?_
  apply wpS_seq
  apply wpS_region
  simp [wpOpsS, go_sem, recoverD, hu, Tryd.ntmps121, Exit.thenS, taL_err]
  apply wpS_seq
  apply wpS_region
  simp [wpOpsS, go_sem, Exit.thenS]
  refine wpS_cond (t := true) (by simp [Act.eval]) ?_
  simp only [if_true]
  apply wpS_region
  simp [wpOpsS, go_sem, hc, hz, bodyPostS, results, Tryd.results121]

set_option maxRecDepth 100000 in
set_option maxHeartbeats 1000000 in
theorem catchL_idle (p : Addr) (w : World) :
    CallsD Tryd.prog 121 #[.pointer (some p)] .returning w fun e u' w' => e = .returned (.tuple #[]) ∧ u' = .returning ∧ w' = w := by
  refine callsD_of_wpS Tryd.func121 rfl fun c₀ cs hu => ?_
  apply wpS_seq
  apply wpS_region
  simp [wpOpsS, go_sem, recoverD, hu, Tryd.ntmps121, Exit.thenS, taL_nil]
  apply wpS_seq
  apply wpS_region
  simp [wpOpsS, go_sem, Exit.thenS]
  refine wpS_cond (t := false) (by simp [Act.eval]) ?_
  simp only [Bool.false_eq_true, if_false]
  refine wpS_of_wp (wp_skip ?_)
  cases c₀
  simp_all [bodyPostS, results, Tryd.results121]

set_option maxRecDepth 100000 in
set_option maxHeartbeats 1000000 in
theorem doorL_yes (cap : Array Value) (xs : List Int) (w : World) (hF : ∀ W, Ex w W → Calls Tryd.prog 66 cap W fun e w' => ∃ (C0 : Option Addr) (e0 : Nat), e = .returned (.slice C0 xs.length e0) ∧ Ex W w' ∧ OwnL w' W.heap.size w'.heap.size C0 xs) :
    Calls Tryd.prog 65 #[.func (.func 66) #[] cap] w fun e w' => ∃ (C0 : Option Addr) (e0 : Nat), e = .returned (.tuple #[.slice C0 xs.length e0, .int .i64 0]) ∧ Ex w w' ∧ OwnL w' w.heap.size w'.heap.size C0 xs := by
  have hmf : ∀ (fn : Fn) (first cap : Array Value) (w : World), (Instr.makeFunc fn first cap).run Tryd.prog w = .ok (.func fn first cap) w := fun _ _ _ _ => rfl
  have HF := Lib.hid hF
  have e0 := Ex.new w (.cells #[.int .i64 0] 2)
  have b0 := Has.new w 2 #[.int .i64 0]
  have HE0 := Lib.hid e0
  have HB0 := Lib.hid b0
  clear hF e0 b0
  go_enter_defers Tryd.func65, Tryd.ntmps65
  go_wp2_with fail
  refine (HF.out _ HE0.out).mono ?_
  rintro e w1 ⟨C0, e0, rfl, he1, ho1⟩
  have HE1 := Lib.hid (HE0.out.trans he1)
  have HB1 := Lib.hid (HB0.out.ex he1)
  have HO1 := Lib.hid ho1
  have cb := HB1.out.cell 0
  have fb := HB1.out.free 0
  have hc9 : (w1.setCell ⟨w.heap.size, 0, none⟩ (.int .i64 0)).cell? ⟨w.heap.size, 0, none⟩ = some (.int .i64 0) := (HB1.out.put1 (v := .int .i64 0)).cell 0
  clear he1 ho1
  go_wp2_with fail
  refine leaves_cons (f := 121) (args := #[.pointer (some ⟨w.heap.size, 0, none⟩)]) (by simp) (by simp [go_sem]) ?_
  refine (catchL_idle ⟨w.heap.size, 0, none⟩ _).mono ?_
  rintro e u' w'' ⟨rfl, rfl, rfl⟩
  have hE9 := HE1.out.setCell (p := ⟨w.heap.size, 0, none⟩) (Nat.le_refl _) (.int .i64 0)
  have hO9 : OwnL (w1.setCell ⟨w.heap.size, 0, none⟩ (.int .i64 0)) w.heap.size w1.heap.size C0 xs :=
    (HO1.out.above (Only.set _ _ _ _) (by simp)).mono (by simp) (Nat.le_refl _) (by simp)
  simp [Leaves, settle, results, Tryd.results65, go_sem, hc9]
  exact ⟨hE9, hO9⟩

set_option maxRecDepth 100000 in
set_option maxHeartbeats 1000000 in
theorem doorL_no (cap : Array Value) (w : World) (hF : ∀ W, Ex w W → Calls Tryd.prog 66 cap W fun e w' => (∃ a : Addr, e = .panicked [{ v := .iface 218 (.pointer (some a)), recovered := false }]) ∧ Ex W w') :
    Calls Tryd.prog 65 #[.func (.func 66) #[] cap] w fun e w' => e = .returned (.tuple #[.slice none 0 0, .int .i64 2]) ∧ Ex w w' := by
  have hmf : ∀ (fn : Fn) (first cap : Array Value) (w : World), (Instr.makeFunc fn first cap).run Tryd.prog w = .ok (.func fn first cap) w := fun _ _ _ _ => rfl
  have HF := Lib.hid hF
  have e0 := Ex.new w (.cells #[.int .i64 0] 2)
  have b0 := Has.new w 2 #[.int .i64 0]
  have HE0 := Lib.hid e0
  have HB0 := Lib.hid b0
  clear hF e0 b0
  go_enter_defers Tryd.func65, Tryd.ntmps65
  go_wp2_with fail
  refine (HF.out _ HE0.out).mono ?_
  rintro e w1 ⟨⟨a, rfl⟩, he1⟩
  have HE1 := Lib.hid (HE0.out.trans he1)
  have HB1 := Lib.hid (HB0.out.ex he1)
  have hc9 : (w1.setCell ⟨w.heap.size, 0, none⟩ (.int .i64 2)).cell? ⟨w.heap.size, 0, none⟩ = some (.int .i64 2) := (HB1.out.put1 (v := .int .i64 2)).cell 0
  clear he1
  go_wp2_with fail
  refine leaves_cons (f := 121) (args := #[.pointer (some ⟨w.heap.size, 0, none⟩)]) (by simp) (by simp [go_sem]) ?_
  refine (catchL_panicking ⟨w.heap.size, 0, none⟩ 0 a [] _ (HB1.out.cell 0) (HB1.out.free 0)).mono ?_
  rintro e u' w'' ⟨rfl, rfl, rfl⟩
  have hE9 := HE1.out.setCell (p := ⟨w.heap.size, 0, none⟩) (Nat.le_refl _) (.int .i64 2)
  simp [Leaves, settle, results, Tryd.results65, go_sem, hc9]
  exact hE9

/-- Is there a list of n elements with the number i? -/
def lsB (N : Nat) (n i : Int) : Bool := inB n 0 3 && inB i 0 ((cellsN N n.toNat : Int) - 1)
noncomputable def yListOf0 (t : List (List Int)) (n i : Int) : List Int := if grpB t = true ∧ lsB t.length n i = true then lsL t.length n.toNat i.toNat else []
noncomputable def qListOf1 (t : List (List Int)) (n i : Int) : Int := if grpB t = true then (if lsB t.length n i = true then 0 else 2) else 1
section
variable {t : List (List Int)} {n i : Int}
theorem lo_no (h : grpB t = false) : yListOf0 t n i = [] ∧ qListOf1 t n i = 1 := by simp [yListOf0, qListOf1, h]
theorem lo_out (h : grpB t = true) (h2 : lsB t.length n i = false) : yListOf0 t n i = [] ∧ qListOf1 t n i = 2 := by simp [yListOf0, qListOf1, h, h2]
theorem lo_yes {k j : Nat} (h : grpB t = true) (h2 : lsB t.length (k : Int) (j : Int) = true) : yListOf0 t (k : Int) (j : Int) = lsL t.length k j ∧ qListOf1 t (k : Int) (j : Int) = 0 := by simp [yListOf0, qListOf1, h, h2]
theorem lsB_in {N : Nat} (h : lsB N n i = true) : ∃ k j : Nat, n = (k : Int) ∧ i = (j : Int) ∧ k ≤ 3 ∧ j < cellsN N k ∧ (k = 0 ∨ 2 ≤ N) := by
  simp only [lsB, Bool.and_eq_true] at h
  obtain ⟨h1, h2⟩ := inB_true h.1
  obtain ⟨h3, h4⟩ := inB_true h.2
  have hc : i.toNat < cellsN N n.toNat := by omega
  refine ⟨n.toNat, i.toNat, by omega, by omega, by omega, hc, ?_⟩
  rcases Nat.eq_zero_or_pos n.toNat with h0 | h0
  · exact .inl h0
  · right
    rcases Nat.lt_or_ge N 2 with hN | hN
    · have : cellsN N n.toNat = 0 := by rw [cellsN, show N - 1 = 0 by omega, Nat.zero_pow h0]
      omega
    · exact hN
theorem listOf_small0 (t : List (List Int)) (n i : Int) : (yListOf0 t n i).length ≤ 1048576 := by
  unfold yListOf0
  split
  · rename_i h
    obtain ⟨k, j, rfl, rfl, hk, -, -⟩ := lsB_in h.2
    rw [lsL_len]
    simp
    omega
  · simp
end

set_option maxRecDepth 100000 in
set_option maxHeartbeats 4000000 in
theorem specListOf_ex (t0 : List (List Int)) (m1 m2 : Int) : ∀ (B0 : Option Addr) (d0 : Nat) (W : World), RwsW W B0 t0 → SmallT t0 →
    Calls Tryd.prog 16 #[.agg #[.slice B0 t0.length d0], .int .i64 m1, .int .i64 m2] W fun e W' => ∃ (C0 : Option Addr) (e0 : Nat), e = .returned (.tuple #[.slice C0 (yListOf0 t0 m1 m2).length e0, .int .i64 (qListOf1 t0 m1 m2)]) ∧ Ex W W' ∧ OwnL W' W.heap.size W'.heap.size C0 (yListOf0 t0 m1 m2) := by
  intro B0 d0 w hR hs
  have e0 : Ex w (w.alloc (.cells #[.slice B0 t0.length d0] 29)) := (Ex.refl w).alloc _
  have b0 : Has (w.alloc (.cells #[.slice B0 t0.length d0] 29)) (w.heap.size) 29 #[.slice B0 t0.length d0] := (Has.newAt (w := w) (e := 29) (cs := #[.slice B0 t0.length d0]) (k := w.heap.size) (by simp))
  have HC := Lib.hid (l01Is_ex B0 t0 d0 _ (hR.ex e0) hs)
  cases hg : grpB t0 with
  | false =>
    rw [hg] at HC
    have HQ := Lib.hid (lo_no (n := m1) (i := m2) hg)
    clear hg hR
    go_enter Tryd.func16, Tryd.ntmps16
    go_wp2_with fail
    generalize (w.alloc (.cells #[.slice B0 t0.length d0] 29)) = W0 at *
    refine HC.out.mono ?_
    rintro e W1 ⟨rfl, he1⟩
    have HE1 := Lib.hid (e0.trans he1)
    clear b0 e0 he1
    go_wp2_with fail
    go_ret2
    exact ⟨none, 0, by rw [HQ.out.1, HQ.out.2]; rfl, HE1.out, by rw [HQ.out.1]; exact OwnL.nil _ _ _ (Nat.le_refl _)⟩
  | true =>
    rw [hg] at HC
    have hgr := grpB_iff.1 hg
    have hn8 := hgr.n8
    have hn1 := hgr.n1
    cases hd : inB m1 0 3 with
    | false =>
      have HQ := Lib.hid (lo_out (n := m1) (i := m2) hg (by simp [lsB, hd]))
      clear hg hR hgr hs
      go_enter Tryd.func16, Tryd.ntmps16
      go_wp2_with fail
      generalize (w.alloc (.cells #[.slice B0 t0.length d0] 29)) = W0 at *
      refine HC.out.mono ?_
      rintro e W1 ⟨rfl, he1⟩
      have HE1 := Lib.hid (e0.trans he1)
      clear b0 e0 he1
      go_wp2_with fail
      refine (l01In_ex m1 0 3 _).mono ?_
      rw [hd]
      rintro e w' ⟨rfl, rfl⟩
      go_wp2_with fail
      go_ret2
      exact ⟨none, 0, by rw [HQ.out.1, HQ.out.2]; rfl, HE1.out, by rw [HQ.out.1]; exact OwnL.nil _ _ _ (Nat.le_refl _)⟩
    | true =>
      obtain ⟨h1, h2⟩ := inB_true hd
      obtain ⟨k, rfl⟩ : ∃ k : Nat, m1 = (k : Int) := ⟨m1.toNat, by omega⟩
      have HCC := Lib.hid (fun W => l03Cells_any B0 t0.length d0 k W hn8 hn1 (by omega))
      have hc24 := cellsN_le hn8 (show k ≤ 4 by omega)
      cases hj : inB m2 0 ((cellsN t0.length k : Int) - 1) with
      | false =>
        have HQ := Lib.hid (lo_out (n := (k : Int)) (i := m2) hg (by simp [lsB, hj]))
        have HI := Lib.hid (fun W => hj ▸ l01In_ex m2 0 ((cellsN t0.length k : Int) - 1) W)
        obtain ⟨cn, hcn⟩ : ∃ cn, cellsN t0.length k = cn := ⟨_, rfl⟩
        rw [hcn] at HCC hc24 HI
        clear hg hR hgr hs hcn hj
        go_enter Tryd.func16, Tryd.ntmps16
        go_wp2_with fail
        generalize (w.alloc (.cells #[.slice B0 t0.length d0] 29)) = W0 at *
        refine HC.out.mono ?_
        rintro e W1 ⟨rfl, he1⟩
        have HE1 := Lib.hid (e0.trans he1)
        have c0 := (b0.ex he1).cell 0
        clear b0 e0 he1
        go_wp2_with fail
        refine (l01In_ex (k : Int) 0 3 _).mono ?_
        rw [hd]
        rintro e w' ⟨rfl, rfl⟩
        go_wp2_with fail
        refine (HCC.out _).mono ?_
        rintro e W2 ⟨rfl, he2⟩
        have HE2 := Lib.hid (HE1.out.trans he2)
        clear he2
        go_wp2_with fail
        refine (HI.out _).mono ?_
        rintro e w' ⟨rfl, rfl⟩
        go_wp2_with fail
        go_ret2
        exact ⟨none, 0, by rw [HQ.out.1, HQ.out.2]; rfl, HE2.out, by rw [HQ.out.1]; exact OwnL.nil _ _ _ (Nat.le_refl _)⟩
      | true =>
        have hls : lsB t0.length (k : Int) m2 = true := by simp [lsB, hd, hj]
        obtain ⟨k', j, hk', rfl, hk3, hjc, hkN⟩ := lsB_in hls
        obtain rfl : k' = k := by omega
        have HQ := Lib.hid (lo_yes hg hls)
        have HI := Lib.hid (fun W => hj ▸ l01In_ex (j : Int) 0 ((cellsN t0.length k' : Int) - 1) W)
        have HLL := Lib.hid (fun W => l03List_any B0 t0.length d0 k' j W hn8 hkN hn1 (by omega) (by omega))
        obtain ⟨cn, hcn⟩ : ∃ cn, cellsN t0.length k' = cn := ⟨_, rfl⟩
        rw [hcn] at HCC hc24 HI
        clear hg hR hgr hs hcn hj hls hk' hjc hkN
        go_enter Tryd.func16, Tryd.ntmps16
        go_wp2_with fail
        generalize (w.alloc (.cells #[.slice B0 t0.length d0] 29)) = W0 at *
        refine HC.out.mono ?_
        rintro e W1 ⟨rfl, he1⟩
        have HE1 := Lib.hid (e0.trans he1)
        have HB1 := Lib.hid (b0.ex he1)
        have c0 := HB1.out.cell 0
        clear b0 e0 he1
        go_wp2_with fail
        refine (l01In_ex (k' : Int) 0 3 _).mono ?_
        rw [hd]
        rintro e w' ⟨rfl, rfl⟩
        go_wp2_with fail
        refine (HCC.out _).mono ?_
        rintro e W2 ⟨rfl, he2⟩
        have HE2 := Lib.hid (HE1.out.trans he2)
        have c2 := (HB1.out.ex he2).cell 0
        clear he2
        go_wp2_with fail
        refine (HI.out _).mono ?_
        rintro e w' ⟨rfl, rfl⟩
        go_wp2_with fail
        refine (HLL.out _).mono ?_
        rintro e W3 ⟨A', c', rfl, he3, ho3⟩
        have HE3 := Lib.hid he3
        have HO3 := Lib.hid ho3
        clear he3 ho3
        go_wp2_with fail
        go_ret2
        exact ⟨A', c', by rw [HQ.out.1, HQ.out.2]; rfl, HE2.out.trans HE3.out, by rw [HQ.out.1]; exact HO3.out.mono HE2.out.size (Nat.le_refl _) (Nat.le_refl _)⟩

set_option maxRecDepth 100000 in
set_option maxHeartbeats 4000000 in
theorem implListOf_ex (t0 : List (List Int)) (m1 m2 : Int) : ∀ (B0 : Option Addr) (d0 : Nat) (W : World), RwsW W B0 t0 → SmallT t0 → ErrL W →
    Calls Tryd.prog 18 #[.agg #[.slice B0 t0.length d0], .int .i64 m1, .int .i64 m2] W fun e W' => ∃ (C0 : Option Addr) (e0 : Nat), e = .returned (.tuple #[.slice C0 (yListOf0 t0 m1 m2).length e0, .int .i64 (qListOf1 t0 m1 m2)]) ∧ Ex W W' ∧ OwnL W' W.heap.size W'.heap.size C0 (yListOf0 t0 m1 m2) := by
  intro B0 d0 w hR hs hE
  have e0 : Ex w (((w.alloc (.cells #[.slice B0 t0.length d0] 29)).alloc (.cells #[.int .i64 m1] 2)).alloc (.cells #[.int .i64 m2] 2)) := (((Ex.refl w).alloc _).alloc _).alloc _
  have b0 : Has (((w.alloc (.cells #[.slice B0 t0.length d0] 29)).alloc (.cells #[.int .i64 m1] 2)).alloc (.cells #[.int .i64 m2] 2)) (w.heap.size) 29 #[.slice B0 t0.length d0] := (((Has.newAt (w := w) (e := 29) (cs := #[.slice B0 t0.length d0]) (k := w.heap.size) (by simp)).alloc _).alloc _)
  have b1 : Has (((w.alloc (.cells #[.slice B0 t0.length d0] 29)).alloc (.cells #[.int .i64 m1] 2)).alloc (.cells #[.int .i64 m2] 2)) (w.heap.size + 1) 2 #[.int .i64 m1] := ((Has.newAt (w := (w.alloc (.cells #[.slice B0 t0.length d0] 29))) (e := 2) (cs := #[.int .i64 m1]) (k := w.heap.size + 1) (by simp)).alloc _)
  have b2 : Has (((w.alloc (.cells #[.slice B0 t0.length d0] 29)).alloc (.cells #[.int .i64 m1] 2)).alloc (.cells #[.int .i64 m2] 2)) (w.heap.size + 1 + 1) 2 #[.int .i64 m2] := (Has.newAt (w := ((w.alloc (.cells #[.slice B0 t0.length d0] 29)).alloc (.cells #[.int .i64 m1] 2))) (e := 2) (cs := #[.int .i64 m2]) (k := w.heap.size + 1 + 1) (by simp))
  have hmf : ∀ (fn : Fn) (first cap : Array Value) (w : World), (Instr.makeFunc fn first cap).run Tryd.prog w = .ok (.func fn first cap) w := fun _ _ _ _ => rfl
  have HC := Lib.hid (implIsGroup_ex B0 t0 d0 _ (hR.ex e0) hs)
  cases hg : grpB t0 with
  | false =>
    rw [hg] at HC
    have HQ := Lib.hid (lo_no (n := m1) (i := m2) hg)
    clear hg hR hE
    go_enter Tryd.func18, Tryd.ntmps18
    go_wp2_with fail
    generalize (((w.alloc (.cells #[.slice B0 t0.length d0] 29)).alloc (.cells #[.int .i64 m1] 2)).alloc (.cells #[.int .i64 m2] 2)) = W0 at *
    refine HC.out.mono ?_
    rintro e W1 ⟨rfl, he1⟩
    have HE1 := Lib.hid (e0.trans he1)
    clear b0 b1 b2 e0 he1
    go_wp2_with fail
    go_ret2
    exact ⟨none, 0, by rw [HQ.out.1, HQ.out.2]; rfl, HE1.out, by rw [HQ.out.1]; exact OwnL.nil _ _ _ (Nat.le_refl _)⟩
  | true =>
    rw [hg] at HC
    have hgr := grpB_iff.1 hg
    have hn8 := hgr.n8
    have hn1 := hgr.n1
    cases hd : inB m1 0 3 with
    | false =>
      have HQ := Lib.hid (lo_out (n := m1) (i := m2) hg (by simp [lsB, hd]))
      clear hg hR hgr hs hE
      go_enter Tryd.func18, Tryd.ntmps18
      go_wp2_with fail
      generalize (((w.alloc (.cells #[.slice B0 t0.length d0] 29)).alloc (.cells #[.int .i64 m1] 2)).alloc (.cells #[.int .i64 m2] 2)) = W0 at *
      refine HC.out.mono ?_
      rintro e W1 ⟨rfl, he1⟩
      have HE1 := Lib.hid (e0.trans he1)
      have c1 := (b1.ex he1).cell 0
      clear b0 b1 b2 e0 he1
      go_wp2_with (go_at_call 64; refine (isDegree_ex m1 _).mono ?_; rw [hd]; rintro e w' ⟨rfl, rfl⟩)
      go_ret2
      exact ⟨none, 0, by rw [HQ.out.1, HQ.out.2]; rfl, HE1.out, by rw [HQ.out.1]; exact OwnL.nil _ _ _ (Nat.le_refl _)⟩
    | true =>
      obtain ⟨h1, h2⟩ := inB_true hd
      obtain ⟨k, rfl⟩ : ∃ k : Nat, m1 = (k : Int) := ⟨m1.toNat, by omega⟩
      cases hj : inB m2 0 ((cellsN t0.length k : Int) - 1) with
      | false =>
        have HQ := Lib.hid (lo_out (n := (k : Int)) (i := m2) hg (by simp [lsB, hj]))
        have HDO := Lib.hid (fun W (he : Ex _ W) => doorL_no #[.pointer (some ⟨w.heap.size, 0, none⟩), .pointer (some ⟨w.heap.size + 1, 0, none⟩), .pointer (some ⟨w.heap.size + 1 + 1, 0, none⟩)] W
          (fun W' he' => lclo_no _ _ _ B0 k t0.length m2 d0 W' (b0.ex (he.trans he')) (b1.ex (he.trans he')) (b2.ex (he.trans he')) hn8 hn1 (by omega) hj (hE.ex (e0.trans (he.trans he')))))
        clear hg hR hgr hs hj hE
        go_enter Tryd.func18, Tryd.ntmps18
        go_wp2_with fail
        generalize (((w.alloc (.cells #[.slice B0 t0.length d0] 29)).alloc (.cells #[.int .i64 (k : Int)] 2)).alloc (.cells #[.int .i64 m2] 2)) = W0 at *
        refine HC.out.mono ?_
        rintro e W1 ⟨rfl, he1⟩
        have HE1 := Lib.hid (e0.trans he1)
        have c1 := (b1.ex he1).cell 0
        have HDO1 := Lib.hid (HDO.out W1 he1)
        clear b0 b1 b2 e0 he1 HDO
        go_wp2_with (go_at_call 64; refine (isDegree_ex (k : Int) _).mono ?_; rw [hd]; rintro e w' ⟨rfl, rfl⟩)
        refine HDO1.out.mono ?_
        rintro e W2 ⟨rfl, he2⟩
        have HE2 := Lib.hid (HE1.out.trans he2)
        clear he2
        go_wp2_with fail
        go_ret2
        exact ⟨none, 0, by rw [HQ.out.1, HQ.out.2]; rfl, HE2.out, by rw [HQ.out.1]; exact OwnL.nil _ _ _ (Nat.le_refl _)⟩
      | true =>
        have hls : lsB t0.length (k : Int) m2 = true := by simp [lsB, hd, hj]
        obtain ⟨k', j, hk', rfl, hk3, hjc, hkN⟩ := lsB_in hls
        obtain rfl : k' = k := by omega
        have HQ := Lib.hid (lo_yes hg hls)
        have HDO := Lib.hid (fun W (he : Ex _ W) => doorL_yes #[.pointer (some ⟨w.heap.size, 0, none⟩), .pointer (some ⟨w.heap.size + 1, 0, none⟩), .pointer (some ⟨w.heap.size + 1 + 1, 0, none⟩)] (lsL t0.length k' j) W
          (fun W' he' => lclo_yes _ _ _ B0 k' t0.length j d0 W' (b0.ex (he.trans he')) (b1.ex (he.trans he')) (b2.ex (he.trans he')) hn8 hn1 hkN (by omega) hjc))
        clear hg hR hgr hs hj hE hls hk' hjc hkN
        go_enter Tryd.func18, Tryd.ntmps18
        go_wp2_with fail
        generalize (((w.alloc (.cells #[.slice B0 t0.length d0] 29)).alloc (.cells #[.int .i64 (k' : Int)] 2)).alloc (.cells #[.int .i64 (j : Int)] 2)) = W0 at *
        refine HC.out.mono ?_
        rintro e W1 ⟨rfl, he1⟩
        have HE1 := Lib.hid (e0.trans he1)
        have c1 := (b1.ex he1).cell 0
        have HDO1 := Lib.hid (HDO.out W1 he1)
        clear b0 b1 b2 e0 he1 HDO
        go_wp2_with (go_at_call 64; refine (isDegree_ex (k' : Int) _).mono ?_; rw [hd]; rintro e w' ⟨rfl, rfl⟩)
        refine HDO1.out.mono ?_
        rintro e W2 ⟨A', c', rfl, he2, ho2⟩
        have HE2 := Lib.hid he2
        have HO2 := Lib.hid ho2
        clear he2 ho2
        go_wp2_with fail
        go_ret2
        exact ⟨A', c', by rw [HQ.out.1, HQ.out.2]; rfl, HE1.out.trans HE2.out, by rw [HQ.out.1]; exact HO2.out.mono HE1.out.size (Nat.le_refl _) (Nat.le_refl _)⟩

end Go.Proofs.YtdehalkebneaoaaDoor
