/- ValueOf's closure behind the door. -/
import Derived.Test.YtdehalkebneaoaaDoorVc
namespace Go.Proofs.YtdehalkebneaoaaDoor
open Go.RowKit

set_option maxHeartbeats 1000000 in
theorem vclo_yes (bg bc bl : Nat) (A F L : Option Addr) (n N : Nat) (fs xs : List Int) (c d e : Nat) (w : World) (h0 : Has w bg 29 #[.slice A N c]) (h1 : Has w bc 46 #[.int .i64 (n : Int), .slice F fs.length d]) (h2 : Has w bl 26 #[.slice L xs.length e])
    (hF : IntsW w F fs) (hX : IntsW w L xs) (hN : N ≤ 8) (hN1 : 1 ≤ N) (hn : n ≤ 4) (hx : xs.length = n) (hf : fs.length = cellsN N n) (hb : belowB (N : Int) xs = true) :
    Calls Tryd.prog 76 #[.pointer (some ⟨bg, 0, none⟩), .pointer (some ⟨bc, 0, none⟩), .pointer (some ⟨bl, 0, none⟩)] w fun e w' => e = .returned (.int .i64 (valR N fs xs)) ∧ Ex w w' := by
  have HC := Lib.hid (valueAt_yes A F L n N fs xs c d e w hF hX hN hN1 hn hx hf hb)
  have c0 := h0.cell 0
  have c1 := h1.cell 0
  have c1' := h1.cell 1
  have c2 := h2.cell 0
  clear h0 h1 h2 hF hX hb hf hx
  go_enter Tryd.func76, Tryd.ntmps76
  go_wp2_with fail
  refine HC.out.mono ?_
  rintro e' w' ⟨rfl, he⟩
  have HE := Lib.hid he
  clear he
  go_wp2_with fail
  go_ret
  exact ⟨rfl, HE.out⟩

set_option maxHeartbeats 1000000 in
theorem vclo_no (bg bc bl : Nat) (A F L : Option Addr) (n N m : Nat) (xs : List Int) (c d e : Nat) (w : World) (h0 : Has w bg 29 #[.slice A N c]) (h1 : Has w bc 46 #[.int .i64 (n : Int), .slice F m d]) (h2 : Has w bl 26 #[.slice L xs.length e])
    (hX : IntsW w L xs) (hN : N ≤ 8) (hxb : xs.length ≤ 1048576) (hb : lisB N n xs = false) (hE : ErrL w) :
    Calls Tryd.prog 76 #[.pointer (some ⟨bg, 0, none⟩), .pointer (some ⟨bc, 0, none⟩), .pointer (some ⟨bl, 0, none⟩)] w fun e w' => (∃ a : Addr, e = .panicked [{ v := .iface 218 (.pointer (some a)), recovered := false }]) ∧ Ex w w' := by
  have HC := Lib.hid (valueAt_no A F L n N m xs c d e w hX hN hxb hb hE)
  have c0 := h0.cell 0
  have c1 := h1.cell 0
  have c1' := h1.cell 1
  have c2 := h2.cell 0
  clear h0 h1 h2 hX hb hE
  go_enter Tryd.func76, Tryd.ntmps76
  go_wp2_with fail
  refine HC.out.mono ?_
  rintro e' w' ⟨⟨a, rfl⟩, he⟩
  have HE := Lib.hid he
  clear he
  go_wp2_with fail
  exact ⟨rfl, ⟨a, rfl⟩, HE.out⟩

set_option maxRecDepth 100000 in
set_option maxHeartbeats 1000000 in
theorem door_yes (cap : Array Value) (v : Int) (w : World) (hF : ∀ W, Ex w W → Calls Tryd.prog 76 cap W fun e w' => e = .returned (.int .i64 v) ∧ Ex W w') :
    Calls Tryd.prog 75 #[.func (.func 76) #[] cap] w fun e w' => e = .returned (.tuple #[.int .i64 v, .int .i64 0]) ∧ Ex w w' := by
  have hmf : ∀ (fn : Fn) (first cap : Array Value) (w : World), (Instr.makeFunc fn first cap).run Tryd.prog w = .ok (.func fn first cap) w := fun _ _ _ _ => rfl
  have HF := Lib.hid hF
  have e0 := Ex.new w (.cells #[.int .i64 0] 2)
  have b0 := Has.new w 2 #[.int .i64 0]
  have HE0 := Lib.hid e0
  have HB0 := Lib.hid b0
  clear hF e0 b0
  go_enter_defers Tryd.func75, Tryd.ntmps75
  go_wp2_with fail
  refine (HF.out _ HE0.out).mono ?_
  rintro e w1 ⟨rfl, he1⟩
  have HE1 := Lib.hid (HE0.out.trans he1)
  have HB1 := Lib.hid (HB0.out.ex he1)
  have cb := HB1.out.cell 0
  have fb := HB1.out.free 0
  have hc9 : (w1.setCell ⟨w.heap.size, 0, none⟩ (.int .i64 0)).cell? ⟨w.heap.size, 0, none⟩ = some (.int .i64 0) := (HB1.out.put1 (v := .int .i64 0)).cell 0
  clear he1
  go_wp2_with fail
  refine leaves_cons (f := 126) (args := #[.pointer (some ⟨w.heap.size, 0, none⟩)]) (by simp) (by simp [go_sem]) ?_
  refine (catch_idle ⟨w.heap.size, 0, none⟩ _).mono ?_
  rintro e u' w'' ⟨rfl, rfl, rfl⟩
  have hE9 := HE1.out.setCell (p := ⟨w.heap.size, 0, none⟩) (Nat.le_refl _) (.int .i64 0)
  simp [Leaves, settle, results, Tryd.results75, go_sem, hc9]
  exact hE9

set_option maxRecDepth 100000 in
set_option maxHeartbeats 1000000 in
theorem door_no (cap : Array Value) (w : World) (hF : ∀ W, Ex w W → Calls Tryd.prog 76 cap W fun e w' => (∃ a : Addr, e = .panicked [{ v := .iface 218 (.pointer (some a)), recovered := false }]) ∧ Ex W w') :
    Calls Tryd.prog 75 #[.func (.func 76) #[] cap] w fun e w' => e = .returned (.tuple #[.int .i64 0, .int .i64 2]) ∧ Ex w w' := by
  have hmf : ∀ (fn : Fn) (first cap : Array Value) (w : World), (Instr.makeFunc fn first cap).run Tryd.prog w = .ok (.func fn first cap) w := fun _ _ _ _ => rfl
  have HF := Lib.hid hF
  have e0 := Ex.new w (.cells #[.int .i64 0] 2)
  have b0 := Has.new w 2 #[.int .i64 0]
  have HE0 := Lib.hid e0
  have HB0 := Lib.hid b0
  clear hF e0 b0
  go_enter_defers Tryd.func75, Tryd.ntmps75
  go_wp2_with fail
  refine (HF.out _ HE0.out).mono ?_
  rintro e w1 ⟨⟨a, rfl⟩, he1⟩
  have HE1 := Lib.hid (HE0.out.trans he1)
  have HB1 := Lib.hid (HB0.out.ex he1)
  have hc9 : (w1.setCell ⟨w.heap.size, 0, none⟩ (.int .i64 2)).cell? ⟨w.heap.size, 0, none⟩ = some (.int .i64 2) := (HB1.out.put1 (v := .int .i64 2)).cell 0
  clear he1
  go_wp2_with fail
  refine leaves_cons (f := 126) (args := #[.pointer (some ⟨w.heap.size, 0, none⟩)]) (by simp) (by simp [go_sem]) ?_
  refine (catch_panicking ⟨w.heap.size, 0, none⟩ 0 a [] _ (HB1.out.cell 0) (HB1.out.free 0)).mono ?_
  rintro e u' w'' ⟨rfl, rfl, rfl⟩
  have hE9 := HE1.out.setCell (p := ⟨w.heap.size, 0, none⟩) (Nat.le_refl _) (.int .i64 2)
  simp [Leaves, settle, results, Tryd.results75, go_sem, hc9]
  exact hE9

end Go.Proofs.YtdehalkebneaoaaDoor
