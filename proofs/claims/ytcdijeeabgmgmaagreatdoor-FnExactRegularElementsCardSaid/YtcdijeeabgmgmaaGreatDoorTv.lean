/- TrivialModule: both contracts. -/
import Derived.Test.YtcdijeeabgmgmaaGreatDoorTm
import Derived.Test.YtcdijeeabgmgmaaGreatDoorRep
import Derived.Test.YtcdijeeabgmgmaaGreatDoorMnm
namespace Go.Proofs.YtcdijeeabgmgmaaGreatDoor
open Go.RowKit

noncomputable def qTrivialModule0 (t : List (List Int)) (m : Int) : Int := if grpB t = true ∧ inB m 2 12 = true then m else 0
noncomputable def yTrivialModule0 (t : List (List Int)) (m : Int) : List Int := if grpB t = true ∧ inB m 2 12 = true then List.replicate t.length 1 else []
noncomputable def qTrivialModule1 (t : List (List Int)) (m : Int) : Int := if grpB t = true then (if inB m 2 12 = true then 0 else 2) else 1
section
variable {t : List (List Int)} {m : Int}
theorem tv_none (h : grpB t = false) : qTrivialModule0 t m = 0 ∧ yTrivialModule0 t m = [] ∧ qTrivialModule1 t m = 1 := by simp [qTrivialModule0, yTrivialModule0, qTrivialModule1, h]
theorem tv_no (h : grpB t = true) (hr : inB m 2 12 = false) : qTrivialModule0 t m = 0 ∧ yTrivialModule0 t m = [] ∧ qTrivialModule1 t m = 2 := by simp [qTrivialModule0, yTrivialModule0, qTrivialModule1, h, hr]
theorem tv_yes (h : grpB t = true) (hr : inB m 2 12 = true) : qTrivialModule0 t m = m ∧ yTrivialModule0 t m = List.replicate t.length 1 ∧ qTrivialModule1 t m = 0 := by simp [qTrivialModule0, yTrivialModule0, qTrivialModule1, h, hr]
theorem trivialModule_small0 (t : List (List Int)) (m : Int) : (yTrivialModule0 t m).length ≤ 1048576 := by
  unfold yTrivialModule0
  split
  · rename_i h
    have := (grpB_iff.1 h.1).n8
    simp
    omega
  · simp
theorem isModulus_e (m : Int) (w : World) : Calls Tryz.prog 136 #[.int .i64 m] w fun e w' => e = .returned (.bool (inB m 2 12)) ∧ w = w' := (isModulus_any m w).mono fun _ _ ⟨h1, h2⟩ => ⟨h1, h2.symm⟩
end

set_option maxRecDepth 100000 in
set_option maxHeartbeats 2000000 in
theorem trivialModule_any (A : Option Addr) (N c : Nat) (m : Int) (w : World) (hn1 : 1 ≤ N) (hn8 : N ≤ 8) :
    Calls Tryz.prog 150 #[.agg #[.slice A N c], .int .i64 m] w fun e w' => ∃ A' n', e = .returned (.agg #[.int .i64 m, .slice A' N n']) ∧ Ex w w' ∧ OwnL w' w.heap.size w'.heap.size A' (List.replicate N 1) := by
  have e0 : Ex w (((w.alloc (.cells #[.slice A N c] 32)).alloc (.cells #[.int .i64 0, .slice none 0 0] 52)).alloc (.cells #[.int .i64 1] 2)) := (((Ex.refl w).alloc _).alloc _).alloc _
  have b0 : Has (((w.alloc (.cells #[.slice A N c] 32)).alloc (.cells #[.int .i64 0, .slice none 0 0] 52)).alloc (.cells #[.int .i64 1] 2)) (w.heap.size) 32 #[.slice A N c] := (((Has.newAt (w := w) (e := 32) (cs := #[.slice A N c]) (k := w.heap.size) (by simp)).alloc _).alloc _)
  have b1 : Has (((w.alloc (.cells #[.slice A N c] 32)).alloc (.cells #[.int .i64 0, .slice none 0 0] 52)).alloc (.cells #[.int .i64 1] 2)) (w.heap.size + 1) 52 #[.int .i64 0, .slice none 0 0] := ((Has.newAt (w := (w.alloc (.cells #[.slice A N c] 32))) (e := 52) (cs := #[.int .i64 0, .slice none 0 0]) (k := w.heap.size + 1) (by simp)).alloc _)
  have b2 : Has (((w.alloc (.cells #[.slice A N c] 32)).alloc (.cells #[.int .i64 0, .slice none 0 0] 52)).alloc (.cells #[.int .i64 1] 2)) (w.heap.size + 1 + 1) 2 #[.int .i64 1] := (Has.newAt (w := ((w.alloc (.cells #[.slice A N c] 32)).alloc (.cells #[.int .i64 0, .slice none 0 0] 52))) (e := 2) (cs := #[.int .i64 1]) (k := w.heap.size + 1 + 1) (by simp))
  have k0 := b0.cell 0
  have HB1 := Lib.hid b1
  have HX1 := Lib.hid b2
  have HE2 := Lib.hid e0
  clear b0 b1 b2 e0
  go_enter Tryz.func150, Tryz.ntmps150
  go_wp2_with fail
  generalize (((w.alloc (.cells #[.slice A N c] 32)).alloc (.cells #[.int .i64 0, .slice none 0 0] 52)).alloc (.cells #[.int .i64 1] 2)) = W0 at *
  refine (repeatOne_any _ N 1 _ HX1.out hn1 hn8).mono ?_
  rintro e W3 ⟨A3, n3, rfl, he3, ho3⟩
  have HB3 := Lib.hid (HB1.out.ex he3)
  have HE3 := Lib.hid (HE2.out.trans he3)
  have hzl := HB1.out.lt
  have HO3 := Lib.hid ho3
  clear ho3 he3 k0
  have c2 := HB3.out.cell 0
  have c2' := HB3.out.cell 1
  have f2 := HB3.out.free 0
  have f2' := HB3.out.free 1
  go_wp2_with fail
  have H4 := HB3.out.put2 (u := .int .i64 m) (v := .slice A3 N n3)
  have c4 := H4.cell 0
  have c4' := H4.cell 1
  refine bodyPost_ret (v := .agg #[.int .i64 m, .slice A3 N n3]) (by simp [results, Tryz.results150, go_sem, c4, c4']) rfl ⟨A3, n3, rfl, (HE3.out.setCell (by show w.heap.size ≤ w.heap.size + 1; omega) _).setCell (by show w.heap.size ≤ w.heap.size + 1; omega) _, ?_⟩
  exact ((HO3.out.above (Only.set _ _ _ _) hzl).above (Only.set _ _ _ _) hzl).mono HE2.out.size (by simp) (Nat.le_refl _)

end Go.Proofs.YtcdijeeabgmgmaaGreatDoor
