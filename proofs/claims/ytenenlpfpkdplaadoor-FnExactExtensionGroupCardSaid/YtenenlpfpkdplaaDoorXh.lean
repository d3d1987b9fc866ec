/- ExtensionGroup: both contracts. -/
import Derived.Test.YtenenlpfpkdplaaDoorXg
namespace Go.Proofs.YtenenlpfpkdplaaDoor
open Go.RowKit

set_option maxRecDepth 100000 in
set_option maxHeartbeats 4000000 in
theorem implExtensionGroup_ex (t0 : List (List Int)) (m1 : Int) (t1 : List Int) (m2 : Int) (t2 : List Int) : ∀ (B0 : Option Addr) (d0 : Nat) (B1 : Option Addr) (d1 : Nat) (B2 : Option Addr) (d2 : Nat) (W : World), RwsW W B0 t0 → IntsW W B1 t1 → IntsW W B2 t2 → SmallT t0 → t1.length ≤ 1048576 → t2.length ≤ 1048576 →
    Calls Tryd.prog 32 #[.agg #[.slice B0 t0.length d0], .agg #[.int .i64 m1, .slice B1 t1.length d1], .agg #[.int .i64 m2, .slice B2 t2.length d2]] W fun e W' => ∃ (C0 : Option Addr) (e0 : Nat), e = .returned (.tuple #[.agg #[.slice C0 (yExtensionGroup0 t0 m1 t1 m2 t2).length e0], .int .i64 (qExtensionGroup1 t0 m1 t1 m2 t2)]) ∧ Ex W W' ∧ OwnT W' W.heap.size W'.heap.size C0 (yExtensionGroup0 t0 m1 t1 m2 t2) := by
  intro B0 d0 B1 d1 B2 d2 w hR hX hF hs hu hf
  have e0 : Ex w ((((w.alloc (.cells #[.slice B0 t0.length d0] 35)).alloc (.cells #[.int .i64 m1, .slice B1 t1.length d1] 37)).alloc (.cells #[.int .i64 m2, .slice B2 t2.length d2] 39)).alloc (.cells #[.slice none 0 0] 35)) := ((((Ex.refl w).alloc _).alloc _).alloc _).alloc _
  have b0 : Has ((((w.alloc (.cells #[.slice B0 t0.length d0] 35)).alloc (.cells #[.int .i64 m1, .slice B1 t1.length d1] 37)).alloc (.cells #[.int .i64 m2, .slice B2 t2.length d2] 39)).alloc (.cells #[.slice none 0 0] 35)) (w.heap.size) 35 #[.slice B0 t0.length d0] := ((((Has.newAt (w := w) (e := 35) (cs := #[.slice B0 t0.length d0]) (k := w.heap.size) (by simp)).alloc _).alloc _).alloc _)
  have b1 : Has ((((w.alloc (.cells #[.slice B0 t0.length d0] 35)).alloc (.cells #[.int .i64 m1, .slice B1 t1.length d1] 37)).alloc (.cells #[.int .i64 m2, .slice B2 t2.length d2] 39)).alloc (.cells #[.slice none 0 0] 35)) (w.heap.size + 1) 37 #[.int .i64 m1, .slice B1 t1.length d1] := (((Has.newAt (w := (w.alloc (.cells #[.slice B0 t0.length d0] 35))) (e := 37) (cs := #[.int .i64 m1, .slice B1 t1.length d1]) (k := w.heap.size + 1) (by simp)).alloc _).alloc _)
  have b2 : Has ((((w.alloc (.cells #[.slice B0 t0.length d0] 35)).alloc (.cells #[.int .i64 m1, .slice B1 t1.length d1] 37)).alloc (.cells #[.int .i64 m2, .slice B2 t2.length d2] 39)).alloc (.cells #[.slice none 0 0] 35)) (w.heap.size + 1 + 1) 39 #[.int .i64 m2, .slice B2 t2.length d2] := ((Has.newAt (w := ((w.alloc (.cells #[.slice B0 t0.length d0] 35)).alloc (.cells #[.int .i64 m1, .slice B1 t1.length d1] 37))) (e := 39) (cs := #[.int .i64 m2, .slice B2 t2.length d2]) (k := w.heap.size + 1 + 1) (by simp)).alloc _)
  have b3 : Has ((((w.alloc (.cells #[.slice B0 t0.length d0] 35)).alloc (.cells #[.int .i64 m1, .slice B1 t1.length d1] 37)).alloc (.cells #[.int .i64 m2, .slice B2 t2.length d2] 39)).alloc (.cells #[.slice none 0 0] 35)) (w.heap.size + 1 + 1 + 1) 35 #[.slice none 0 0] := (Has.newAt (w := (((w.alloc (.cells #[.slice B0 t0.length d0] 35)).alloc (.cells #[.int .i64 m1, .slice B1 t1.length d1] 37)).alloc (.cells #[.int .i64 m2, .slice B2 t2.length d2] 39))) (e := 35) (cs := #[.slice none 0 0]) (k := w.heap.size + 1 + 1 + 1) (by simp))
  have HC := Lib.hid (extensionWithin_ex 8 (by omega) B0 B1 B2 t0 m1 t1 m2 t2 d0 d1 d2 _ (hR.ex e0) (hX.ex e0) (hF.ex e0) hs hu hf)
  have HE0 := Lib.hid e0
  have HB3 := Lib.hid b3
  clear hR hX hF hs hu hf
  unfold yExtensionGroup0 qExtensionGroup1
  generalize yE 8 t0 m1 t1 m2 t2 = ys at *
  generalize extC 8 t0 m1 t1 m2 t2 = q at *
  go_enter Tryd.func32, Tryd.ntmps32
  go_wp2_with fail
  generalize ((((w.alloc (.cells #[.slice B0 t0.length d0] 35)).alloc (.cells #[.int .i64 m1, .slice B1 t1.length d1] 37)).alloc (.cells #[.int .i64 m2, .slice B2 t2.length d2] 39)).alloc (.cells #[.slice none 0 0] 35)) = W0 at *
  refine HC.out.mono ?_
  rintro e W1 ⟨C, k, rfl, he1, ho⟩
  have HO := Lib.hid ho
  have HE1 := Lib.hid (HE0.out.trans he1)
  have HBR := Lib.hid (HB3.out.ex he1)
  have cr := HBR.out.cell 0
  have fr := HBR.out.free 0
  have hlt := HB3.out.lt
  have hlw := HE0.out.size
  clear b0 b1 b2 b3 e0 he1 ho
  go_wp2_with fail
  have H4 := HBR.out.put1 (v := .slice C ys.length k)
  have c4 := H4.cell 0
  have hon := Only.set W1 (w.heap.size + 1 + 1 + 1) 0 (.slice C ys.length k)
  refine bodyPost_ret (v := .tuple #[.agg #[.slice C ys.length k], .int .i64 q]) (by simp [results, Tryd.results32, go_sem, c4]) rfl ⟨C, k, rfl, HE1.out.setCell (by show w.heap.size ≤ w.heap.size + 1 + 1 + 1; omega) _, ?_⟩
  exact (HO.out.above hon (by omega)).mono (by omega) hon.size (Nat.le_refl _)

set_option maxRecDepth 100000 in
set_option maxHeartbeats 4000000 in
theorem specExtensionGroup_ex (t0 : List (List Int)) (m1 : Int) (t1 : List Int) (m2 : Int) (t2 : List Int) : ∀ (B0 : Option Addr) (d0 : Nat) (B1 : Option Addr) (d1 : Nat) (B2 : Option Addr) (d2 : Nat) (W : World), RwsW W B0 t0 → IntsW W B1 t1 → IntsW W B2 t2 → SmallT t0 → t1.length ≤ 1048576 → t2.length ≤ 1048576 →
    Calls Tryd.prog 31 #[.agg #[.slice B0 t0.length d0], .agg #[.int .i64 m1, .slice B1 t1.length d1], .agg #[.int .i64 m2, .slice B2 t2.length d2]] W fun e W' => ∃ (C0 : Option Addr) (e0 : Nat), e = .returned (.tuple #[.agg #[.slice C0 (yExtensionGroup0 t0 m1 t1 m2 t2).length e0], .int .i64 (qExtensionGroup1 t0 m1 t1 m2 t2)]) ∧ Ex W W' ∧ OwnT W' W.heap.size W'.heap.size C0 (yExtensionGroup0 t0 m1 t1 m2 t2) := by
  intro B0 d0 B1 d1 B2 d2 w hR hX hF hs hu hf
  have e0 : Ex w ((((w.alloc (.cells #[.slice B0 t0.length d0] 35)).alloc (.cells #[.int .i64 m1, .slice B1 t1.length d1] 37)).alloc (.cells #[.int .i64 m2, .slice B2 t2.length d2] 39)).alloc (.cells #[.slice none 0 0] 35)) := ((((Ex.refl w).alloc _).alloc _).alloc _).alloc _
  have b0 : Has ((((w.alloc (.cells #[.slice B0 t0.length d0] 35)).alloc (.cells #[.int .i64 m1, .slice B1 t1.length d1] 37)).alloc (.cells #[.int .i64 m2, .slice B2 t2.length d2] 39)).alloc (.cells #[.slice none 0 0] 35)) (w.heap.size) 35 #[.slice B0 t0.length d0] := ((((Has.newAt (w := w) (e := 35) (cs := #[.slice B0 t0.length d0]) (k := w.heap.size) (by simp)).alloc _).alloc _).alloc _)
  have b1 : Has ((((w.alloc (.cells #[.slice B0 t0.length d0] 35)).alloc (.cells #[.int .i64 m1, .slice B1 t1.length d1] 37)).alloc (.cells #[.int .i64 m2, .slice B2 t2.length d2] 39)).alloc (.cells #[.slice none 0 0] 35)) (w.heap.size + 1) 37 #[.int .i64 m1, .slice B1 t1.length d1] := (((Has.newAt (w := (w.alloc (.cells #[.slice B0 t0.length d0] 35))) (e := 37) (cs := #[.int .i64 m1, .slice B1 t1.length d1]) (k := w.heap.size + 1) (by simp)).alloc _).alloc _)
  have b2 : Has ((((w.alloc (.cells #[.slice B0 t0.length d0] 35)).alloc (.cells #[.int .i64 m1, .slice B1 t1.length d1] 37)).alloc (.cells #[.int .i64 m2, .slice B2 t2.length d2] 39)).alloc (.cells #[.slice none 0 0] 35)) (w.heap.size + 1 + 1) 39 #[.int .i64 m2, .slice B2 t2.length d2] := ((Has.newAt (w := ((w.alloc (.cells #[.slice B0 t0.length d0] 35)).alloc (.cells #[.int .i64 m1, .slice B1 t1.length d1] 37))) (e := 39) (cs := #[.int .i64 m2, .slice B2 t2.length d2]) (k := w.heap.size + 1 + 1) (by simp)).alloc _)
  have b3 : Has ((((w.alloc (.cells #[.slice B0 t0.length d0] 35)).alloc (.cells #[.int .i64 m1, .slice B1 t1.length d1] 37)).alloc (.cells #[.int .i64 m2, .slice B2 t2.length d2] 39)).alloc (.cells #[.slice none 0 0] 35)) (w.heap.size + 1 + 1 + 1) 35 #[.slice none 0 0] := (Has.newAt (w := (((w.alloc (.cells #[.slice B0 t0.length d0] 35)).alloc (.cells #[.int .i64 m1, .slice B1 t1.length d1] 37)).alloc (.cells #[.int .i64 m2, .slice B2 t2.length d2] 39))) (e := 35) (cs := #[.slice none 0 0]) (k := w.heap.size + 1 + 1 + 1) (by simp))
  have HC := Lib.hid (l06Given_ex 8 B0 B1 B2 t0 m1 t1 m2 t2 d0 d1 d2 _ (hR.ex e0) (hX.ex e0) (hF.ex e0) hs hu hf)
  have HE0 := Lib.hid e0
  by_cases hz : extC 8 t0 m1 t1 m2 t2 = 0
  · have HQ : Hid (qExtensionGroup1 t0 m1 t1 m2 t2 = 0) := Lib.hid hz
    have hy : yExtensionGroup0 t0 m1 t1 m2 t2 = extT t0 m1.toNat t1 t2 := by unfold yExtensionGroup0 yE; rw [if_pos hz]
    obtain ⟨M, rfl, rfl, hEF⟩ := extC_zero hz
    rw [Int.toNat_natCast] at hy
    have HT := Lib.hid (fun W (he : Ex w W) => l06Table_any 8 B0 B1 B2 t0 M t1 t2 d0 d1 d2 W (hR.ex he) (hX.ex he) (hF.ex he) hEF (by omega))
    have HY := Lib.hid hy
    rw [hz] at HC
    clear hR hX hF hs hu hf hz hEF hy
    go_enter Tryd.func31, Tryd.ntmps31
    go_wp2_with fail
    generalize ((((w.alloc (.cells #[.slice B0 t0.length d0] 35)).alloc (.cells #[.int .i64 (M : Int), .slice B1 t1.length d1] 37)).alloc (.cells #[.int .i64 2, .slice B2 t2.length d2] 39)).alloc (.cells #[.slice none 0 0] 35)) = W0 at *
    have HB3 := Lib.hid b3
    refine HC.out.mono ?_
    rintro e W1 ⟨rfl, he1⟩
    have c0 := (b0.ex he1).cell 0
    have c1 := (b1.ex he1).cell 0
    have c1' := (b1.ex he1).cell 1
    have c2 := (b2.ex he1).cell 0
    have c2' := (b2.ex he1).cell 1
    have HE1 := Lib.hid (HE0.out.trans he1)
    have HB4 := Lib.hid (HB3.out.ex he1)
    clear b0 b1 b2 b3 e0 he1
    go_wp2_with fail
    refine (HT.out _ HE1.out).mono ?_
    rintro e W2 ⟨C, k, rfl, he2, ho⟩
    have HO := Lib.hid ho
    have HE2 := Lib.hid (HE1.out.trans he2)
    have HBR := Lib.hid (HB4.out.ex he2)
    have cr := HBR.out.cell 0
    have fr := HBR.out.free 0
    have hlt := HB4.out.lt
    have hlw := HE1.out.size
    obtain ⟨n, hn⟩ : ∃ n, (extT t0 M t1 t2).length = n := ⟨_, rfl⟩
    rw [hn]
    have HN := Lib.hid hn
    clear he2 ho hn c0 c1 c1' c2 c2'
    go_wp2_with fail
    have H4 := HBR.out.put1 (v := .slice C n k)
    have c4 := H4.cell 0
    have hon := Only.set W2 (w.heap.size + 1 + 1 + 1) 0 (.slice C n k)
    refine bodyPost_ret (v := .tuple #[.agg #[.slice C n k], .int .i64 0]) (by simp [results, Tryd.results31, go_sem, c4]) rfl ⟨C, k, by rw [HQ.out, HY.out, HN.out], HE2.out.setCell (by show w.heap.size ≤ w.heap.size + 1 + 1 + 1; omega) _, ?_⟩
    rw [HY.out]
    exact (HO.out.above hon (by omega)).mono (by omega) hon.size (Nat.le_refl _)
  · have HQ : Hid (yExtensionGroup0 t0 m1 t1 m2 t2 = [] ∧ qExtensionGroup1 t0 m1 t1 m2 t2 = extC 8 t0 m1 t1 m2 t2) := Lib.hid ⟨by unfold yExtensionGroup0 yE; rw [if_neg hz], rfl⟩
    obtain ⟨z, hze⟩ : ∃ z, extC 8 t0 m1 t1 m2 t2 = z := ⟨_, rfl⟩
    rw [hze] at HC HQ hz
    have hzb : (z != 0) = true := by simpa using hz
    clear hR hX hF hs hu hf hz hze
    go_enter Tryd.func31, Tryd.ntmps31
    go_wp2_with fail
    generalize ((((w.alloc (.cells #[.slice B0 t0.length d0] 35)).alloc (.cells #[.int .i64 m1, .slice B1 t1.length d1] 37)).alloc (.cells #[.int .i64 m2, .slice B2 t2.length d2] 39)).alloc (.cells #[.slice none 0 0] 35)) = W0 at *
    have HB3 := Lib.hid b3
    refine HC.out.mono ?_
    rintro e W1 ⟨rfl, he1⟩
    have HBR := Lib.hid (HB3.out.ex he1)
    have cr := HBR.out.cell 0
    have fr := HBR.out.free 0
    have HE1 := Lib.hid (HE0.out.trans he1)
    clear b0 b1 b2 b3 e0 he1
    go_wp2_with fail
    have H4 := HBR.out.put1 (v := .slice none 0 0)
    have c4 := H4.cell 0
    refine bodyPost_ret (v := .tuple #[.agg #[.slice none 0 0], .int .i64 z]) (by simp [results, Tryd.results31, go_sem, c4]) rfl ⟨none, 0, by rw [HQ.out.1, HQ.out.2]; rfl, HE1.out.setCell (by show w.heap.size ≤ w.heap.size + 1 + 1 + 1; omega) _, by rw [HQ.out.1]; exact OwnT.nil _ _ _ (Nat.le_refl _)⟩

end Go.Proofs.YtenenlpfpkdplaaDoor
