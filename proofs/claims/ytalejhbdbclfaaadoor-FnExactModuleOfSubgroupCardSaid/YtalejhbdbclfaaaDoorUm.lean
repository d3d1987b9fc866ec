/- GroupOfSubgroup: both contracts. -/
import Derived.Test.YtalejhbdbclfaaaDoorUg
import Derived.Test.YtalejhbdbclfaaaDoorUh
namespace Go.Proofs.YtalejhbdbclfaaaDoor
open Go.RowKit Go.Shelf

attribute [local go_sem] Oper.semAt_some

noncomputable def yGroupOfSubgroup0 (t : List (List Int)) (xs : List Int) : List (List Int) := if sgC t xs [] = 0 then grT t xs else []
noncomputable def qGroupOfSubgroup1 (t : List (List Int)) (xs : List Int) : Int := sgC t xs []
section
variable {t : List (List Int)} {xs : List Int}
theorem gso_no {z : Int} (h : sgC t xs [] = z) (hz : z ≠ 0) : yGroupOfSubgroup0 t xs = [] ∧ qGroupOfSubgroup1 t xs = z := by simp [yGroupOfSubgroup0, qGroupOfSubgroup1, h, hz]
theorem gso_yes (h : sgC t xs [] = 0) : yGroupOfSubgroup0 t xs = grT t xs ∧ qGroupOfSubgroup1 t xs = 0 := by simp [yGroupOfSubgroup0, qGroupOfSubgroup1, h]
theorem groupOfSubgroup_small0 (t : List (List Int)) (xs : List Int) : SmallT (yGroupOfSubgroup0 t xs) := by
  unfold yGroupOfSubgroup0
  split
  · rename_i h
    have := (subX_code h).len8
    exact mkT_small (by omega) (by omega)
  · exact ⟨by simp, fun i hi => by simp at hi⟩
end

set_option maxRecDepth 100000 in
set_option maxHeartbeats 2000000 in
theorem specGroupOfSubgroup_ex (t0 : List (List Int)) (t1 : List Int) : ∀ (B0 : Option Addr) (d0 : Nat) (B1 : Option Addr) (d1 : Nat) (W : World), RwsW W B0 t0 → IntsW W B1 t1 → SmallT t0 → t1.length ≤ 1048576 →
    Calls Tryd.prog 16 #[.agg #[.slice B0 t0.length d0], .slice B1 t1.length d1] W fun e W' => ∃ (C0 : Option Addr) (e0 : Nat), e = .returned (.tuple #[.agg #[.slice C0 (yGroupOfSubgroup0 t0 t1).length e0], .int .i64 (qGroupOfSubgroup1 t0 t1)]) ∧ Ex W W' ∧ OwnT W' W.heap.size W'.heap.size C0 (yGroupOfSubgroup0 t0 t1) := by
  intro B0 d0 B1 d1 w hR hX hs hu
  have e0 : Ex w ((w.alloc (.cells #[.slice B0 t0.length d0] 27)).alloc (.cells #[.slice none 0 0] 27)) := ((Ex.refl w).alloc _).alloc _
  have b0 : Has ((w.alloc (.cells #[.slice B0 t0.length d0] 27)).alloc (.cells #[.slice none 0 0] 27)) (w.heap.size) 27 #[.slice B0 t0.length d0] := ((Has.newAt (w := w) (e := 27) (cs := #[.slice B0 t0.length d0]) (k := w.heap.size) (by simp)).alloc _)
  have b1 : Has ((w.alloc (.cells #[.slice B0 t0.length d0] 27)).alloc (.cells #[.slice none 0 0] 27)) (w.heap.size + 1) 27 #[.slice none 0 0] := (Has.newAt (w := (w.alloc (.cells #[.slice B0 t0.length d0] 27))) (e := 27) (cs := #[.slice none 0 0]) (k := w.heap.size + 1) (by simp))
  have HC := Lib.hid (l07Code_any B0 B1 t0 t1 d0 d1 _ (hR.ex e0) (hX.ex e0) hs hu)
  by_cases hz : sgC t0 t1 [] = 0
  · have hsx := subX_code hz
    have HQ := Lib.hid (gso_yes hz)
    rw [hz] at HC
    have HGR := Lib.hid (fun W (he : Ex ((w.alloc (.cells #[.slice B0 t0.length d0] 27)).alloc (.cells #[.slice none 0 0] 27)) W) => l07Group_any B0 B1 t0 t1 d0 d1 W (hR.ex (e0.trans he)) (hX.ex (e0.trans he)) hsx)
    obtain ⟨ys, hys⟩ : ∃ ys, grT t0 t1 = ys := ⟨_, rfl⟩
    rw [hys] at HQ HGR
    clear hz hsx hR hX hs hu hys
    go_enter Tryd.func16, Tryd.ntmps16
    go_wp2_with fail
    generalize ((w.alloc (.cells #[.slice B0 t0.length d0] 27)).alloc (.cells #[.slice none 0 0] 27)) = W0 at *
    refine HC.out.mono ?_
    rintro e W1 ⟨rfl, he1⟩
    have HE1 := Lib.hid (e0.trans he1)
    have c0 := (b0.ex he1).cell 0
    have HB1 := Lib.hid (b1.ex he1)
    have HGR1 := Lib.hid (HGR.out W1 he1)
    clear b0 b1 e0 he1 HGR
    go_wp2_with fail
    refine HGR1.out.mono ?_
    rintro e W2 ⟨CC, n, rfl, he2, hO⟩
    have HBR := Lib.hid (HB1.out.ex he2)
    have cr := HBR.out.cell 0
    have fr := HBR.out.free 0
    have hlt := HB1.out.lt
    have hlw := HE1.out.size
    have HE2 := Lib.hid (HE1.out.trans he2)
    have HO := Lib.hid hO
    clear he2 hO c0 HGR1
    go_wp2_with fail
    have H4 := HBR.out.put1 (v := .slice CC ys.length n)
    have c4 := H4.cell 0
    have hO9 := HO.out.above (Only.set W2 (w.heap.size + 1) 0 (.slice CC ys.length n)) hlt
    exact bodyPost_ret (v := .tuple #[.agg #[.slice CC ys.length n], .int .i64 0]) (by simp [results, Tryd.results16, go_sem, c4]) rfl ⟨CC, n, by rw [HQ.out.1, HQ.out.2], HE2.out.setCell (p := ⟨w.heap.size + 1, 0, none⟩) (by show w.heap.size ≤ w.heap.size + 1; omega) _, by rw [HQ.out.1]; exact hO9.mono hlw (by simp) (Nat.le_refl _)⟩
  · obtain ⟨z, hzz⟩ : ∃ z, sgC t0 t1 [] = z := ⟨_, rfl⟩
    have HQ := Lib.hid (gso_no hzz (hzz ▸ hz))
    rw [hzz] at HC hz
    have hzb : (z != 0) = true := by simpa using hz
    clear hz hzz hR hX hs hu
    go_enter Tryd.func16, Tryd.ntmps16
    go_wp2_with fail
    generalize ((w.alloc (.cells #[.slice B0 t0.length d0] 27)).alloc (.cells #[.slice none 0 0] 27)) = W0 at *
    refine HC.out.mono ?_
    rintro e W1 ⟨rfl, he1⟩
    have HE1 := Lib.hid (e0.trans he1)
    have HBR := Lib.hid (b1.ex he1)
    have cr := HBR.out.cell 0
    have fr := HBR.out.free 0
    clear b0 b1 e0 he1
    go_wp2_with fail
    have H4 := HBR.out.put1 (v := .slice none 0 0)
    have c4 := H4.cell 0
    exact bodyPost_ret (v := .tuple #[.agg #[.slice none 0 0], .int .i64 z]) (by simp [results, Tryd.results16, go_sem, c4]) rfl ⟨none, 0, by rw [HQ.out.1, HQ.out.2]; rfl, HE1.out.setCell (p := ⟨w.heap.size + 1, 0, none⟩) (by show w.heap.size ≤ w.heap.size + 1; omega) _, by rw [HQ.out.1]; exact OwnT.nil _ _ _ (Nat.le_refl _)⟩

theorem field_part (x y z : Value) (w : World) : (Instr.field 83 (.agg #[x, y, z]) 0).run Tryd.prog w = .ok (.agg #[x]) w := by kernel_rfl

set_option maxRecDepth 100000 in
set_option maxHeartbeats 2000000 in
theorem implGroupOfSubgroup_ex (t0 : List (List Int)) (t1 : List Int) : ∀ (B0 : Option Addr) (d0 : Nat) (B1 : Option Addr) (d1 : Nat) (W : World), RwsW W B0 t0 → IntsW W B1 t1 → SmallT t0 → t1.length ≤ 1048576 → TabL W →
    Calls Tryd.prog 19 #[.agg #[.slice B0 t0.length d0], .slice B1 t1.length d1] W fun e W' => ∃ (C0 : Option Addr) (e0 : Nat), e = .returned (.tuple #[.agg #[.slice C0 (yGroupOfSubgroup0 t0 t1).length e0], .int .i64 (qGroupOfSubgroup1 t0 t1)]) ∧ Ex W W' ∧ OwnT W' W.heap.size W'.heap.size C0 (yGroupOfSubgroup0 t0 t1) := by
  intro B0 d0 B1 d1 w hR hX hs hu hT
  have e0 : Ex w ((w.alloc (.cells #[.slice B0 t0.length d0] 27)).alloc (.cells #[.slice none 0 0] 27)) := ((Ex.refl w).alloc _).alloc _
  have b0 : Has ((w.alloc (.cells #[.slice B0 t0.length d0] 27)).alloc (.cells #[.slice none 0 0] 27)) (w.heap.size) 27 #[.slice B0 t0.length d0] := ((Has.newAt (w := w) (e := 27) (cs := #[.slice B0 t0.length d0]) (k := w.heap.size) (by simp)).alloc _)
  have b1 : Has ((w.alloc (.cells #[.slice B0 t0.length d0] 27)).alloc (.cells #[.slice none 0 0] 27)) (w.heap.size + 1) 27 #[.slice none 0 0] := (Has.newAt (w := (w.alloc (.cells #[.slice B0 t0.length d0] 27))) (e := 27) (cs := #[.slice none 0 0]) (k := w.heap.size + 1) (by simp))
  have HC := Lib.hid (subgroupCode_any B0 B1 none t0 t1 [] d0 d1 0 _ (hR.ex e0) (hX.ex e0) (.inl rfl) hs hu (by simp) (hT.ex e0))
  simp only [List.length_nil] at HC
  by_cases hz : sgC t0 t1 [] = 0
  · have hsx := subX_code hz
    have HQ := Lib.hid (gso_yes hz)
    rw [hz] at HC
    have HGR := Lib.hid (fun W (he : Ex ((w.alloc (.cells #[.slice B0 t0.length d0] 27)).alloc (.cells #[.slice none 0 0] 27)) W) => inclusionOf_any B0 B1 t0 t1 d0 d1 W (hR.ex (e0.trans he)) (hX.ex (e0.trans he)) hsx)
    have hfp := field_part
    have HGL : Hid ((grT t0 t1).length = t1.length) := Lib.hid (grT_len t0 t1)
    have HGT : Hid (grT t0 t1 = mkT t1.length t1.length fun i j => (grV t0 t1 i j : Int)) := Lib.hid rfl
    obtain ⟨K, hK⟩ : ∃ K, t1.length = K := ⟨_, rfl⟩
    rw [hK] at HC HGR HGL HGT ⊢
    clear hz hsx hR hX hs hu hT hK
    go_enter Tryd.func19, Tryd.ntmps19
    go_wp2_with fail
    generalize ((w.alloc (.cells #[.slice B0 t0.length d0] 27)).alloc (.cells #[.slice none 0 0] 27)) = W0 at *
    refine HC.out.mono ?_
    rintro e W1 ⟨rfl, he1⟩
    have HE1 := Lib.hid (e0.trans he1)
    have c0 := (b0.ex he1).cell 0
    have HB1 := Lib.hid (b1.ex he1)
    have HGR1 := Lib.hid (HGR.out W1 he1)
    clear b0 b1 e0 he1 HGR
    go_wp2_with fail
    refine HGR1.out.mono ?_
    rintro e W2 ⟨G, R, rfl, he2, hlG, hlR, hG, hR⟩
    have HBR := Lib.hid (HB1.out.ex he2)
    have cr := HBR.out.cell 0
    have fr := HBR.out.free 0
    have hlt := HB1.out.lt
    have hlw := HE1.out.size
    have HE2 := Lib.hid (HE1.out.trans he2)
    have HO := Lib.hid (OwnT.of_block (lo := W1.heap.size) (V := fun i j => (grV t0 t1 i j : Int)) hG hR hlG hlR)
    clear he2 hG hR c0 HGR1
    go_wp2_with fail
    have H4 := HBR.out.put1 (v := .slice (some ⟨R, 0, none⟩) K K)
    have c4 := H4.cell 0
    have hO9 := HO.out.above (Only.set W2 (w.heap.size + 1) 0 (.slice (some ⟨R, 0, none⟩) K K)) hlt
    exact bodyPost_ret (v := .tuple #[.agg #[.slice (some ⟨R, 0, none⟩) K K], .int .i64 0]) (by simp [results, Tryd.results19, go_sem, c4]) rfl ⟨some ⟨R, 0, none⟩, K, by rw [HQ.out.1, HQ.out.2, HGL.out], HE2.out.setCell (p := ⟨w.heap.size + 1, 0, none⟩) (by show w.heap.size ≤ w.heap.size + 1; omega) _, by rw [HQ.out.1, HGT.out]; exact hO9.mono hlw (by simp) (Nat.le_refl _)⟩
  · obtain ⟨z, hzz⟩ : ∃ z, sgC t0 t1 [] = z := ⟨_, rfl⟩
    have HQ := Lib.hid (gso_no hzz (hzz ▸ hz))
    rw [hzz] at HC hz
    have hzb : (z != 0) = true := by simpa using hz
    clear hz hzz hR hX hs hu hT
    go_enter Tryd.func19, Tryd.ntmps19
    go_wp2_with fail
    generalize ((w.alloc (.cells #[.slice B0 t0.length d0] 27)).alloc (.cells #[.slice none 0 0] 27)) = W0 at *
    refine HC.out.mono ?_
    rintro e W1 ⟨rfl, he1⟩
    have HE1 := Lib.hid (e0.trans he1)
    have HBR := Lib.hid (b1.ex he1)
    have cr := HBR.out.cell 0
    have fr := HBR.out.free 0
    clear b0 b1 e0 he1
    go_wp2_with fail
    have H4 := HBR.out.put1 (v := .slice none 0 0)
    have c4 := H4.cell 0
    exact bodyPost_ret (v := .tuple #[.agg #[.slice none 0 0], .int .i64 z]) (by simp [results, Tryd.results19, go_sem, c4]) rfl ⟨none, 0, by rw [HQ.out.1, HQ.out.2]; rfl, HE1.out.setCell (p := ⟨w.heap.size + 1, 0, none⟩) (by show w.heap.size ≤ w.heap.size + 1; omega) _, by rw [HQ.out.1]; exact OwnT.nil _ _ _ (Nat.le_refl _)⟩

end Go.Proofs.YtalejhbdbclfaaaDoor
