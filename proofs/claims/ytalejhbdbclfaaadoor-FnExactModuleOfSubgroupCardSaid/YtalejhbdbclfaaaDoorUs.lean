/- ModuleOfSubgroup: the program's contract. -/
import Derived.Test.YtalejhbdbclfaaaDoorUr
import Derived.Test.YtalejhbdbclfaaaDoorUn
namespace Go.Proofs.YtalejhbdbclfaaaDoor
open Go.RowKit

/-- The code of a module, a group's subgroup and elements. -/
noncomputable def mgE (t : List (List Int)) (m : Int) (us xs es : List Int) : Int := if gmB t m us = true then sgC t xs es else 1

set_option maxRecDepth 100000 in
set_option maxHeartbeats 2000000 in
theorem subgroupModuleCode_any (A U L E : Option Addr) (t : List (List Int)) (m : Int) (us xs es : List Int) (c c1 c2 c3 : Nat) (w : World) (hR : RwsW w A t) (hU : IntsW w U us) (hX : IntsW w L xs) (hY : IntsW w E es) (hs : SmallT t) (hu : us.length ≤ 1048576) (hx : xs.length ≤ 1048576) (hy : es.length ≤ 1048576) (hT : TabL w) :
    Calls Tryd.prog 70 #[.agg #[.slice A t.length c], .agg #[.int .i64 m, .slice U us.length c1], .slice L xs.length c2, .slice E es.length c3] w fun e w' => e = .returned (.int .i64 (mgE t m us xs es)) ∧ Ex w w' := by
  have e0 : Ex w ((w.alloc (.cells #[.slice A t.length c] 27)).alloc (.cells #[.int .i64 m, .slice U us.length c1] 40)) := ((Ex.refl w).alloc _).alloc _
  have b0 : Has ((w.alloc (.cells #[.slice A t.length c] 27)).alloc (.cells #[.int .i64 m, .slice U us.length c1] 40)) (w.heap.size) 27 #[.slice A t.length c] := ((Has.newAt (w := w) (e := 27) (cs := #[.slice A t.length c]) (k := w.heap.size) (by simp)).alloc _)
  have b1 : Has ((w.alloc (.cells #[.slice A t.length c] 27)).alloc (.cells #[.int .i64 m, .slice U us.length c1] 40)) (w.heap.size + 1) 40 #[.int .i64 m, .slice U us.length c1] := (Has.newAt (w := (w.alloc (.cells #[.slice A t.length c] 27))) (e := 40) (cs := #[.int .i64 m, .slice U us.length c1]) (k := w.heap.size + 1) (by simp))
  have HC := Lib.hid (isModule_ex A U t m us c c1 _ (hR.ex e0) (hU.ex e0) hs hu)
  have k0 := b0.cell 0
  have k1 := b1.cell 0
  have k1' := b1.cell 1
  cases hg : gmB t m us with
  | false =>
    rw [hg] at HC
    have HQ : Hid (mgE t m us xs es = 1) := Lib.hid (by simp [mgE, hg])
    clear hg hR hU hX hY hs hu hx hy hT
    go_enter Tryd.func70, Tryd.ntmps70
    go_wp2_with fail
    generalize ((w.alloc (.cells #[.slice A t.length c] 27)).alloc (.cells #[.int .i64 m, .slice U us.length c1] 40)) = W0 at *
    refine HC.out.mono ?_
    rintro e W1 ⟨rfl, he1⟩
    have HE1 := Lib.hid (e0.trans he1)
    clear b0 b1 e0 he1 k0 k1 k1'
    go_wp2_with fail
    go_ret
    exact ⟨by rw [HQ.out]; rfl, HE1.out⟩
  | true =>
    rw [hg] at HC
    have HQ : Hid (mgE t m us xs es = sgC t xs es) := Lib.hid (by simp [mgE, hg])
    have HK := Lib.hid (fun W (he : Ex w W) => subgroupCode_any A L E t xs es c c2 c3 W (hR.ex he) (hX.ex he) (hY.ex he) hs hx hy (hT.ex he))
    obtain ⟨q, hq⟩ : ∃ q, sgC t xs es = q := ⟨_, rfl⟩
    rw [hq] at HQ HK
    clear hg hR hU hX hY hs hu hx hy hT hq
    go_enter Tryd.func70, Tryd.ntmps70
    go_wp2_with fail
    generalize ((w.alloc (.cells #[.slice A t.length c] 27)).alloc (.cells #[.int .i64 m, .slice U us.length c1] 40)) = W0 at *
    refine HC.out.mono ?_
    rintro e W1 ⟨rfl, he1⟩
    have HE1 := Lib.hid (e0.trans he1)
    have c0 := (b0.ex he1).cell 0
    clear b0 b1 e0 he1 k0 k1 k1'
    go_wp2_with fail
    refine (HK.out W1 HE1.out).mono ?_
    rintro e W2 ⟨rfl, he2⟩
    have HE2 := Lib.hid (HE1.out.trans he2)
    clear he2 c0
    go_wp2_with fail
    go_ret
    exact ⟨by rw [HQ.out]; rfl, HE2.out⟩

set_option maxRecDepth 100000 in
set_option maxHeartbeats 4000000 in
theorem implModuleOfSubgroup_ex (t0 : List (List Int)) (m1 : Int) (t1 t2 : List Int) : ∀ (B0 : Option Addr) (d0 : Nat) (B1 : Option Addr) (d1 : Nat) (B2 : Option Addr) (d2 : Nat) (W : World), RwsW W B0 t0 → IntsW W B1 t1 → IntsW W B2 t2 → SmallT t0 → t1.length ≤ 1048576 → t2.length ≤ 1048576 → TabL W →
    Calls Tryd.prog 28 #[.agg #[.slice B0 t0.length d0], .agg #[.int .i64 m1, .slice B1 t1.length d1], .slice B2 t2.length d2] W (MgS t0 m1 t1 t2 W) := by
  intro B0 d0 B1 d1 B2 d2 w hR hU hX hs hu hx hT
  have e0 : Ex w (((w.alloc (.cells #[.slice B0 t0.length d0] 27)).alloc (.cells #[.int .i64 m1, .slice B1 t1.length d1] 40)).alloc (.cells #[.int .i64 0, .slice none 0 0] 40)) := (((Ex.refl w).alloc _).alloc _).alloc _
  have b0 : Has (((w.alloc (.cells #[.slice B0 t0.length d0] 27)).alloc (.cells #[.int .i64 m1, .slice B1 t1.length d1] 40)).alloc (.cells #[.int .i64 0, .slice none 0 0] 40)) (w.heap.size) 27 #[.slice B0 t0.length d0] := (((Has.newAt (w := w) (e := 27) (cs := #[.slice B0 t0.length d0]) (k := w.heap.size) (by simp)).alloc _).alloc _)
  have b1 : Has (((w.alloc (.cells #[.slice B0 t0.length d0] 27)).alloc (.cells #[.int .i64 m1, .slice B1 t1.length d1] 40)).alloc (.cells #[.int .i64 0, .slice none 0 0] 40)) (w.heap.size + 1) 40 #[.int .i64 m1, .slice B1 t1.length d1] := ((Has.newAt (w := (w.alloc (.cells #[.slice B0 t0.length d0] 27))) (e := 40) (cs := #[.int .i64 m1, .slice B1 t1.length d1]) (k := w.heap.size + 1) (by simp)).alloc _)
  have b2 : Has (((w.alloc (.cells #[.slice B0 t0.length d0] 27)).alloc (.cells #[.int .i64 m1, .slice B1 t1.length d1] 40)).alloc (.cells #[.int .i64 0, .slice none 0 0] 40)) (w.heap.size + 1 + 1) 40 #[.int .i64 0, .slice none 0 0] := (Has.newAt (w := ((w.alloc (.cells #[.slice B0 t0.length d0] 27)).alloc (.cells #[.int .i64 m1, .slice B1 t1.length d1] 40))) (e := 40) (cs := #[.int .i64 0, .slice none 0 0]) (k := w.heap.size + 1 + 1) (by simp))
  have HC := Lib.hid (subgroupModuleCode_any B0 B1 B2 none t0 m1 t1 t2 [] d0 d1 d2 0 _ (hR.ex e0) (hU.ex e0) (hX.ex e0) (.inl rfl) hs hu hx (by simp) (hT.ex e0))
  simp only [List.length_nil] at HC
  rw [show mgE t0 m1 t1 t2 [] = mgC t0 m1 t1 t2 from rfl] at HC
  by_cases hz : mgC t0 m1 t1 t2 = 0
  · obtain ⟨hsx, hul⟩ := mgC_zero hz
    have HQ := Lib.hid (mgs_yes hz)
    rw [hz] at HC
    have HIN := Lib.hid (fun W (he : Ex w W) => inclusionOf_any B0 B2 t0 t2 d0 d2 W (hR.ex he) (hX.ex he) hsx)
    have hx8 := hsx.len8
    have hu8 : t1.length ≤ 8 := by rw [hul]; exact hsx.g.n8
    have hir : InR t1.length t2 := fun i hi => by rw [hul]; exact hsx.rng hi
    have HMA := Lib.hid (fun W R (he : Ex w W) => moduleAlong_any (some ⟨R, 0, none⟩) B0 B2 B1 t2.length t2.length t0.length d0 d2 d1 m1 t1 t2 W (hU.ex he) (hX.ex he) rfl hx8 hu8 hir)
    have HL : Hid ((mgL t1 t2).length = t2.length) := Lib.hid mgL_len
    rw [show ((List.range t2.length).map fun i => nth t1 (xN t2 i)) = mgL t1 t2 from rfl] at HMA
    obtain ⟨ys, hys⟩ : ∃ ys, mgL t1 t2 = ys := ⟨_, rfl⟩
    rw [hys] at HQ HMA HL
    clear hz hsx hul hir hR hU hX hs hu hx hT hys
    go_enter Tryd.func28, Tryd.ntmps28
    go_wp2_with fail
    generalize (((w.alloc (.cells #[.slice B0 t0.length d0] 27)).alloc (.cells #[.int .i64 m1, .slice B1 t1.length d1] 40)).alloc (.cells #[.int .i64 0, .slice none 0 0] 40)) = W0 at *
    refine HC.out.mono ?_
    rintro e W1 ⟨rfl, he1⟩
    have HE1 := Lib.hid (e0.trans he1).drew
    have HB0 := Lib.hid (b0.ex he1)
    have HB1 := Lib.hid (b1.ex he1)
    have HB2 := Lib.hid (b2.ex he1)
    have hC0 := And.intro (HB0.out.cell 0) (And.intro (HB1.out.cell 0) (HB1.out.cell 1))
    clear b0 b1 b2 e0 he1
    go_wp2_with fail
    refine Late.region (C := fun w' => w'.cell? ⟨w.heap.size, 0, none⟩ = some (.slice B0 t0.length d0) ∧ w'.cell? ⟨w.heap.size + 1, 0, none⟩ = some (.int .i64 m1) ∧ w'.cell? ⟨w.heap.size + 1, 1, none⟩ = some (.slice B1 t1.length d1)) (fun j => decide (j < 6)) (by kernel_rfl) hC0 (fun hC => ?_)
    refine Late.take (i := 0) (oi := _) (v := ?_) rfl (by kernel_rfl) (by kernel_rfl) (by kernel_rfl) (by kernel_rfl) (fun _ _ _ h => h) (Or.inl ⟨by rfl, ?_⟩) hC ?_
    rotate_left
    · (intro w hSw; (try dsimp only at hSw); go_simp; first | done | with_reducible rfl)
    simp only [Act.put]
    refine Late.take (i := 1) (oi := _) (v := ?_) rfl (by kernel_rfl) (by kernel_rfl) (by kernel_rfl) (by kernel_rfl) (fun _ _ _ h => h) (Or.inl ⟨by rfl, ?_⟩) hC ?_
    rotate_left
    · (intro w hSw; (try dsimp only at hSw); go_simp; first | done | with_reducible rfl)
    simp only [Act.put]
    refine Late.take (i := 4) (oi := _) (v := ?_) rfl (by kernel_rfl) (by kernel_rfl) (by kernel_rfl) (by kernel_rfl) (fun _ _ _ h => h) (Or.inl ⟨by rfl, ?_⟩) hC ?_
    rotate_left
    · (intro w hSw; (try dsimp only at hSw); go_simp; first | done | with_reducible rfl)
    simp only [Act.put]
    clear hC hC0
    refine Late.one (i := 2) (o := _) (by kernel_rfl) rfl (fun K' hK' => ?_)
    go_simp
    refine (HIN.out W1.drew HE1.out).mono ?_
    rintro e W2 ⟨G, R, rfl, he2, -, -, -, -⟩
    have HE2 := Lib.hid (HE1.out.trans he2)
    have he2' : Ex W1 W2 := (Ex.refl W1).drew.trans he2
    have HB02 := Lib.hid (HB0.out.ex he2')
    have HB12 := Lib.hid (HB1.out.ex he2')
    have HB22 := Lib.hid (HB2.out.ex he2')
    have hC2 := And.intro (HB02.out.cell 0) (And.intro (HB12.out.cell 0) (HB12.out.cell 1))
    refine hK'.out _ _ (fun _ => hC2) (fun _ => ?_)
    clear hK' K' he2 he2'
    try simp only [Act.put]
    refine Late.one (i := 3) (o := _) (by kernel_rfl) rfl (fun K' hK' => ?_)
    go_simp
    refine hK'.out _ _ (fun _ => hC2) (fun _ => ?_)
    clear hK' K' hC2
    try simp only [Act.put]
    refine Late.one (i := 5) (o := _) (by kernel_rfl) rfl (fun K' hK' => ?_)
    go_simp
    refine (HMA.out W2 R HE2.out).mono ?_
    rintro e W3 ⟨CC, n, rfl, he3, hO⟩
    have HE3 := Lib.hid (HE2.out.trans he3)
    have HBR := Lib.hid (HB22.out.ex he3)
    have c4 := HBR.out.cell 0
    have c4' := HBR.out.cell 1
    have f4 := HBR.out.free 0
    have f4' := HBR.out.free 1
    have hlt := HB22.out.lt
    have hlw := HE2.out.size
    have HO := Lib.hid hO
    have hC3 := And.intro ((HB02.out.ex he3).cell 0) (And.intro ((HB12.out.ex he3).cell 0) ((HB12.out.ex he3).cell 1))
    clear he3 hO
    refine hK'.out _ _ (fun _ => hC3) (fun _ => ?_)
    clear hK' K' hC3
    try simp only [Act.put]
    refine Late.one (i := 6) (o := _) (by kernel_rfl) rfl (fun K' hK' => ?_)
    go_simp
    refine hK'.out _ _ (fun h => by cases h) (fun _ => ?_)
    clear hK' K'
    try simp only [Act.put]
    refine Late.one (i := 7) (o := _) (by kernel_rfl) rfl (fun K' hK' => ?_)
    go_simp
    refine hK'.out _ _ (fun h => by cases h) (fun _ => ?_)
    clear hK' K'
    try simp only [Act.put]
    refine Late.done (by kernel_rfl) ?_ _
    go_wp2_with fail
    have H4 := HBR.out.put2 (u := .int .i64 m1) (v := .slice CC t2.length n)
    have c4 := H4.cell 0
    have c4' := H4.cell 1
    refine bodyPost_ret (v := .tuple #[.agg #[.int .i64 m1, .slice CC t2.length n], .int .i64 0]) (by simp [results, Tryd.results28, go_sem, c4, c4']) rfl (MgS.of HQ.out (by rw [HL.out]) ((HE3.out.setCell (by show w.heap.size ≤ w.heap.size + 1 + 1; omega) _).setCell (by show w.heap.size ≤ w.heap.size + 1 + 1; omega) _) (((HO.out.above (Only.set _ _ _ _) hlt).above (Only.set _ _ _ _) hlt).mono hlw (by simp) (Nat.le_refl _)))
  · obtain ⟨z, hzz⟩ : ∃ z, mgC t0 m1 t1 t2 = z := ⟨_, rfl⟩
    have HQ := Lib.hid (mgs_no hzz (hzz ▸ hz))
    rw [hzz] at HC hz
    have hzb : (z != 0) = true := by simpa using hz
    clear hz hzz hR hU hX hs hu hx hT
    go_enter Tryd.func28, Tryd.ntmps28
    go_wp2_with fail
    generalize (((w.alloc (.cells #[.slice B0 t0.length d0] 27)).alloc (.cells #[.int .i64 m1, .slice B1 t1.length d1] 40)).alloc (.cells #[.int .i64 0, .slice none 0 0] 40)) = W0 at *
    refine HC.out.mono ?_
    rintro e W1 ⟨rfl, he1⟩
    have HE1 := Lib.hid (e0.trans he1)
    have HBR := Lib.hid (b2.ex he1)
    have c4 := HBR.out.cell 0
    have c4' := HBR.out.cell 1
    have f4 := HBR.out.free 0
    have f4' := HBR.out.free 1
    clear b0 b1 b2 e0 he1
    go_wp2_with fail
    have H4 := HBR.out.put2 (u := .int .i64 0) (v := .slice none 0 0)
    have c4 := H4.cell 0
    have c4' := H4.cell 1
    refine bodyPost_ret (v := .tuple #[.agg #[.int .i64 0, .slice none 0 0], .int .i64 z]) (by simp [results, Tryd.results28, go_sem, c4, c4']) rfl (MgS.err HQ.out rfl ((HE1.out.setCell (by show w.heap.size ≤ w.heap.size + 1 + 1; omega) _).setCell (by show w.heap.size ≤ w.heap.size + 1 + 1; omega) _))

end Go.Proofs.YtalejhbdbclfaaaDoor
