/- ModuleOfSubgroup: the model, and the specification's contract. -/
import Derived.Test.YtfnjpbjlikajbaaGreatDoorInc
import Derived.Test.YtfnjpbjlikajbaaGreatDoorFif
import Derived.Test.YtfnjpbjlikajbaaGreatDoorRq
namespace Go.Proofs.YtfnjpbjlikajbaaGreatDoor
open Go.RowKit

noncomputable def mgC (t : List (List Int)) (m : Int) (us xs : List Int) : Int := if gmB t m us = true then sgC t xs [] else 1
/-- The units of the subgroup's elements. -/
def mgL (us xs : List Int) : List Int := (List.range xs.length).map fun i => nth us (xN xs i)
noncomputable def qModuleOfSubgroup0 (t : List (List Int)) (m : Int) (us xs : List Int) : Int := if mgC t m us xs = 0 then m else 0
noncomputable def yModuleOfSubgroup0 (t : List (List Int)) (m : Int) (us xs : List Int) : List Int := if mgC t m us xs = 0 then mgL us xs else []
noncomputable def qModuleOfSubgroup1 (t : List (List Int)) (m : Int) (us xs : List Int) : Int := mgC t m us xs
section
variable {t : List (List Int)} {m : Int} {us xs : List Int}
theorem mgL_len : (mgL us xs).length = xs.length := by simp [mgL]
theorem mgs_no {z : Int} (h : mgC t m us xs = z) (hz : z ≠ 0) : qModuleOfSubgroup0 t m us xs = 0 ∧ yModuleOfSubgroup0 t m us xs = [] ∧ qModuleOfSubgroup1 t m us xs = z := by simp [qModuleOfSubgroup0, yModuleOfSubgroup0, qModuleOfSubgroup1, h, hz]
theorem mgs_yes (h : mgC t m us xs = 0) : qModuleOfSubgroup0 t m us xs = m ∧ yModuleOfSubgroup0 t m us xs = mgL us xs ∧ qModuleOfSubgroup1 t m us xs = 0 := by simp [qModuleOfSubgroup0, yModuleOfSubgroup0, qModuleOfSubgroup1, h]
theorem mgC_zero (h : mgC t m us xs = 0) : SubX t xs ∧ us.length = t.length := by
  unfold mgC at h
  split at h
  · rename_i hg
    obtain ⟨M, _, hF⟩ := gmB_f hg
    exact ⟨subX_code h, hF.len⟩
  · cases h
theorem mgC_not (h : grpB t = false) : mgC t m us xs = 1 := by simp [mgC, gmB, h]
theorem mgC_notm (h : modB t m us = false) : mgC t m us xs = 1 := by simp [mgC, gmB, h]
theorem mgC_sub (h : grpB t = true) (hm : modB t m us = true) : mgC t m us xs = sgC t xs [] := by simp [mgC, gmB, h, hm]
theorem moduleOfSubgroup_small0 (t : List (List Int)) (m : Int) (us xs : List Int) : (yModuleOfSubgroup0 t m us xs).length ≤ 1048576 := by
  unfold yModuleOfSubgroup0
  split
  · rename_i h
    have := (mgC_zero h).1.len8
    rw [mgL_len]
    omega
  · simp
end

/-- What is asked of the end of ModuleOfSubgroup. -/
def MgS (t : List (List Int)) (m : Int) (us xs : List Int) (W : World) (e : Ending) (W' : World) : Prop := ∃ (C0 : Option Addr) (e0 : Nat), e = .returned (.tuple #[.agg #[.int .i64 (qModuleOfSubgroup0 t m us xs), .slice C0 (yModuleOfSubgroup0 t m us xs).length e0], .int .i64 (qModuleOfSubgroup1 t m us xs)]) ∧ Ex W W' ∧ OwnL W' W.heap.size W'.heap.size C0 (yModuleOfSubgroup0 t m us xs)
theorem MgS.err {t : List (List Int)} {m : Int} {us xs : List Int} {W W' : World} {e : Ending} {c : Int} (h : qModuleOfSubgroup0 t m us xs = 0 ∧ yModuleOfSubgroup0 t m us xs = [] ∧ qModuleOfSubgroup1 t m us xs = c) (he : e = .returned (.tuple #[.agg #[.int .i64 0, .slice none 0 0], .int .i64 c])) (hx : Ex W W') : MgS t m us xs W e W' :=
  ⟨none, 0, by rw [he, h.1, h.2.1, h.2.2]; rfl, hx, by rw [h.2.1]; exact OwnL.nil _ _ _ (Nat.le_refl _)⟩
theorem MgS.of {t : List (List Int)} {m : Int} {us xs : List Int} {W W' : World} {e : Ending} {ys : List Int} {C0 : Option Addr} {e0 : Nat} (h : qModuleOfSubgroup0 t m us xs = m ∧ yModuleOfSubgroup0 t m us xs = ys ∧ qModuleOfSubgroup1 t m us xs = 0) (he : e = .returned (.tuple #[.agg #[.int .i64 m, .slice C0 ys.length e0], .int .i64 0])) (hx : Ex W W') (h0 : OwnL W' W.heap.size W'.heap.size C0 ys) : MgS t m us xs W e W' :=
  ⟨C0, e0, by rw [he, h.1, h.2.1, h.2.2], hx, by rw [h.2.1]; exact h0⟩

set_option maxRecDepth 100000 in
set_option maxHeartbeats 2000000 in
theorem l07Given_any (A U L : Option Addr) (t : List (List Int)) (m : Int) (us xs : List Int) (c c1 c2 : Nat) (w : World) (hR : RwsW w A t) (hU : IntsW w U us) (hX : IntsW w L xs) (hs : SmallT t) (hu : us.length ≤ 1048576) (hx : xs.length ≤ 1048576) :
    Calls Tryz.prog 67 #[.agg #[.slice A t.length c], .agg #[.int .i64 m, .slice U us.length c1], .slice L xs.length c2] w fun e w' => e = .returned (.int .i64 (mgC t m us xs)) ∧ Ex w w' := by
  have e0 : Ex w ((w.alloc (.cells #[.slice A t.length c] 36)).alloc (.cells #[.int .i64 m, .slice U us.length c1] 38)) := ((Ex.refl w).alloc _).alloc _
  have b0 : Has ((w.alloc (.cells #[.slice A t.length c] 36)).alloc (.cells #[.int .i64 m, .slice U us.length c1] 38)) (w.heap.size) 36 #[.slice A t.length c] := ((Has.newAt (w := w) (e := 36) (cs := #[.slice A t.length c]) (k := w.heap.size) (by simp)).alloc _)
  have b1 : Has ((w.alloc (.cells #[.slice A t.length c] 36)).alloc (.cells #[.int .i64 m, .slice U us.length c1] 38)) (w.heap.size + 1) 38 #[.int .i64 m, .slice U us.length c1] := (Has.newAt (w := (w.alloc (.cells #[.slice A t.length c] 36))) (e := 38) (cs := #[.int .i64 m, .slice U us.length c1]) (k := w.heap.size + 1) (by simp))
  have HC := Lib.hid (l01Is_ex A t c _ (hR.ex e0) hs)
  cases hg : grpB t with
  | false =>
    rw [hg] at HC
    have HQ := Lib.hid (mgC_not (m := m) (us := us) (xs := xs) hg)
    clear hg hR hU hX hs hu hx
    go_enter Tryz.func67, Tryz.ntmps67
    go_wp2_with fail
    generalize ((w.alloc (.cells #[.slice A t.length c] 36)).alloc (.cells #[.int .i64 m, .slice U us.length c1] 38)) = W0 at *
    refine HC.out.mono ?_
    rintro e W1 ⟨rfl, he1⟩
    have HE1 := Lib.hid (e0.trans he1)
    clear b0 b1 e0 he1
    go_wp2_with fail
    go_ret
    exact ⟨by rw [HQ.out]; rfl, HE1.out⟩
  | true =>
    rw [hg] at HC
    have hgr := grpB_iff.1 hg
    have HM := Lib.hid (fun W (he : Ex w W) => l02Is_ex A U t m us c c1 W (hR.ex he) (hU.ex he) hgr hu)
    cases hm : modB t m us with
    | false =>
      rw [hm] at HM
      have HQ := Lib.hid (mgC_notm (t := t) (xs := xs) hm)
      clear hg hgr hm hR hU hX hs hu hx
      go_enter Tryz.func67, Tryz.ntmps67
      go_wp2_with fail
      generalize ((w.alloc (.cells #[.slice A t.length c] 36)).alloc (.cells #[.int .i64 m, .slice U us.length c1] 38)) = W0 at *
      refine HC.out.mono ?_
      rintro e W1 ⟨rfl, he1⟩
      have HE1 := Lib.hid (e0.trans he1)
      have c0 := (b0.ex he1).cell 0
      have c1 := (b1.ex he1).cell 0
      have c1' := (b1.ex he1).cell 1
      clear b0 b1 e0 he1
      go_wp2_with fail
      refine (HM.out W1 HE1.out).mono ?_
      rintro e W2 ⟨rfl, he2⟩
      have HE2 := Lib.hid (HE1.out.trans he2)
      clear he2 c0 c1 c1'
      go_wp2_with fail
      go_ret
      exact ⟨by rw [HQ.out]; rfl, HE2.out⟩
    | true =>
      rw [hm] at HM
      have HQ := Lib.hid (mgC_sub (xs := xs) hg hm)
      have HK := Lib.hid (fun W (he : Ex w W) => l07Code_any A L t xs c c2 W (hR.ex he) (hX.ex he) hs hx)
      obtain ⟨q, hq⟩ : ∃ q, sgC t xs [] = q := ⟨_, rfl⟩
      rw [hq] at HQ HK
      clear hg hgr hm hR hU hX hs hu hx hq
      go_enter Tryz.func67, Tryz.ntmps67
      go_wp2_with fail
      generalize ((w.alloc (.cells #[.slice A t.length c] 36)).alloc (.cells #[.int .i64 m, .slice U us.length c1] 38)) = W0 at *
      refine HC.out.mono ?_
      rintro e W1 ⟨rfl, he1⟩
      have HE1 := Lib.hid (e0.trans he1)
      have HB0 := Lib.hid (b0.ex he1)
      have c0 := HB0.out.cell 0
      have c1 := (b1.ex he1).cell 0
      have c1' := (b1.ex he1).cell 1
      clear b0 b1 e0 he1
      go_wp2_with fail
      refine (HM.out W1 HE1.out).mono ?_
      rintro e W2 ⟨rfl, he2⟩
      have HE2 := Lib.hid (HE1.out.trans he2)
      have c0' := (HB0.out.ex he2).cell 0
      clear he2 c0 c1 c1'
      go_wp2_with fail
      refine (HK.out W2 HE2.out).mono ?_
      rintro e W3 ⟨rfl, he3⟩
      have HE3 := Lib.hid (HE2.out.trans he3)
      clear he3 c0'
      go_wp2_with fail
      go_ret
      exact ⟨by rw [HQ.out]; rfl, HE3.out⟩

set_option maxRecDepth 100000 in
set_option maxHeartbeats 8000000 in
theorem l07Module_any (U L : Option Addr) (t : List (List Int)) (m : Int) (us xs : List Int) (c1 c2 : Nat) (w : World) (hU : IntsW w U us) (hX : IntsW w L xs) (h : SubX t xs) (hul : us.length = t.length) :
    Calls Tryz.prog 55 #[.agg #[.int .i64 m, .slice U us.length c1], .slice L xs.length c2] w fun e w' => ∃ C0 n0, e = .returned (.agg #[.int .i64 m, .slice C0 xs.length n0]) ∧ Ex w w' ∧ OwnL w' w.heap.size w'.heap.size C0 (mgL us xs) := by
  obtain ⟨i0, hi, hi0, hi1, hi2⟩ := info_parts infoI
  have e0 : Ex w ((w.alloc (.cells #[.int .i64 m, .slice U us.length c1] 38)).alloc (.cells #[.int .i64 0, .slice none 0 0] 38)) := ((Ex.refl w).alloc _).alloc _
  have b0 : Has ((w.alloc (.cells #[.int .i64 m, .slice U us.length c1] 38)).alloc (.cells #[.int .i64 0, .slice none 0 0] 38)) (w.heap.size) 38 #[.int .i64 m, .slice U us.length c1] := ((Has.newAt (w := w) (e := 38) (cs := #[.int .i64 m, .slice U us.length c1]) (k := w.heap.size) (by simp)).alloc _)
  have b1 : Has ((w.alloc (.cells #[.int .i64 m, .slice U us.length c1] 38)).alloc (.cells #[.int .i64 0, .slice none 0 0] 38)) (w.heap.size + 1) 38 #[.int .i64 0, .slice none 0 0] := (Has.newAt (w := (w.alloc (.cells #[.int .i64 m, .slice U us.length c1] 38))) (e := 38) (cs := #[.int .i64 0, .slice none 0 0]) (k := w.heap.size + 1) (by simp))
  have hl8 := h.len8
  have hu8 : us.length ≤ 8 := by rw [hul]; exact h.g.n8
  have HX := Lib.hid hX
  have HY := Lib.hid hU
  have HNX := Lib.hid (fun i (hi : i < xs.length) => h.nat hi)
  have HUL := Lib.hid hul
  clear hX hU h hul
  have a3 := (b0.alloc (.cells #[] 2)).alloc (.cells #[.int .i64 m, .slice (some ⟨((w.alloc (.cells #[.int .i64 m, .slice U us.length c1] 38)).alloc (.cells #[.int .i64 0, .slice none 0 0] 38)).heap.size, 0, none⟩) 0 0] 38)
  have a4 := (b1.alloc (.cells #[] 2)).alloc (.cells #[.int .i64 m, .slice (some ⟨((w.alloc (.cells #[.int .i64 m, .slice U us.length c1] 38)).alloc (.cells #[.int .i64 0, .slice none 0 0] 38)).heap.size, 0, none⟩) 0 0] 38)
  have a5 := Has.newAt (w := ((w.alloc (.cells #[.int .i64 m, .slice U us.length c1] 38)).alloc (.cells #[.int .i64 0, .slice none 0 0] 38)).alloc (.cells #[] 2)) (e := 38) (cs := #[.int .i64 m, .slice (some ⟨((w.alloc (.cells #[.int .i64 m, .slice U us.length c1] 38)).alloc (.cells #[.int .i64 0, .slice none 0 0] 38)).heap.size, 0, none⟩) 0 0]) (k := ((w.alloc (.cells #[.int .i64 m, .slice U us.length c1] 38)).alloc (.cells #[.int .i64 0, .slice none 0 0] 38)).heap.size + 1) (by simp)
  have g0 := (GrowI.empty (lo := w.heap.size) ((w.alloc (.cells #[.int .i64 m, .slice U us.length c1] 38)).alloc (.cells #[.int .i64 0, .slice none 0 0] 38)) e0.size).ex (Ex.new _ (.cells #[.int .i64 m, .slice (some ⟨((w.alloc (.cells #[.int .i64 m, .slice U us.length c1] 38)).alloc (.cells #[.int .i64 0, .slice none 0 0] 38)).heap.size, 0, none⟩) 0 0] 38))
  have e4 := (e0.alloc (.cells #[] 2)).alloc (.cells #[.int .i64 m, .slice (some ⟨((w.alloc (.cells #[.int .i64 m, .slice U us.length c1] 38)).alloc (.cells #[.int .i64 0, .slice none 0 0] 38)).heap.size, 0, none⟩) 0 0] 38)
  have hz4 := b1.lt
  have c3 := b0.cell 0
  obtain ⟨D, hD⟩ : ∃ D, w.heap.size + 1 + 1 = D := ⟨_, rfl⟩
  have hS : ((w.alloc (.cells #[.int .i64 m, .slice U us.length c1] 38)).alloc (.cells #[.int .i64 0, .slice none 0 0] 38)).heap.size = D := by simp [← hD]
  clear b0 b1 e0
  go_enter Tryz.func55, Tryz.ntmps55
  go_wp2_with fail
  rw [hS] at a3 a4 a5 g0 e4 hz4
  generalize (((w.alloc (.cells #[.int .i64 m, .slice U us.length c1] 38)).alloc (.cells #[.int .i64 0, .slice none 0 0] 38)).alloc (.cells #[] 2)).alloc (.cells #[.int .i64 m, .slice (some ⟨D, 0, none⟩) 0 0] 38) = W5 at *
  have HB3' := Lib.hid a3
  have HB4' := Lib.hid a4
  have HB5 := Lib.hid a5
  have HG0 := Lib.hid g0
  have HE0 := Lib.hid e4
  clear a3 a4 a5 g0 e4 c3 hD hS
  go_loopw [6] (fun i wr => ∃ (k : Nat) (v : Value), k ≤ xs.length ∧ i = .int .i64 (k : Int) ∧ Hid (Ex w wr) ∧ Hid (Has wr w.heap.size 38 #[.int .i64 m, .slice U us.length c1]) ∧ Hid (Has wr (w.heap.size + 1) 38 #[.int .i64 0, .slice none 0 0]) ∧
    Hid (Has wr (D + 1) 38 #[.int .i64 m, v]) ∧ Hid (GrowI wr w.heap.size v k ((List.range k).map fun i => nth us (xN xs i)))) (fun i _ => xs.length - (intOf i).toNat)
  case atStart => exact ⟨0, _, Nat.zero_le _, rfl, HE0, HB3', HB4', HB5, HG0⟩
  case round =>
    obtain ⟨k, v, hk, rfl, HE, HA3, HA4, HA5, HG⟩ := hrel
    have c3' := HA3.out.cell 1
    have c5 := HA5.out.cell 0
    have c5' := HA5.out.cell 1
    by_cases hlt : k < xs.length
    · obtain ⟨bx, ox, rfl, hbx, hcx⟩ := HX.out.ints.at_ hlt
      obtain ⟨hnx, hqt⟩ := HNX.out k hlt
      rw [hnx] at hcx
      obtain ⟨q, hqe⟩ : ∃ q, xN xs k = q := ⟨_, rfl⟩
      rw [hqe] at hcx hqt
      have hq3 : q < us.length := by rw [HUL.out]; exact hqt
      obtain ⟨by_, oy, rfl, hby, hcy⟩ := HY.out.ints.at_ hq3
      obtain ⟨z, hz'⟩ : ∃ z, nth us q = z := ⟨_, rfl⟩
      rw [hz'] at hcy
      have HQ3 : Hid (nth us (xN xs k) = z) := Lib.hid (by rw [hqe]; exact hz')
      clear hnx hqt hqe hz'
      have hi0' : (0 : Int) ≤ (k : Int) := by omega
      have hin : (k : Int) < (xs.length : Int) := by omega
      have hi0q : (0 : Int) ≤ (q : Int) := by omega
      have hinq : (q : Int) < (us.length : Int) := by omega
      have HCX := Lib.hid hcx
      have HCY := Lib.hid hcy
      have hxc : wr.cell? ⟨bx, ox + k, none⟩ = some (.int .i64 (q : Int)) := (HE.out.below.cell (p := ⟨bx, ox + k, none⟩) hbx).trans hcx
      have hyc : wr.cell? ⟨by_, oy + q, none⟩ = some (.int .i64 z) := (HE.out.below.cell (p := ⟨by_, oy + q, none⟩) hby).trans hcy
      clear hcx hcy
      go_wp2_with fail
      refine Late.region (C := fun w' => w'.cell? ⟨D + 1, 1, none⟩ = some v ∧ w'.cell? ⟨w.heap.size, 1, none⟩ = some (.slice (some ⟨by_, oy, none⟩) us.length c1) ∧ w'.cell? ⟨bx, ox + k, none⟩ = some (.int .i64 (q : Int)) ∧ w'.cell? ⟨by_, oy + q, none⟩ = some (.int .i64 z)) (fun j => decide (j < 12)) (by kernel_rfl) ⟨c5', c3', hxc, hyc⟩ (fun hC => ?_)
      refine Late.take (i := 0) (oi := _) (v := ?_) rfl (by kernel_rfl) (by kernel_rfl) (by kernel_rfl) (by kernel_rfl) (fun _ _ _ h => h) (Or.inl ⟨by rfl, ?_⟩) hC ?_
      rotate_left
      · (intro w hSw; (try dsimp only at hSw); go_simp; first | done | with_reducible rfl)
      simp only [Act.put]
      refine Late.take (i := 1) (oi := _) (v := ?_) rfl (by kernel_rfl) (by kernel_rfl) (by kernel_rfl) (by kernel_rfl) (fun _ _ _ h => h) (Or.inl ⟨by rfl, ?_⟩) hC ?_
      rotate_left
      · (intro w hSw; (try dsimp only at hSw); go_simp; first | done | with_reducible rfl)
      simp only [Act.put]
      refine Late.take (i := 2) (oi := _) (v := ?_) rfl (by kernel_rfl) (by kernel_rfl) (by kernel_rfl) (by kernel_rfl) (fun _ _ _ h => h) (Or.inl ⟨by rfl, ?_⟩) hC ?_
      rotate_left
      · (intro w hSw; (try dsimp only at hSw); go_simp; first | done | with_reducible rfl)
      simp only [Act.put]
      refine Late.take (i := 3) (oi := _) (v := ?_) rfl (by kernel_rfl) (by kernel_rfl) (by kernel_rfl) (by kernel_rfl) (fun _ _ _ h => h) (Or.inl ⟨by rfl, ?_⟩) hC ?_
      rotate_left
      · (intro w hSw; (try dsimp only at hSw); go_simp; first | done | with_reducible rfl)
      simp only [Act.put]
      refine Late.take (i := 4) (oi := _) (v := ?_) rfl (by kernel_rfl) (by kernel_rfl) (by kernel_rfl) (by kernel_rfl) (fun _ _ _ h => h) (Or.inl ⟨by rfl, ?_⟩) hC ?_
      rotate_left
      · (intro w hSw; (try dsimp only at hSw); go_simp; first | done | with_reducible rfl)
      simp only [Act.put]
      refine Late.take (i := 5) (oi := _) (v := ?_) rfl (by kernel_rfl) (by kernel_rfl) (by kernel_rfl) (by kernel_rfl) (fun _ _ _ h => h) (Or.inl ⟨by rfl, ?_⟩) hC ?_
      rotate_left
      · (intro w hSw; (try dsimp only at hSw); go_simp; first | done | with_reducible rfl)
      simp only [Act.put]
      refine Late.take (i := 6) (oi := _) (v := ?_) rfl (by kernel_rfl) (by kernel_rfl) (by kernel_rfl) (by kernel_rfl) (fun _ _ _ h => h) (Or.inl ⟨by rfl, ?_⟩) hC ?_
      rotate_left
      · (intro w hSw; (try dsimp only at hSw); go_simp; first | done | with_reducible rfl)
      simp only [Act.put]
      refine Late.take (i := 7) (oi := _) (v := ?_) rfl (by kernel_rfl) (by kernel_rfl) (by kernel_rfl) (by kernel_rfl) (fun _ _ _ h => h) (Or.inl ⟨by rfl, ?_⟩) hC ?_
      rotate_left
      · (intro w hSw; (try dsimp only at hSw); go_simp; first | done | with_reducible rfl)
      simp only [Act.put]
      refine Late.take (i := 8) (oi := _) (v := ?_) rfl (by kernel_rfl) (by kernel_rfl) (by kernel_rfl) (by kernel_rfl) (fun _ _ _ h => h) (Or.inl ⟨by rfl, ?_⟩) hC ?_
      rotate_left
      · (intro w hSw; (try dsimp only at hSw); go_simp; first | done | with_reducible rfl)
      simp only [Act.put]
      refine Late.take (i := 9) (oi := _) (v := ?_) rfl (by kernel_rfl) (by kernel_rfl) (by kernel_rfl) (by kernel_rfl) (fun _ _ _ h => h) (Or.inl ⟨by rfl, ?_⟩) hC ?_
      rotate_left
      · (intro w hSw; (try dsimp only at hSw); go_simp; first | done | with_reducible rfl)
      simp only [Act.put]
      have HE := Lib.hid HE.out.drew
      have HA3 : Hid (Has wr.drew w.heap.size 38 #[.int .i64 m, .slice (some ⟨by_, oy, none⟩) us.length c1]) := HA3
      have HA4 : Hid (Has wr.drew (w.heap.size + 1) 38 #[.int .i64 0, .slice none 0 0]) := HA4
      have HA5 : Hid (Has wr.drew (D + 1) 38 #[.int .i64 m, v]) := HA5
      have HG := Lib.hid (HG.out.ex (Ex.refl wr).drew)
      have hxc : wr.drew.cell? ⟨bx, ox + k, none⟩ = some (.int .i64 (q : Int)) := hxc
      have hyc : wr.drew.cell? ⟨by_, oy + q, none⟩ = some (.int .i64 z) := hyc
      clear c3' c5 c5'
      generalize wr.drew = X at *
      refine Late.one (i := 10) (o := _) (by kernel_rfl) rfl (fun K' hK' => ?_)
      go_simp
      have e1 := HE.out.alloc (.cells #[.int .i64 z] 2)
      have HA31 := HA3.out.alloc (.cells #[.int .i64 z] 2)
      have HA41 := HA4.out.alloc (.cells #[.int .i64 z] 2)
      have HA51 := HA5.out.alloc (.cells #[.int .i64 z] 2)
      have g1 := HG.out.ex (Ex.new X (.cells #[.int .i64 z] 2))
      have hn1 := cell_one_new X (.int .i64 z) 2
      have hz1 : X.heap.size + 1 = (X.alloc (.cells #[.int .i64 z] 2)).heap.size := by simp
      have hx1 := Ex.new X (.cells #[.int .i64 z] 2)
      refine hK'.out _ _ (fun _ => ⟨HA51.cell 1, HA31.cell 1, (hx1.below.cell (p := ⟨bx, ox + k, none⟩) (by have := HE.out.size; show bx < _; omega)).trans hxc, (hx1.below.cell (p := ⟨by_, oy + q, none⟩) (by have := HE.out.size; show by_ < _; omega)).trans hyc⟩) (fun _ => ?_)
      clear hK' K'
      generalize X.alloc (.cells #[.int .i64 z] 2) = w1 at *
      try simp only [Act.put]
      refine Late.one (i := 11) (o := _) (by kernel_rfl) rfl (fun K' hK' => ?_)
      rw [if_pos (by rfl)]
      refine wp_append_own _ _ _ 25 rfl w.heap.size 2 i0 (.int .i64 0) 1 8 Tryz.underlying25 hi hi0 hi1 hi2 rfl (by decide) _ _ _ rfl g1.1 ⟨X.heap.size, 0, none⟩ 1 1 [.int .i64 z] rfl rfl hn1 (by simp [Value.oneCell']) (by unfold maxLen; omega) (by omega) (by have := e1.size; omega) ?_
      intro v' w3 hown3 hgrow3 _
      obtain ⟨g3, cap3, rfl⟩ := ownsRow_succ hown3
      have HE3 := Lib.hid (Ex.grew e1 g1 (Nat.le_refl _) hgrow3)
      have HA33 := Lib.hid (Has.grew HA31 (by decide) g1 hgrow3)
      have HA43 := Lib.hid (Has.grew HA41 (by decide) g1 hgrow3)
      have HA53 := Lib.hid (Has.grew HA51 (by decide) g1 hgrow3)
      have HG3 := Lib.hid (g1.snoc hown3)
      have c33 := HA53.out.cell 1
      have f33 := HA53.out.free 1
      refine hK'.out _ _ (fun _ => ⟨HA53.out.cell 1, HA33.out.cell 1, (HE3.out.below.cell (p := ⟨bx, ox + k, none⟩) hbx).trans HCX.out, (HE3.out.below.cell (p := ⟨by_, oy + q, none⟩) hby).trans HCY.out⟩) (fun _ => ?_)
      clear hK' K' hown3 hgrow3 g1 e1 hn1 hx1 HA31 HA41 HA51
      try simp only [Act.put]
      refine Late.one (i := 12) (o := _) (by kernel_rfl) rfl (fun K' hK' => ?_)
      go_simp
      refine hK'.out _ _ (fun h => by cases h) (fun _ => ?_)
      clear hK' K'
      try simp only [Act.put]
      refine Late.one (i := 13) (o := _) (by kernel_rfl) rfl (fun K' hK' => ?_)
      go_simp
      refine hK'.out _ _ (fun h => by cases h) (fun _ => ?_)
      clear hK' K'
      try simp only [Act.put]
      refine Late.done (by kernel_rfl) ?_ _
      go_wp2_with fail
      go_roundw
      case rel =>
        have hDw : w.heap.size ≤ D := by omega
        refine ⟨k + 1, _, by omega, by go_num, Lib.hid (HE3.out.setCell (by show w.heap.size ≤ D + 1; omega) _), Lib.hid (HA33.out.far (by show w.heap.size ≠ D + 1; omega) _), Lib.hid (HA43.out.far (by show w.heap.size + 1 ≠ D + 1; omega) _), Lib.hid (by simpa using HA53.out.put 1 _), Lib.hid ?_⟩
        rw [List.range_succ, List.map_append, List.map_cons, List.map_nil, HQ3.out]
        exact HG3.out.set HA53.out (by decide) _ _
      case measure => simp [intOf]; omega
    · obtain rfl : k = xs.length := by omega
      obtain ⟨A', n', rfl, hO⟩ := HG.out.own
      have f4 := HA4.out.free 0
      have f4' := HA4.out.free 1
      have c4 := HA4.out.cell 0
      have c4' := HA4.out.cell 1
      rw [List.length_map, List.length_range] at c5'
      clear hO
      go_wp2_with fail
      have H4 := HA4.out.put2 (u := .int .i64 m) (v := .slice A' xs.length n')
      have c4 := H4.cell 0
      have c4' := H4.cell 1
      refine bodyPost_ret (v := .agg #[.int .i64 m, .slice A' xs.length n']) (by simp [results, Tryz.results55, go_sem, c4, c4']) rfl ⟨A', n', rfl, (HE.out.setCell (by show w.heap.size ≤ w.heap.size + 1; omega) _).setCell (by show w.heap.size ≤ w.heap.size + 1; omega) _, ?_⟩
      obtain ⟨A2, n2, e2, hO⟩ := ((HG.out.set HA4.out (by decide) 0 (.int .i64 m)).set (HA4.out.put 0 (.int .i64 m)) (by decide) 1 (.slice A' xs.length n')).own
      simp only [Value.slice.injEq] at e2
      obtain ⟨rfl, _, rfl⟩ := e2
      exact hO

end Go.Proofs.YtfnjpbjlikajbaaGreatDoor
