/- Ur Us Oa in one text. -/
import Derived.Test.YtcdijeeabgmgmaaGreatDoorInc
import Derived.Test.YtcdijeeabgmgmaaGreatDoorFif
import Derived.Test.YtcdijeeabgmgmaaGreatDoorRq
import Derived.Test.YtcdijeeabgmgmaaGreatDoorUn
import Derived.Test.YtcdijeeabgmgmaaGreatDoorUd
import Derived.Test.YtcdijeeabgmgmaaGreatDoorUi
import Derived.Test.YtcdijeeabgmgmaaGreatDoorRdc
/- ModuleOfSubgroup: the model, and the specification's contract. -/
namespace Go.Proofs.YtcdijeeabgmgmaaGreatDoor
open Go.RowKit

noncomputable def mgC (t : List (List Int)) (m : Int) (us xs : List Int) : Int := if gmB t m us = true then sgC t xs [] else 1
/-- The units of the subgroup's elements. -/
def mgL (us xs : List Int) : List Int := (List.range xs.length).map fun i => nth us (xN xs i)
noncomputable def qModuleOfSubgroup0 (t : List (List Int)) (m : Int) (us xs : List Int) : Int := if mgC t m us xs = 0 then m else 0
noncomputable def yModuleOfSubgroup0 (t : List (List Int)) (m : Int) (us xs : List Int) : List Int := if mgC t m us xs = 0 then mgL us xs else []
noncomputable def qModuleOfSubgroup1 (t : List (List Int)) (m : Int) (us xs : List Int) : Int := mgC t m us xs
section
variable {t : List (List Int)} {m : Int} {us xs : List Int}
theorem mgL_len : (mgL us xs).length = xs.length := by simp [mgL]
theorem mgs_no {z : Int} (h : mgC t m us xs = z) (hz : z ≠ 0) : qModuleOfSubgroup0 t m us xs = 0 ∧ yModuleOfSubgroup0 t m us xs = [] ∧ qModuleOfSubgroup1 t m us xs = z := by simp [qModuleOfSubgroup0, yModuleOfSubgroup0, qModuleOfSubgroup1, h, hz]
theorem mgs_yes (h : mgC t m us xs = 0) : qModuleOfSubgroup0 t m us xs = m ∧ yModuleOfSubgroup0 t m us xs = mgL us xs ∧ qModuleOfSubgroup1 t m us xs = 0 := by simp [qModuleOfSubgroup0, yModuleOfSubgroup0, qModuleOfSubgroup1, h]
theorem mgC_zero (h : mgC t m us xs = 0) : SubX t xs ∧ us.length = t.length := by
  unfold mgC at h
  split at h
  · rename_i hg
    obtain ⟨M, _, hF⟩ := gmB_f hg
    exact ⟨subX_code h, hF.len⟩
  · cases h
theorem mgC_not (h : grpB t = false) : mgC t m us xs = 1 := by simp [mgC, gmB, h]
theorem mgC_notm (h : modB t m us = false) : mgC t m us xs = 1 := by simp [mgC, gmB, h]
theorem mgC_sub (h : grpB t = true) (hm : modB t m us = true) : mgC t m us xs = sgC t xs [] := by simp [mgC, gmB, h, hm]
theorem moduleOfSubgroup_small0 (t : List (List Int)) (m : Int) (us xs : List Int) : (yModuleOfSubgroup0 t m us xs).length ≤ 1048576 := by
  unfold yModuleOfSubgroup0
  split
  · rename_i h
    have := (mgC_zero h).1.len8
    rw [mgL_len]
    omega
  · simp
end

/-- What is asked of the end of ModuleOfSubgroup. -/
def MgS (t : List (List Int)) (m : Int) (us xs : List Int) (W : World) (e : Ending) (W' : World) : Prop := ∃ (C0 : Option Addr) (e0 : Nat), e = .returned (.tuple #[.agg #[.int .i64 (qModuleOfSubgroup0 t m us xs), .slice C0 (yModuleOfSubgroup0 t m us xs).length e0], .int .i64 (qModuleOfSubgroup1 t m us xs)]) ∧ Ex W W' ∧ OwnL W' W.heap.size W'.heap.size C0 (yModuleOfSubgroup0 t m us xs)
theorem MgS.err {t : List (List Int)} {m : Int} {us xs : List Int} {W W' : World} {e : Ending} {c : Int} (h : qModuleOfSubgroup0 t m us xs = 0 ∧ yModuleOfSubgroup0 t m us xs = [] ∧ qModuleOfSubgroup1 t m us xs = c) (he : e = .returned (.tuple #[.agg #[.int .i64 0, .slice none 0 0], .int .i64 c])) (hx : Ex W W') : MgS t m us xs W e W' :=
  ⟨none, 0, by rw [he, h.1, h.2.1, h.2.2]; rfl, hx, by rw [h.2.1]; exact OwnL.nil _ _ _ (Nat.le_refl _)⟩
theorem MgS.of {t : List (List Int)} {m : Int} {us xs : List Int} {W W' : World} {e : Ending} {ys : List Int} {C0 : Option Addr} {e0 : Nat} (h : qModuleOfSubgroup0 t m us xs = m ∧ yModuleOfSubgroup0 t m us xs = ys ∧ qModuleOfSubgroup1 t m us xs = 0) (he : e = .returned (.tuple #[.agg #[.int .i64 m, .slice C0 ys.length e0], .int .i64 0])) (hx : Ex W W') (h0 : OwnL W' W.heap.size W'.heap.size C0 ys) : MgS t m us xs W e W' :=
  ⟨C0, e0, by rw [he, h.1, h.2.1, h.2.2], hx, by rw [h.2.1]; exact h0⟩

set_option maxRecDepth 100000 in
set_option maxHeartbeats 2000000 in
theorem l07Given_any (A U L : Option Addr) (t : List (List Int)) (m : Int) (us xs : List Int) (c c1 c2 : Nat) (w : World) (hR : RwsW w A t) (hU : IntsW w U us) (hX : IntsW w L xs) (hs : SmallT t) (hu : us.length ≤ 1048576) (hx : xs.length ≤ 1048576) :
    Calls Tryz.prog 47 #[.agg #[.slice A t.length c], .agg #[.int .i64 m, .slice U us.length c1], .slice L xs.length c2] w fun e w' => e = .returned (.int .i64 (mgC t m us xs)) ∧ Ex w w' := by
  have e0 : Ex w ((w.alloc (.cells #[.slice A t.length c] 32)).alloc (.cells #[.int .i64 m, .slice U us.length c1] 52)) := ((Ex.refl w).alloc _).alloc _
  have b0 : Has ((w.alloc (.cells #[.slice A t.length c] 32)).alloc (.cells #[.int .i64 m, .slice U us.length c1] 52)) (w.heap.size) 32 #[.slice A t.length c] := ((Has.newAt (w := w) (e := 32) (cs := #[.slice A t.length c]) (k := w.heap.size) (by simp)).alloc _)
  have b1 : Has ((w.alloc (.cells #[.slice A t.length c] 32)).alloc (.cells #[.int .i64 m, .slice U us.length c1] 52)) (w.heap.size + 1) 52 #[.int .i64 m, .slice U us.length c1] := (Has.newAt (w := (w.alloc (.cells #[.slice A t.length c] 32))) (e := 52) (cs := #[.int .i64 m, .slice U us.length c1]) (k := w.heap.size + 1) (by simp))
  have HC := Lib.hid (l01Is_ex A t c _ (hR.ex e0) hs)
  cases hg : grpB t with
  | false =>
    rw [hg] at HC
    have HQ := Lib.hid (mgC_not (m := m) (us := us) (xs := xs) hg)
    clear hg hR hU hX hs hu hx
    go_enter Tryz.func47, Tryz.ntmps47
    go_wp2_with fail
    generalize ((w.alloc (.cells #[.slice A t.length c] 32)).alloc (.cells #[.int .i64 m, .slice U us.length c1] 52)) = W0 at *
    refine HC.out.mono ?_
    rintro e W1 ⟨rfl, he1⟩
    have HE1 := Lib.hid (e0.trans he1)
    clear b0 b1 e0 he1
    go_wp2_with fail
    go_ret
    exact ⟨by rw [HQ.out]; rfl, HE1.out⟩
  | true =>
    rw [hg] at HC
    have hgr := grpB_iff.1 hg
    have HM := Lib.hid (fun W (he : Ex w W) => l02Is_ex A U t m us c c1 W (hR.ex he) (hU.ex he) hgr hu)
    cases hm : modB t m us with
    | false =>
      rw [hm] at HM
      have HQ := Lib.hid (mgC_notm (t := t) (xs := xs) hm)
      clear hg hgr hm hR hU hX hs hu hx
      go_enter Tryz.func47, Tryz.ntmps47
      go_wp2_with fail
      generalize ((w.alloc (.cells #[.slice A t.length c] 32)).alloc (.cells #[.int .i64 m, .slice U us.length c1] 52)) = W0 at *
      refine HC.out.mono ?_
      rintro e W1 ⟨rfl, he1⟩
      have HE1 := Lib.hid (e0.trans he1)
      have c0 := (b0.ex he1).cell 0
      have c1 := (b1.ex he1).cell 0
      have c1' := (b1.ex he1).cell 1
      clear b0 b1 e0 he1
      go_wp2_with fail
      refine (HM.out W1 HE1.out).mono ?_
      rintro e W2 ⟨rfl, he2⟩
      have HE2 := Lib.hid (HE1.out.trans he2)
      clear he2 c0 c1 c1'
      go_wp2_with fail
      go_ret
      exact ⟨by rw [HQ.out]; rfl, HE2.out⟩
    | true =>
      rw [hm] at HM
      have HQ := Lib.hid (mgC_sub (xs := xs) hg hm)
      have HK := Lib.hid (fun W (he : Ex w W) => l07Code_any A L t xs c c2 W (hR.ex he) (hX.ex he) hs hx)
      obtain ⟨q, hq⟩ : ∃ q, sgC t xs [] = q := ⟨_, rfl⟩
      rw [hq] at HQ HK
      clear hg hgr hm hR hU hX hs hu hx hq
      go_enter Tryz.func47, Tryz.ntmps47
      go_wp2_with fail
      generalize ((w.alloc (.cells #[.slice A t.length c] 32)).alloc (.cells #[.int .i64 m, .slice U us.length c1] 52)) = W0 at *
      refine HC.out.mono ?_
      rintro e W1 ⟨rfl, he1⟩
      have HE1 := Lib.hid (e0.trans he1)
      have HB0 := Lib.hid (b0.ex he1)
      have c0 := HB0.out.cell 0
      have c1 := (b1.ex he1).cell 0
      have c1' := (b1.ex he1).cell 1
      clear b0 b1 e0 he1
      go_wp2_with fail
      refine (HM.out W1 HE1.out).mono ?_
      rintro e W2 ⟨rfl, he2⟩
      have HE2 := Lib.hid (HE1.out.trans he2)
      have c0' := (HB0.out.ex he2).cell 0
      clear he2 c0 c1 c1'
      go_wp2_with fail
      refine (HK.out W2 HE2.out).mono ?_
      rintro e W3 ⟨rfl, he3⟩
      have HE3 := Lib.hid (HE2.out.trans he3)
      clear he3 c0'
      go_wp2_with fail
      go_ret
      exact ⟨by rw [HQ.out]; rfl, HE3.out⟩

set_option maxRecDepth 100000 in
set_option maxHeartbeats 8000000 in
theorem l07Module_any (U L : Option Addr) (t : List (List Int)) (m : Int) (us xs : List Int) (c1 c2 : Nat) (w : World) (hU : IntsW w U us) (hX : IntsW w L xs) (h : SubX t xs) (hul : us.length = t.length) :
    Calls Tryz.prog 49 #[.agg #[.int .i64 m, .slice U us.length c1], .slice L xs.length c2] w fun e w' => ∃ C0 n0, e = .returned (.agg #[.int .i64 m, .slice C0 xs.length n0]) ∧ Ex w w' ∧ OwnL w' w.heap.size w'.heap.size C0 (mgL us xs) := by
  obtain ⟨i0, hi, hi0, hi1, hi2⟩ := info_parts infoI
  have e0 : Ex w ((w.alloc (.cells #[.int .i64 m, .slice U us.length c1] 52)).alloc (.cells #[.int .i64 0, .slice none 0 0] 52)) := ((Ex.refl w).alloc _).alloc _
  have b0 : Has ((w.alloc (.cells #[.int .i64 m, .slice U us.length c1] 52)).alloc (.cells #[.int .i64 0, .slice none 0 0] 52)) (w.heap.size) 52 #[.int .i64 m, .slice U us.length c1] := ((Has.newAt (w := w) (e := 52) (cs := #[.int .i64 m, .slice U us.length c1]) (k := w.heap.size) (by simp)).alloc _)
  have b1 : Has ((w.alloc (.cells #[.int .i64 m, .slice U us.length c1] 52)).alloc (.cells #[.int .i64 0, .slice none 0 0] 52)) (w.heap.size + 1) 52 #[.int .i64 0, .slice none 0 0] := (Has.newAt (w := (w.alloc (.cells #[.int .i64 m, .slice U us.length c1] 52))) (e := 52) (cs := #[.int .i64 0, .slice none 0 0]) (k := w.heap.size + 1) (by simp))
  have hl8 := h.len8
  have hu8 : us.length ≤ 8 := by rw [hul]; exact h.g.n8
  have HX := Lib.hid hX
  have HY := Lib.hid hU
  have HNX := Lib.hid (fun i (hi : i < xs.length) => h.nat hi)
  have HUL := Lib.hid hul
  clear hX hU h hul
  have a3 := (b0.alloc (.cells #[] 2)).alloc (.cells #[.int .i64 m, .slice (some ⟨((w.alloc (.cells #[.int .i64 m, .slice U us.length c1] 52)).alloc (.cells #[.int .i64 0, .slice none 0 0] 52)).heap.size, 0, none⟩) 0 0] 52)
  have a4 := (b1.alloc (.cells #[] 2)).alloc (.cells #[.int .i64 m, .slice (some ⟨((w.alloc (.cells #[.int .i64 m, .slice U us.length c1] 52)).alloc (.cells #[.int .i64 0, .slice none 0 0] 52)).heap.size, 0, none⟩) 0 0] 52)
  have a5 := Has.newAt (w := ((w.alloc (.cells #[.int .i64 m, .slice U us.length c1] 52)).alloc (.cells #[.int .i64 0, .slice none 0 0] 52)).alloc (.cells #[] 2)) (e := 52) (cs := #[.int .i64 m, .slice (some ⟨((w.alloc (.cells #[.int .i64 m, .slice U us.length c1] 52)).alloc (.cells #[.int .i64 0, .slice none 0 0] 52)).heap.size, 0, none⟩) 0 0]) (k := ((w.alloc (.cells #[.int .i64 m, .slice U us.length c1] 52)).alloc (.cells #[.int .i64 0, .slice none 0 0] 52)).heap.size + 1) (by simp)
  have g0 := (GrowI.empty (lo := w.heap.size) ((w.alloc (.cells #[.int .i64 m, .slice U us.length c1] 52)).alloc (.cells #[.int .i64 0, .slice none 0 0] 52)) e0.size).ex (Ex.new _ (.cells #[.int .i64 m, .slice (some ⟨((w.alloc (.cells #[.int .i64 m, .slice U us.length c1] 52)).alloc (.cells #[.int .i64 0, .slice none 0 0] 52)).heap.size, 0, none⟩) 0 0] 52))
  have e4 := (e0.alloc (.cells #[] 2)).alloc (.cells #[.int .i64 m, .slice (some ⟨((w.alloc (.cells #[.int .i64 m, .slice U us.length c1] 52)).alloc (.cells #[.int .i64 0, .slice none 0 0] 52)).heap.size, 0, none⟩) 0 0] 52)
  have hz4 := b1.lt
  have c3 := b0.cell 0
  obtain ⟨D, hD⟩ : ∃ D, w.heap.size + 1 + 1 = D := ⟨_, rfl⟩
  have hS : ((w.alloc (.cells #[.int .i64 m, .slice U us.length c1] 52)).alloc (.cells #[.int .i64 0, .slice none 0 0] 52)).heap.size = D := by simp [← hD]
  clear b0 b1 e0
  go_enter Tryz.func49, Tryz.ntmps49
  go_wp2_with fail
  rw [hS] at a3 a4 a5 g0 e4 hz4
  generalize (((w.alloc (.cells #[.int .i64 m, .slice U us.length c1] 52)).alloc (.cells #[.int .i64 0, .slice none 0 0] 52)).alloc (.cells #[] 2)).alloc (.cells #[.int .i64 m, .slice (some ⟨D, 0, none⟩) 0 0] 52) = W5 at *
  have HB3' := Lib.hid a3
  have HB4' := Lib.hid a4
  have HB5 := Lib.hid a5
  have HG0 := Lib.hid g0
  have HE0 := Lib.hid e4
  clear a3 a4 a5 g0 e4 c3 hD hS
  go_loopw [6] (fun i wr => ∃ (k : Nat) (v : Value), k ≤ xs.length ∧ i = .int .i64 (k : Int) ∧ Hid (Ex w wr) ∧ Hid (Has wr w.heap.size 52 #[.int .i64 m, .slice U us.length c1]) ∧ Hid (Has wr (w.heap.size + 1) 52 #[.int .i64 0, .slice none 0 0]) ∧
    Hid (Has wr (D + 1) 52 #[.int .i64 m, v]) ∧ Hid (GrowI wr w.heap.size v k ((List.range k).map fun i => nth us (xN xs i)))) (fun i _ => xs.length - (intOf i).toNat)
  case atStart => exact ⟨0, _, Nat.zero_le _, rfl, HE0, HB3', HB4', HB5, HG0⟩
  case round =>
    obtain ⟨k, v, hk, rfl, HE, HA3, HA4, HA5, HG⟩ := hrel
    have c3' := HA3.out.cell 1
    have c5 := HA5.out.cell 0
    have c5' := HA5.out.cell 1
    by_cases hlt : k < xs.length
    · obtain ⟨bx, ox, rfl, hbx, hcx⟩ := HX.out.ints.at_ hlt
      obtain ⟨hnx, hqt⟩ := HNX.out k hlt
      rw [hnx] at hcx
      obtain ⟨q, hqe⟩ : ∃ q, xN xs k = q := ⟨_, rfl⟩
      rw [hqe] at hcx hqt
      have hq3 : q < us.length := by rw [HUL.out]; exact hqt
      obtain ⟨by_, oy, rfl, hby, hcy⟩ := HY.out.ints.at_ hq3
      obtain ⟨z, hz'⟩ : ∃ z, nth us q = z := ⟨_, rfl⟩
      rw [hz'] at hcy
      have HQ3 : Hid (nth us (xN xs k) = z) := Lib.hid (by rw [hqe]; exact hz')
      clear hnx hqt hqe hz'
      have hi0' : (0 : Int) ≤ (k : Int) := by omega
      have hin : (k : Int) < (xs.length : Int) := by omega
      have hi0q : (0 : Int) ≤ (q : Int) := by omega
      have hinq : (q : Int) < (us.length : Int) := by omega
      have HCX := Lib.hid hcx
      have HCY := Lib.hid hcy
      have hxc : wr.cell? ⟨bx, ox + k, none⟩ = some (.int .i64 (q : Int)) := (HE.out.below.cell (p := ⟨bx, ox + k, none⟩) hbx).trans hcx
      have hyc : wr.cell? ⟨by_, oy + q, none⟩ = some (.int .i64 z) := (HE.out.below.cell (p := ⟨by_, oy + q, none⟩) hby).trans hcy
      clear hcx hcy
      go_wp2_with fail
      refine Late.region (C := fun w' => w'.cell? ⟨D + 1, 1, none⟩ = some v ∧ w'.cell? ⟨w.heap.size, 1, none⟩ = some (.slice (some ⟨by_, oy, none⟩) us.length c1) ∧ w'.cell? ⟨bx, ox + k, none⟩ = some (.int .i64 (q : Int)) ∧ w'.cell? ⟨by_, oy + q, none⟩ = some (.int .i64 z)) (fun j => decide (j < 12)) (by kernel_rfl) ⟨c5', c3', hxc, hyc⟩ (fun hC => ?_)
      refine Late.take (i := 0) (oi := _) (v := ?_) rfl (by kernel_rfl) (by kernel_rfl) (by kernel_rfl) (by kernel_rfl) (fun _ _ _ h => h) (Or.inl ⟨by rfl, ?_⟩) hC ?_
      rotate_left
      · (intro w hSw; (try dsimp only at hSw); go_simp; first | done | with_reducible rfl)
      simp only [Act.put]
      refine Late.take (i := 1) (oi := _) (v := ?_) rfl (by kernel_rfl) (by kernel_rfl) (by kernel_rfl) (by kernel_rfl) (fun _ _ _ h => h) (Or.inl ⟨by rfl, ?_⟩) hC ?_
      rotate_left
      · (intro w hSw; (try dsimp only at hSw); go_simp; first | done | with_reducible rfl)
      simp only [Act.put]
      refine Late.take (i := 2) (oi := _) (v := ?_) rfl (by kernel_rfl) (by kernel_rfl) (by kernel_rfl) (by kernel_rfl) (fun _ _ _ h => h) (Or.inl ⟨by rfl, ?_⟩) hC ?_
      rotate_left
      · (intro w hSw; (try dsimp only at hSw); go_simp; first | done | with_reducible rfl)
      simp only [Act.put]
      refine Late.take (i := 3) (oi := _) (v := ?_) rfl (by kernel_rfl) (by kernel_rfl) (by kernel_rfl) (by kernel_rfl) (fun _ _ _ h => h) (Or.inl ⟨by rfl, ?_⟩) hC ?_
      rotate_left
      · (intro w hSw; (try dsimp only at hSw); go_simp; first | done | with_reducible rfl)
      simp only [Act.put]
      refine Late.take (i := 4) (oi := _) (v := ?_) rfl (by kernel_rfl) (by kernel_rfl) (by kernel_rfl) (by kernel_rfl) (fun _ _ _ h => h) (Or.inl ⟨by rfl, ?_⟩) hC ?_
      rotate_left
      · (intro w hSw; (try dsimp only at hSw); go_simp; first | done | with_reducible rfl)
      simp only [Act.put]
      refine Late.take (i := 5) (oi := _) (v := ?_) rfl (by kernel_rfl) (by kernel_rfl) (by kernel_rfl) (by kernel_rfl) (fun _ _ _ h => h) (Or.inl ⟨by rfl, ?_⟩) hC ?_
      rotate_left
      · (intro w hSw; (try dsimp only at hSw); go_simp; first | done | with_reducible rfl)
      simp only [Act.put]
      refine Late.take (i := 6) (oi := _) (v := ?_) rfl (by kernel_rfl) (by kernel_rfl) (by kernel_rfl) (by kernel_rfl) (fun _ _ _ h => h) (Or.inl ⟨by rfl, ?_⟩) hC ?_
      rotate_left
      · (intro w hSw; (try dsimp only at hSw); go_simp; first | done | with_reducible rfl)
      simp only [Act.put]
      refine Late.take (i := 7) (oi := _) (v := ?_) rfl (by kernel_rfl) (by kernel_rfl) (by kernel_rfl) (by kernel_rfl) (fun _ _ _ h => h) (Or.inl ⟨by rfl, ?_⟩) hC ?_
      rotate_left
      · (intro w hSw; (try dsimp only at hSw); go_simp; first | done | with_reducible rfl)
      simp only [Act.put]
      refine Late.take (i := 8) (oi := _) (v := ?_) rfl (by kernel_rfl) (by kernel_rfl) (by kernel_rfl) (by kernel_rfl) (fun _ _ _ h => h) (Or.inl ⟨by rfl, ?_⟩) hC ?_
      rotate_left
      · (intro w hSw; (try dsimp only at hSw); go_simp; first | done | with_reducible rfl)
      simp only [Act.put]
      refine Late.take (i := 9) (oi := _) (v := ?_) rfl (by kernel_rfl) (by kernel_rfl) (by kernel_rfl) (by kernel_rfl) (fun _ _ _ h => h) (Or.inl ⟨by rfl, ?_⟩) hC ?_
      rotate_left
      · (intro w hSw; (try dsimp only at hSw); go_simp; first | done | with_reducible rfl)
      simp only [Act.put]
      have HE := Lib.hid HE.out.drew
      have HA3 : Hid (Has wr.drew w.heap.size 52 #[.int .i64 m, .slice (some ⟨by_, oy, none⟩) us.length c1]) := HA3
      have HA4 : Hid (Has wr.drew (w.heap.size + 1) 52 #[.int .i64 0, .slice none 0 0]) := HA4
      have HA5 : Hid (Has wr.drew (D + 1) 52 #[.int .i64 m, v]) := HA5
      have HG := Lib.hid (HG.out.ex (Ex.refl wr).drew)
      have hxc : wr.drew.cell? ⟨bx, ox + k, none⟩ = some (.int .i64 (q : Int)) := hxc
      have hyc : wr.drew.cell? ⟨by_, oy + q, none⟩ = some (.int .i64 z) := hyc
      clear c3' c5 c5'
      generalize wr.drew = X at *
      refine Late.one (i := 10) (o := _) (by kernel_rfl) rfl (fun K' hK' => ?_)
      go_simp
      have e1 := HE.out.alloc (.cells #[.int .i64 z] 2)
      have HA31 := HA3.out.alloc (.cells #[.int .i64 z] 2)
      have HA41 := HA4.out.alloc (.cells #[.int .i64 z] 2)
      have HA51 := HA5.out.alloc (.cells #[.int .i64 z] 2)
      have g1 := HG.out.ex (Ex.new X (.cells #[.int .i64 z] 2))
      have hn1 := cell_one_new X (.int .i64 z) 2
      have hz1 : X.heap.size + 1 = (X.alloc (.cells #[.int .i64 z] 2)).heap.size := by simp
      have hx1 := Ex.new X (.cells #[.int .i64 z] 2)
      refine hK'.out _ _ (fun _ => ⟨HA51.cell 1, HA31.cell 1, (hx1.below.cell (p := ⟨bx, ox + k, none⟩) (by have := HE.out.size; show bx < _; omega)).trans hxc, (hx1.below.cell (p := ⟨by_, oy + q, none⟩) (by have := HE.out.size; show by_ < _; omega)).trans hyc⟩) (fun _ => ?_)
      clear hK' K'
      generalize X.alloc (.cells #[.int .i64 z] 2) = w1 at *
      try simp only [Act.put]
      refine Late.one (i := 11) (o := _) (by kernel_rfl) rfl (fun K' hK' => ?_)
      rw [if_pos (by rfl)]
      refine wp_append_own _ _ _ 25 rfl w.heap.size 2 i0 (.int .i64 0) 1 8 Tryz.underlying25 hi hi0 hi1 hi2 rfl (by decide) _ _ _ rfl g1.1 ⟨X.heap.size, 0, none⟩ 1 1 [.int .i64 z] rfl rfl hn1 (by simp [Value.oneCell']) (by unfold maxLen; omega) (by omega) (by have := e1.size; omega) ?_
      intro v' w3 hown3 hgrow3 _
      obtain ⟨g3, cap3, rfl⟩ := ownsRow_succ hown3
      have HE3 := Lib.hid (Ex.grew e1 g1 (Nat.le_refl _) hgrow3)
      have HA33 := Lib.hid (Has.grew HA31 (by decide) g1 hgrow3)
      have HA43 := Lib.hid (Has.grew HA41 (by decide) g1 hgrow3)
      have HA53 := Lib.hid (Has.grew HA51 (by decide) g1 hgrow3)
      have HG3 := Lib.hid (g1.snoc hown3)
      have c33 := HA53.out.cell 1
      have f33 := HA53.out.free 1
      refine hK'.out _ _ (fun _ => ⟨HA53.out.cell 1, HA33.out.cell 1, (HE3.out.below.cell (p := ⟨bx, ox + k, none⟩) hbx).trans HCX.out, (HE3.out.below.cell (p := ⟨by_, oy + q, none⟩) hby).trans HCY.out⟩) (fun _ => ?_)
      clear hK' K' hown3 hgrow3 g1 e1 hn1 hx1 HA31 HA41 HA51
      try simp only [Act.put]
      refine Late.one (i := 12) (o := _) (by kernel_rfl) rfl (fun K' hK' => ?_)
      go_simp
      refine hK'.out _ _ (fun h => by cases h) (fun _ => ?_)
      clear hK' K'
      try simp only [Act.put]
      refine Late.one (i := 13) (o := _) (by kernel_rfl) rfl (fun K' hK' => ?_)
      go_simp
      refine hK'.out _ _ (fun h => by cases h) (fun _ => ?_)
      clear hK' K'
      try simp only [Act.put]
      refine Late.done (by kernel_rfl) ?_ _
      go_wp2_with fail
      go_roundw
      case rel =>
        have hDw : w.heap.size ≤ D := by omega
        refine ⟨k + 1, _, by omega, by go_num, Lib.hid (HE3.out.setCell (by show w.heap.size ≤ D + 1; omega) _), Lib.hid (HA33.out.far (by show w.heap.size ≠ D + 1; omega) _), Lib.hid (HA43.out.far (by show w.heap.size + 1 ≠ D + 1; omega) _), Lib.hid (by simpa using HA53.out.put 1 _), Lib.hid ?_⟩
        rw [List.range_succ, List.map_append, List.map_cons, List.map_nil, HQ3.out]
        exact HG3.out.set HA53.out (by decide) _ _
      case measure => simp [intOf]; omega
    · obtain rfl : k = xs.length := by omega
      obtain ⟨A', n', rfl, hO⟩ := HG.out.own
      have f4 := HA4.out.free 0
      have f4' := HA4.out.free 1
      have c4 := HA4.out.cell 0
      have c4' := HA4.out.cell 1
      rw [List.length_map, List.length_range] at c5'
      clear hO
      go_wp2_with fail
      have H4 := HA4.out.put2 (u := .int .i64 m) (v := .slice A' xs.length n')
      have c4 := H4.cell 0
      have c4' := H4.cell 1
      refine bodyPost_ret (v := .agg #[.int .i64 m, .slice A' xs.length n']) (by simp [results, Tryz.results49, go_sem, c4, c4']) rfl ⟨A', n', rfl, (HE.out.setCell (by show w.heap.size ≤ w.heap.size + 1; omega) _).setCell (by show w.heap.size ≤ w.heap.size + 1; omega) _, ?_⟩
      obtain ⟨A2, n2, e2, hO⟩ := ((HG.out.set HA4.out (by decide) 0 (.int .i64 m)).set (HA4.out.put 0 (.int .i64 m)) (by decide) 1 (.slice A' xs.length n')).own
      simp only [Value.slice.injEq] at e2
      obtain ⟨rfl, _, rfl⟩ := e2
      exact hO

end Go.Proofs.YtcdijeeabgmgmaaGreatDoor

/- ModuleOfSubgroup: the program's contract. -/
namespace Go.Proofs.YtcdijeeabgmgmaaGreatDoor
open Go.RowKit

/-- The code of a module, a group's subgroup and elements. -/
noncomputable def mgE (t : List (List Int)) (m : Int) (us xs es : List Int) : Int := if gmB t m us = true then sgC t xs es else 1

set_option maxRecDepth 100000 in
set_option maxHeartbeats 2000000 in
theorem subgroupModuleCode_any (A U L E : Option Addr) (t : List (List Int)) (m : Int) (us xs es : List Int) (c c1 c2 c3 : Nat) (w : World) (hR : RwsW w A t) (hU : IntsW w U us) (hX : IntsW w L xs) (hY : IntsW w E es) (hs : SmallT t) (hu : us.length ≤ 1048576) (hx : xs.length ≤ 1048576) (hy : es.length ≤ 1048576) (hT : TabL w) :
    Calls Tryz.prog 85 #[.agg #[.slice A t.length c], .agg #[.int .i64 m, .slice U us.length c1], .slice L xs.length c2, .slice E es.length c3] w fun e w' => e = .returned (.int .i64 (mgE t m us xs es)) ∧ Ex w w' := by
  have e0 : Ex w ((w.alloc (.cells #[.slice A t.length c] 32)).alloc (.cells #[.int .i64 m, .slice U us.length c1] 52)) := ((Ex.refl w).alloc _).alloc _
  have b0 : Has ((w.alloc (.cells #[.slice A t.length c] 32)).alloc (.cells #[.int .i64 m, .slice U us.length c1] 52)) (w.heap.size) 32 #[.slice A t.length c] := ((Has.newAt (w := w) (e := 32) (cs := #[.slice A t.length c]) (k := w.heap.size) (by simp)).alloc _)
  have b1 : Has ((w.alloc (.cells #[.slice A t.length c] 32)).alloc (.cells #[.int .i64 m, .slice U us.length c1] 52)) (w.heap.size + 1) 52 #[.int .i64 m, .slice U us.length c1] := (Has.newAt (w := (w.alloc (.cells #[.slice A t.length c] 32))) (e := 52) (cs := #[.int .i64 m, .slice U us.length c1]) (k := w.heap.size + 1) (by simp))
  have HC := Lib.hid (isModule_ex A U t m us c c1 _ (hR.ex e0) (hU.ex e0) hs hu)
  have k0 := b0.cell 0
  have k1 := b1.cell 0
  have k1' := b1.cell 1
  cases hg : gmB t m us with
  | false =>
    rw [hg] at HC
    have HQ : Hid (mgE t m us xs es = 1) := Lib.hid (by simp [mgE, hg])
    clear hg hR hU hX hY hs hu hx hy hT
    go_enter Tryz.func85, Tryz.ntmps85
    go_wp2_with fail
    generalize ((w.alloc (.cells #[.slice A t.length c] 32)).alloc (.cells #[.int .i64 m, .slice U us.length c1] 52)) = W0 at *
    refine HC.out.mono ?_
    rintro e W1 ⟨rfl, he1⟩
    have HE1 := Lib.hid (e0.trans he1)
    clear b0 b1 e0 he1 k0 k1 k1'
    go_wp2_with fail
    go_ret
    exact ⟨by rw [HQ.out]; rfl, HE1.out⟩
  | true =>
    rw [hg] at HC
    have HQ : Hid (mgE t m us xs es = sgC t xs es) := Lib.hid (by simp [mgE, hg])
    have HK := Lib.hid (fun W (he : Ex w W) => subgroupCode_any A L E t xs es c c2 c3 W (hR.ex he) (hX.ex he) (hY.ex he) hs hx hy (hT.ex he))
    obtain ⟨q, hq⟩ : ∃ q, sgC t xs es = q := ⟨_, rfl⟩
    rw [hq] at HQ HK
    clear hg hR hU hX hY hs hu hx hy hT hq
    go_enter Tryz.func85, Tryz.ntmps85
    go_wp2_with fail
    generalize ((w.alloc (.cells #[.slice A t.length c] 32)).alloc (.cells #[.int .i64 m, .slice U us.length c1] 52)) = W0 at *
    refine HC.out.mono ?_
    rintro e W1 ⟨rfl, he1⟩
    have HE1 := Lib.hid (e0.trans he1)
    have c0 := (b0.ex he1).cell 0
    clear b0 b1 e0 he1 k0 k1 k1'
    go_wp2_with fail
    refine (HK.out W1 HE1.out).mono ?_
    rintro e W2 ⟨rfl, he2⟩
    have HE2 := Lib.hid (HE1.out.trans he2)
    clear he2 c0
    go_wp2_with fail
    go_ret
    exact ⟨by rw [HQ.out]; rfl, HE2.out⟩

end Go.Proofs.YtcdijeeabgmgmaaGreatDoor

/- ConjugateCochain: conjugate subgroups as subgroups, and the model. No program here. -/
namespace Go.Proofs.YtcdijeeabgmgmaaGreatDoor
open Go.RowKit

section
variable {t : List (List Int)} {c : Nat} (hg : IsGrp t) (hc : c < t.length)
include hg hc
theorem iv_left : mul t (iv t c) c = 0 := by
  obtain ⟨y, hy, h2, h3⟩ := hg.inv_ex hc
  have : y = iv t c := iv_only hg hc hy h2
  subst this
  exact h3
theorem con_back {z : Nat} (hz : z < t.length) : con t (con t z c) (iv t c) = z := by
  have hi := (iv_spec hg hc).1
  have h0 := iv_left hg hc
  have hcz := hg.mul_lt hc hz
  have hx := hg.mul_lt hcz hi
  have hii : iv t (iv t c) = c := (iv_only hg hi hc h0).symm
  unfold con
  rw [hii, hg.mul_assoc hi hx hc, hg.mul_assoc hcz hi hc, h0, hg.mul_zero hcz, ← hg.mul_assoc hi hc hz, h0, hg.zero_mul hz]
theorem con_mul {a b : Nat} (ha : a < t.length) (hb : b < t.length) : mul t (con t a c) (con t b c) = con t (mul t a b) c := by
  have hi := (iv_spec hg hc).1
  have h0 := iv_left hg hc
  have hca := hg.mul_lt hc ha
  have hcb := hg.mul_lt hc hb
  unfold con
  rw [← hg.mul_assoc (hg.mul_lt hca hi) hcb hi, hg.mul_assoc hca hi hcb, ← hg.mul_assoc hi hc hb, h0, hg.zero_mul hb, hg.mul_assoc hc ha hb]
theorem con_zero : con t 0 c = 0 := by
  unfold con
  rw [hg.mul_zero hc, (iv_spec hg hc).2]
end

theorem cjL_els {t : List (List Int)} {xs : List Int} {c : Nat} : elsL (cjL t xs c) = elN (cjS t xs c) := by
  unfold elsL cjL elI
  rw [List.map_map]
  exact (List.map_congr_left (fun a _ => by simp)).trans (List.map_id _)

theorem cjL_nd {t : List (List Int)} {xs : List Int} {c : Nat} : (elsL (cjL t xs c)).Nodup := by
  rw [cjL_els]
  exact List.Nodup.sublist List.filter_sublist List.nodup_range
section
variable {t : List (List Int)} {xs : List Int} {c : Nat} (h : SubX t xs) (hc : c < t.length)
include h hc
theorem cjL_mem {x : Nat} : x ∈ elsL (cjL t xs c) ↔ ∃ z ∈ elsL xs, x = con t z c := by
  rw [cjL_els, mem_elN8, cjS, bitsK_bit, decide_eq_true_eq]
  constructor
  · rintro ⟨-, i, hi, e⟩
    rw [conL_nth hi, Int.toNat_natCast] at e
    exact ⟨xN xs i, xN_mem hi, e.symm⟩
  · rintro ⟨z, hz, rfl⟩
    obtain ⟨i, hi, e⟩ := h.ex hz
    refine ⟨Nat.lt_of_lt_of_le (con_lt h.g (h.s.lt z hz) hc) h.g.n8, i, hi, ?_⟩
    rw [conL_nth hi, Int.toNat_natCast, e, Int.toNat_natCast]
theorem cjL_len : (cjL t xs c).length = xs.length := by
  have h1 : (elsL (cjL t xs c)).length ≤ ((elsL xs).map fun z => con t z c).length := List.Nodup.length_le_of_subset (cjL_nd) fun x hx => by
    obtain ⟨z, hz, rfl⟩ := (cjL_mem h hc).1 hx
    exact List.mem_map.2 ⟨z, hz, rfl⟩
  have h2 : (elsL xs).length ≤ ((elsL (cjL t xs c)).map fun x => con t x (iv t c)).length := List.Nodup.length_le_of_subset h.s.nd fun z hz =>
    List.mem_map.2 ⟨con t z c, (cjL_mem h hc).2 ⟨z, hz, rfl⟩, con_back h.g hc (h.s.lt z hz)⟩
  rw [List.length_map, elsL_len, elsL_len] at h1 h2
  omega
theorem cjL_sub : SubX t (cjL t xs c) := by
  have hlt : ∀ b ∈ elsL (cjL t xs c), b < t.length := fun b hb => by
    obtain ⟨z, hz, rfl⟩ := (cjL_mem h hc).1 hb
    exact con_lt h.g (h.s.lt z hz) hc
  refine ⟨h.g, ?_, hlt, cjL_nd, (cjL_mem h hc).2 ⟨0, h.s.z, (con_zero h.g hc).symm⟩, fun a ha b hb => ?_⟩
  · have hnth : ∀ i, i < (cjL t xs c).length → ∃ hi : i < (elN (cjS t xs c)).length, nth (cjL t xs c) i = ((elN (cjS t xs c))[i] : Int) := fun i hi => by
      have hi' : i < (elN (cjS t xs c)).length := by rw [cjL, elI_len] at hi; exact hi
      exact ⟨hi', by simp [nth, cjL, elI, hi']⟩
    refine setB_true.2 ⟨fun i hi => ?_, fun i h0 hi => ?_⟩
    · obtain ⟨hi', e⟩ := hnth i hi
      have := hlt (elN (cjS t xs c))[i] (by rw [cjL_els]; exact List.getElem_mem hi')
      rw [e]
      omega
    · obtain ⟨hi', e⟩ := hnth i hi
      obtain ⟨hi'', e'⟩ := hnth (i - 1) (by omega)
      have hp : (elN (cjS t xs c)).Pairwise (· < ·) := List.Pairwise.sublist List.filter_sublist List.pairwise_lt_range
      have := List.pairwise_iff_getElem.1 hp (i - 1) i hi'' hi' (by omega)
      rw [e, e']
      omega
  · obtain ⟨z, hz, rfl⟩ := (cjL_mem h hc).1 ha
    obtain ⟨y, hy, rfl⟩ := (cjL_mem h hc).1 hb
    exact (cjL_mem h hc).2 ⟨mul t z y, h.s.mul z hz y hy, con_mul h.g hc (h.s.lt z hz) (h.s.lt y hy)⟩
theorem cjL_back {x : Nat} (hx : x < xs.length) : con t (xN (cjL t xs c) x) (iv t c) ∈ elsL xs := by
  obtain ⟨z, hz, e⟩ := (cjL_mem h hc).1 (xN_mem (show x < (cjL t xs c).length by rw [cjL_len h hc]; exact hx))
  rw [e, con_back h.g hc (h.s.lt z hz)]
  exact hz
end

/-- Where a conjugation leads the number of an element of the conjugate subgroup. -/
noncomputable def cjV (t : List (List Int)) (xs : List Int) (c x : Nat) : Nat := plN xs (con t (xN (cjL t xs c) x) (iv t c))
theorem cjV_lt {t : List (List Int)} {xs : List Int} {c x : Nat} (h : SubX t xs) (hc : c < t.length) (hx : x < xs.length) : cjV t xs c x < xs.length := (h.pl (cjL_back h hc hx)).1

/-- The code of a cochain of a subgroup's module, and elements. -/
noncomputable def scC (t : List (List Int)) (m : Int) (us xs : List Int) (n : Int) (fs es : List Int) : Int := if mgE t m us xs es = 0 then (if cocB xs.length m n fs = true then 0 else 1) else mgE t m us xs es
noncomputable def cjC (t : List (List Int)) (m : Int) (us xs : List Int) (n : Int) (fs : List Int) (c : Int) : Int := if mgE t m us xs [c] = 0 then (if cocB xs.length m n fs = true then 0 else 1) else mgE t m us xs [c]
noncomputable def qConjugateCochain0 (t : List (List Int)) (m : Int) (us xs : List Int) (n : Int) (fs : List Int) (c : Int) : Int := if cjC t m us xs n fs c = 0 then n else 0
noncomputable def yConjugateCochain0 (t : List (List Int)) (m : Int) (us xs : List Int) (n : Int) (fs : List Int) (c : Int) : List Int := if cjC t m us xs n fs c = 0 then ledY m.toNat (nth us c.toNat) (pbY (fun x => (cjV t xs c.toNat x : Int)) fs xs.length xs.length n.toNat) else []
noncomputable def qConjugateCochain1 (t : List (List Int)) (m : Int) (us xs : List Int) (n : Int) (fs : List Int) (c : Int) : Int := cjC t m us xs n fs c
section
variable {t : List (List Int)} {m n c : Int} {us xs fs : List Int}
theorem cj_no {z : Int} (h : cjC t m us xs n fs c = z) (hz : z ≠ 0) : qConjugateCochain0 t m us xs n fs c = 0 ∧ yConjugateCochain0 t m us xs n fs c = [] ∧ qConjugateCochain1 t m us xs n fs c = z := by simp [qConjugateCochain0, yConjugateCochain0, qConjugateCochain1, h, hz]
theorem cj_yes {M d k : Nat} (h : cjC t (M : Int) us xs (d : Int) fs (k : Int) = 0) : qConjugateCochain0 t (M : Int) us xs (d : Int) fs (k : Int) = (d : Int) ∧ yConjugateCochain0 t (M : Int) us xs (d : Int) fs (k : Int) = ledY M (nth us k) (pbY (fun x => (cjV t xs k x : Int)) fs xs.length xs.length d) ∧ qConjugateCochain1 t (M : Int) us xs (d : Int) fs (k : Int) = 0 := by
  simp only [qConjugateCochain0, yConjugateCochain0, qConjugateCochain1, h, if_true, Int.toNat_natCast, and_self]
theorem cjC_err {z : Int} (h : mgE t m us xs [c] = z) (hz : z ≠ 0) : cjC t m us xs n fs c = z := by rw [cjC, h, if_neg hz]
theorem cjC_no (h : mgE t m us xs [c] = 0) (hb : cocB xs.length m n fs = false) : cjC t m us xs n fs c = 1 := by rw [cjC, h, if_pos rfl, hb, if_neg Bool.false_ne_true]
theorem cjC_yes (h : mgE t m us xs [c] = 0) (hb : cocB xs.length m n fs = true) : cjC t m us xs n fs c = 0 := by rw [cjC, h, if_pos rfl, hb, if_pos rfl]
/-- What the code 0 says. -/
theorem mgE_zero {es : List Int} (h : mgE t m us xs es = 0) : ∃ M : Nat, m = (M : Int) ∧ ModF t M us ∧ SubX t xs ∧ belowB (t.length : Int) es = true := by
  unfold mgE at h
  split at h
  · rename_i hg
    obtain ⟨M, rfl, hMF⟩ := gmB_f hg
    exact ⟨M, rfl, hMF, subX_code h, (sgC_zero h).2.2.1⟩
  · cases h
theorem conjugateCochain_small0 (t : List (List Int)) (m : Int) (us xs : List Int) (n : Int) (fs : List Int) (c : Int) : (yConjugateCochain0 t m us xs n fs c).length ≤ 1048576 := by
  unfold yConjugateCochain0
  split
  · rename_i h
    unfold cjC at h
    split at h
    · rename_i h1
      split at h
      · rename_i h2
        obtain ⟨M, rfl, hMF, hs, -⟩ := mgE_zero h1
        obtain ⟨h0, h3, -, -⟩ := cocB_yes h2
        rw [ledY_len, pbY_len]
        have := cellsN_le hs.len8 (show n.toNat ≤ 4 by omega)
        omega
      · cases h
    · rename_i h1
      exact absurd h h1
  · simp
end

end Go.Proofs.YtcdijeeabgmgmaaGreatDoor
