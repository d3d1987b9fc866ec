/- Maps of modules: the test of one number. -/
import Derived.Test.YtahilkhnlobaoaaNm
import Derived.Test.YtahilkhnlobaoaaOwn
namespace Go.Proofs.Ytahilkhnlobaoaa
open Go.RowKit

/-- Is c a map, of M and the units us to N and the units vs? -/
def mapB (c M N : Nat) (us vs : List Int) : Bool := (c * M % N == 0) && (List.range us.length).all fun i => c * im us i % N == c * im vs i % N
section
variable {c M N : Nat} {us vs : List Int}
theorem mapB_mod (h : ¬ c * M % N = 0) : mapB c M N us vs = false := by
  simp [mapB, h]
theorem mapB_at {i : Nat} (hi : i < us.length) (h : ¬ c * im us i % N = c * im vs i % N) : mapB c M N us vs = false := by
  cases hq : mapB c M N us vs
  · rfl
  · simp only [mapB, Bool.and_eq_true, List.all_eq_true, List.mem_range, beq_iff_eq] at hq
    exact absurd (hq.2 i hi) h
theorem mapB_all (h0 : c * M % N = 0) (h : ∀ i, i < us.length → c * im us i % N = c * im vs i % N) : mapB c M N us vs = true := by
  simp only [mapB, Bool.and_eq_true, List.all_eq_true, List.mem_range, beq_iff_eq]
  exact ⟨h0, h⟩
end

/-- All that a round of the test reads. -/
structure MapW (W : World) (g h b o b' o' l c c' : Nat) (M N : Nat) (us vs : List Int) : Prop where
  ha : Has W g 29 #[.int .i64 (M : Int), .slice (some ⟨b, o, none⟩) l c]
  hb : Has W h 29 #[.int .i64 (N : Int), .slice (some ⟨b', o', none⟩) l c']
  x : ∀ k, k < l → W.cell? ⟨b, o + k, none⟩ = some (.int .i64 (im us k : Int))
  y : ∀ k, k < l → W.cell? ⟨b', o' + k, none⟩ = some (.int .i64 (im vs k : Int))

set_option maxHeartbeats 2000000 in
theorem l02Map_any (cc M N : Nat) (us vs : List Int) (b o b' o' c c' : Nat) (w : World) (hX : ∀ k, k < us.length → w.cell? ⟨b, o + k, none⟩ = some (.int .i64 (im us k : Int))) (hY : ∀ k, k < us.length → w.cell? ⟨b', o' + k, none⟩ = some (.int .i64 (im vs k : Int)))
    (hb : b < w.heap.size) (hb' : b' < w.heap.size) (hl : vs.length = us.length) (hl8 : us.length ≤ 8) (hc : cc ≤ 12) (hM : M ≤ 12) (hN : N ≤ 12) (hN0 : 0 < N) (hu : ∀ k, k < us.length → im us k ≤ 12) (hv : ∀ k, k < us.length → im vs k ≤ 12) :
    Calls Try.prog 124 #[.agg #[.int .i64 (M : Int), .slice (some ⟨b, o, none⟩) us.length c], .agg #[.int .i64 (N : Int), .slice (some ⟨b', o', none⟩) vs.length c'], .int .i64 (cc : Int)] w fun e w' => e = .returned (.bool (mapB cc M N us vs)) ∧ Below w.heap.size w w' := by
  rw [hl]
  have hb0 : Below w.heap.size w ((w.alloc (.cells #[.int .i64 (M : Int), .slice (some ⟨b, o, none⟩) us.length c] 29)).alloc (.cells #[.int .i64 (N : Int), .slice (some ⟨b', o', none⟩) us.length c'] 29)) := ((Below.refl _ _).alloc (Nat.le_refl _) _).alloc (by simp) _
  have h0 := (Has.new w 29 #[.int .i64 (M : Int), .slice (some ⟨b, o, none⟩) us.length c]).alloc (.cells #[.int .i64 (N : Int), .slice (some ⟨b', o', none⟩) us.length c'] 29)
  have h0' := Has.newAt (w := w.alloc (.cells #[.int .i64 (M : Int), .slice (some ⟨b, o, none⟩) us.length c] 29)) (e := 29) (cs := #[.int .i64 (N : Int), .slice (some ⟨b', o', none⟩) us.length c']) (k := w.heap.size + 1) (by simp)
  have ca := h0.cell 0
  have cb := h0'.cell 0
  have hW : MapW ((w.alloc (.cells #[.int .i64 (M : Int), .slice (some ⟨b, o, none⟩) us.length c] 29)).alloc (.cells #[.int .i64 (N : Int), .slice (some ⟨b', o', none⟩) us.length c'] 29)) w.heap.size (w.heap.size + 1) b o b' o' us.length c c' M N us vs :=
    ⟨h0, h0', fun k hk => (hb0.cell (p := ⟨b, o + k, none⟩) hb).trans (hX k hk), fun k hk => (hb0.cell (p := ⟨b', o' + k, none⟩) hb').trans (hY k hk)⟩
  have HW := Lib.hid hW
  have HU := Lib.hid hu
  have HV := Lib.hid hv
  have h144 : cc * M ≤ 144 := Nat.le_trans (Nat.mul_le_mul hc hM) (by omega)
  have hp : (cc : Int) * (M : Int) = ((cc * M : Nat) : Int) := by simp
  have ht := tmod_nat (cc * M) N
  have hne : ((N : Int) != 0) = true := by simp; omega
  have hzN : cc * M % N < N := Nat.mod_lt _ hN0
  obtain ⟨z, hz⟩ : ∃ z, cc * M % N = z := ⟨_, rfl⟩
  have hz0 : z = 0 → (∀ i, i < us.length → cc * im us i % N = cc * im vs i % N) → mapB cc M N us vs = true := fun h hh => mapB_all (hz.trans h) hh
  have HZ0 := Lib.hid hz0
  have hz1 : ¬ z = 0 → mapB cc M N us vs = false := fun h => mapB_mod fun hh => h (hz.symm.trans hh)
  have HZ1 := Lib.hid hz1
  rw [hz] at ht hzN
  clear hX hY hW h0 h0' hu hv hl hz hz0 hz1
  generalize cc * M = y at *
  by_cases hq : z = 0
  · have hq' : ((z : Int) != 0) = false := by simp [hq]
    have HQ := Lib.hid hq
    clear hq
    go_enter Try.func124, Try.ntmps124
    go_wp2_with fail
    generalize ((w.alloc (.cells #[.int .i64 (M : Int), .slice (some ⟨b, o, none⟩) us.length c] 29)).alloc (.cells #[.int .i64 (N : Int), .slice (some ⟨b', o', none⟩) us.length c'] 29)) = W at *
    clear ca cb hp ht hq' h144
    go_loopw [7] (fun i wr => ∃ k : Nat, k ≤ us.length ∧ i = .int .i64 k ∧ Drawn W wr ∧ Hid (∀ i, i < k → cc * im us i % N = cc * im vs i % N)) (fun i _ => us.length - (intOf i).toNat)
    case atStart => exact ⟨0, by omega, rfl, Drawn.refl _, Lib.hid fun i hi => absurd hi (by omega)⟩
    case round =>
      obtain ⟨k, hk, rfl, hd, HS⟩ := hrel
      have HD := Lib.hid hd
      have c1 := (hd.cell ⟨w.heap.size, 1, none⟩).trans (HW.out.ha.cell 1)
      have c2 := (hd.cell ⟨w.heap.size + 1, 0, none⟩).trans (HW.out.hb.cell 0)
      have c3 := (hd.cell ⟨w.heap.size + 1, 1, none⟩).trans (HW.out.hb.cell 1)
      by_cases hlt : k < us.length
      · have hxk := (hd.cell ⟨b, o + k, none⟩).trans (HW.out.x k hlt)
        have hyk := (hd.cell ⟨b', o' + k, none⟩).trans (HW.out.y k hlt)
        have hu1 : cc * im us k ≤ 144 := Nat.le_trans (Nat.mul_le_mul hc (HU.out k hlt)) (by omega)
        have hv1 : cc * im vs k ≤ 144 := Nat.le_trans (Nat.mul_le_mul hc (HV.out k hlt)) (by omega)
        have hp1 : (cc : Int) * (im us k : Int) = ((cc * im us k : Nat) : Int) := by simp
        have hp2 : (cc : Int) * (im vs k : Int) = ((cc * im vs k : Nat) : Int) := by simp
        have ht1 := tmod_nat (cc * im us k) N
        have ht2 := tmod_nat (cc * im vs k) N
        have hz1 : cc * im us k % N < N := Nat.mod_lt _ hN0
        have hz2 : cc * im vs k % N < N := Nat.mod_lt _ hN0
        obtain ⟨z1, e1⟩ : ∃ z, cc * im us k % N = z := ⟨_, rfl⟩
        obtain ⟨z2, e2⟩ : ∃ z, cc * im vs k % N = z := ⟨_, rfl⟩
        have hyes : z1 = z2 → ∀ i, i < k + 1 → cc * im us i % N = cc * im vs i % N := fun h i hi => by
          rcases Nat.lt_or_ge i k with hh | hh
          · exact HS.out i hh
          · obtain rfl : i = k := by omega
            exact e1.trans (h.trans e2.symm)
        have hno : ¬ z1 = z2 → mapB cc M N us vs = false := fun h => mapB_at hlt fun hh => h (e1.symm.trans (hh.trans e2))
        have HYES := Lib.hid hyes
        have HNO := Lib.hid hno
        rw [e1] at ht1 hz1
        rw [e2] at ht2 hz2
        clear e1 e2 hd hyes hno
        generalize cc * im us k = y1 at *
        generalize cc * im vs k = y2 at *
        generalize im us k = u1 at *
        generalize im vs k = v1 at *
        by_cases hq : z1 = z2
        · have hq' : ((z1 : Int) != (z2 : Int)) = false := by simp [hq]
          have HQ2 := Lib.hid hq
          clear hq
          go_wp2_with fail
          go_quiet (fail)
          go_wp2_with fail
          go_roundw
          case rel => exact ⟨k + 1, by omega, by go_num, HD.out.more _, Lib.hid (HYES.out HQ2.out)⟩
          case measure => simp [intOf]; omega
        · have hq' : ((z1 : Int) != (z2 : Int)) = true := by simp; omega
          have HQ2 := Lib.hid hq
          clear hq
          go_wp2_with fail
          go_quiet (fail)
          go_wp2_with fail
          go_ret
          exact ⟨by rw [HNO.out HQ2.out]; rfl, hb0.trans ((HD.out.more _).below _)⟩
      · have hkk : k = us.length := by omega
        subst hkk
        clear hd
        go_wp2_with fail
        go_ret
        exact ⟨by rw [HZ0.out HQ.out HS.out]; rfl, hb0.trans (HD.out.below _)⟩
  · have hq' : ((z : Int) != 0) = true := by simp; omega
    have HQ := Lib.hid hq
    clear hq
    go_enter Try.func124, Try.ntmps124
    go_wp2_with fail
    go_ret
    exact ⟨by rw [HZ1.out HQ.out]; rfl, hb0⟩

set_option maxHeartbeats 2000000 in
theorem isMap_any (cc M N : Nat) (us vs : List Int) (b o b' o' c c' : Nat) (w : World) (hX : ∀ k, k < us.length → w.cell? ⟨b, o + k, none⟩ = some (.int .i64 (im us k : Int))) (hY : ∀ k, k < us.length → w.cell? ⟨b', o' + k, none⟩ = some (.int .i64 (im vs k : Int)))
    (hb : b < w.heap.size) (hb' : b' < w.heap.size) (hl : vs.length = us.length) (hl8 : us.length ≤ 8) (hc : cc ≤ 12) (hM : M ≤ 12) (hN : N ≤ 12) (hN0 : 0 < N) (hu : ∀ k, k < us.length → im us k ≤ 12) (hv : ∀ k, k < us.length → im vs k ≤ 12) :
    Calls Try.prog 96 #[.agg #[.int .i64 (M : Int), .slice (some ⟨b, o, none⟩) us.length c], .agg #[.int .i64 (N : Int), .slice (some ⟨b', o', none⟩) vs.length c'], .int .i64 (cc : Int)] w fun e w' => e = .returned (.bool (mapB cc M N us vs)) ∧ Below w.heap.size w w' := by
  rw [hl]
  have hb0 : Below w.heap.size w ((w.alloc (.cells #[.int .i64 (M : Int), .slice (some ⟨b, o, none⟩) us.length c] 29)).alloc (.cells #[.int .i64 (N : Int), .slice (some ⟨b', o', none⟩) us.length c'] 29)) := ((Below.refl _ _).alloc (Nat.le_refl _) _).alloc (by simp) _
  have h0 := (Has.new w 29 #[.int .i64 (M : Int), .slice (some ⟨b, o, none⟩) us.length c]).alloc (.cells #[.int .i64 (N : Int), .slice (some ⟨b', o', none⟩) us.length c'] 29)
  have h0' := Has.newAt (w := w.alloc (.cells #[.int .i64 (M : Int), .slice (some ⟨b, o, none⟩) us.length c] 29)) (e := 29) (cs := #[.int .i64 (N : Int), .slice (some ⟨b', o', none⟩) us.length c']) (k := w.heap.size + 1) (by simp)
  have ca := h0.cell 0
  have cb := h0'.cell 0
  have hW : MapW ((w.alloc (.cells #[.int .i64 (M : Int), .slice (some ⟨b, o, none⟩) us.length c] 29)).alloc (.cells #[.int .i64 (N : Int), .slice (some ⟨b', o', none⟩) us.length c'] 29)) w.heap.size (w.heap.size + 1) b o b' o' us.length c c' M N us vs :=
    ⟨h0, h0', fun k hk => (hb0.cell (p := ⟨b, o + k, none⟩) hb).trans (hX k hk), fun k hk => (hb0.cell (p := ⟨b', o' + k, none⟩) hb').trans (hY k hk)⟩
  have HW := Lib.hid hW
  have HU := Lib.hid hu
  have HV := Lib.hid hv
  have h144 : cc * M ≤ 144 := Nat.le_trans (Nat.mul_le_mul hc hM) (by omega)
  have hp : (cc : Int) * (M : Int) = ((cc * M : Nat) : Int) := by simp
  have ht := tmod_nat (cc * M) N
  have hne : ((N : Int) != 0) = true := by simp; omega
  have hzN : cc * M % N < N := Nat.mod_lt _ hN0
  obtain ⟨z, hz⟩ : ∃ z, cc * M % N = z := ⟨_, rfl⟩
  have hz0 : z = 0 → (∀ i, i < us.length → cc * im us i % N = cc * im vs i % N) → mapB cc M N us vs = true := fun h hh => mapB_all (hz.trans h) hh
  have HZ0 := Lib.hid hz0
  have hz1 : ¬ z = 0 → mapB cc M N us vs = false := fun h => mapB_mod fun hh => h (hz.symm.trans hh)
  have HZ1 := Lib.hid hz1
  rw [hz] at ht hzN
  clear hX hY hW h0 h0' hu hv hl hz hz0 hz1
  generalize cc * M = y at *
  by_cases hq : z = 0
  · have hq' : ((z : Int) != 0) = false := by simp [hq]
    have HQ := Lib.hid hq
    clear hq
    go_enter Try.func96, Try.ntmps96
    go_wp2_with fail
    generalize ((w.alloc (.cells #[.int .i64 (M : Int), .slice (some ⟨b, o, none⟩) us.length c] 29)).alloc (.cells #[.int .i64 (N : Int), .slice (some ⟨b', o', none⟩) us.length c'] 29)) = W at *
    clear ca cb hp ht hq' h144
    go_loopw [20] (fun i wr => ∃ k : Nat, k ≤ us.length ∧ i = .int .i64 k ∧ Drawn W wr ∧ Hid (∀ i, i < k → cc * im us i % N = cc * im vs i % N)) (fun i _ => us.length - (intOf i).toNat)
    case atStart => exact ⟨0, by omega, rfl, Drawn.refl _, Lib.hid fun i hi => absurd hi (by omega)⟩
    case round =>
      obtain ⟨k, hk, rfl, hd, HS⟩ := hrel
      have HD := Lib.hid hd
      have c1 := (hd.cell ⟨w.heap.size, 1, none⟩).trans (HW.out.ha.cell 1)
      have c2 := (hd.cell ⟨w.heap.size + 1, 0, none⟩).trans (HW.out.hb.cell 0)
      have c3 := (hd.cell ⟨w.heap.size + 1, 1, none⟩).trans (HW.out.hb.cell 1)
      by_cases hlt : k < us.length
      · have hxk := (hd.cell ⟨b, o + k, none⟩).trans (HW.out.x k hlt)
        have hyk := (hd.cell ⟨b', o' + k, none⟩).trans (HW.out.y k hlt)
        have hu1 : cc * im us k ≤ 144 := Nat.le_trans (Nat.mul_le_mul hc (HU.out k hlt)) (by omega)
        have hv1 : cc * im vs k ≤ 144 := Nat.le_trans (Nat.mul_le_mul hc (HV.out k hlt)) (by omega)
        have hp1 : (cc : Int) * (im us k : Int) = ((cc * im us k : Nat) : Int) := by simp
        have hp2 : (cc : Int) * (im vs k : Int) = ((cc * im vs k : Nat) : Int) := by simp
        have ht1 := tmod_nat (cc * im us k) N
        have ht2 := tmod_nat (cc * im vs k) N
        have hz1 : cc * im us k % N < N := Nat.mod_lt _ hN0
        have hz2 : cc * im vs k % N < N := Nat.mod_lt _ hN0
        obtain ⟨z1, e1⟩ : ∃ z, cc * im us k % N = z := ⟨_, rfl⟩
        obtain ⟨z2, e2⟩ : ∃ z, cc * im vs k % N = z := ⟨_, rfl⟩
        have hyes : z1 = z2 → ∀ i, i < k + 1 → cc * im us i % N = cc * im vs i % N := fun h i hi => by
          rcases Nat.lt_or_ge i k with hh | hh
          · exact HS.out i hh
          · obtain rfl : i = k := by omega
            exact e1.trans (h.trans e2.symm)
        have hno : ¬ z1 = z2 → mapB cc M N us vs = false := fun h => mapB_at hlt fun hh => h (e1.symm.trans (hh.trans e2))
        have HYES := Lib.hid hyes
        have HNO := Lib.hid hno
        rw [e1] at ht1 hz1
        rw [e2] at ht2 hz2
        clear e1 e2 hd hyes hno
        generalize cc * im us k = y1 at *
        generalize cc * im vs k = y2 at *
        generalize im us k = u1 at *
        generalize im vs k = v1 at *
        by_cases hq : z1 = z2
        · have hq' : ((z1 : Int) != (z2 : Int)) = false := by simp [hq]
          have HQ2 := Lib.hid hq
          clear hq
          go_wp2_with fail
          go_quiet (fail)
          go_wp2_with fail
          go_roundw
          case rel => exact ⟨k + 1, by omega, by go_num, HD.out.more _, Lib.hid (HYES.out HQ2.out)⟩
          case measure => simp [intOf]; omega
        · have hq' : ((z1 : Int) != (z2 : Int)) = true := by simp; omega
          have HQ2 := Lib.hid hq
          clear hq
          go_wp2_with fail
          go_quiet (fail)
          go_wp2_with fail
          go_ret
          exact ⟨by rw [HNO.out HQ2.out]; rfl, hb0.trans ((HD.out.more _).below _)⟩
      · have hkk : k = us.length := by omega
        subst hkk
        clear hd
        go_wp2_with fail
        go_ret
        exact ⟨by rw [HZ0.out HQ.out HS.out]; rfl, hb0.trans (HD.out.below _)⟩
  · have hq' : ((z : Int) != 0) = true := by simp; omega
    have HQ := Lib.hid hq
    clear hq
    go_enter Try.func96, Try.ntmps96
    go_wp2_with fail
    go_ret
    exact ⟨by rw [HZ1.out HQ.out]; rfl, hb0⟩

end Go.Proofs.Ytahilkhnlobaoaa
