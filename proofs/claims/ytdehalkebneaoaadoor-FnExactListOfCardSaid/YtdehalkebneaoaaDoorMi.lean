/- Is it a module? The specification. -/
import Derived.Test.YtdehalkebneaoaaDoorKp
namespace Go.Proofs.YtdehalkebneaoaaDoor
open Go.RowKit

/-- Is it a module of the group with the table t? -/
noncomputable def modB (t : List (List Int)) (m : Int) (us : List Int) : Bool :=
  (decide (2 ≤ m) && decide (m ≤ 12)) && (decide (us.length = t.length) && (unitsB m us && keepPB t (umul m.toNat) us))

section
variable {t : List (List Int)} {m : Int} {us : List Int}
theorem modB_range (h : (decide (2 ≤ m) && decide (m ≤ 12)) = false) : modB t m us = false := by rw [modB, h, Bool.false_and]
theorem modB_len (h : ¬ us.length = t.length) : modB t m us = false := by rw [modB, decide_eq_false h, Bool.false_and, Bool.and_false]
theorem modB_units (h : unitsB m us = false) : modB t m us = false := by rw [modB, h, Bool.false_and, Bool.and_false, Bool.and_false]
theorem modB_keep (h1 : (decide (2 ≤ m) && decide (m ≤ 12)) = true) (h2 : us.length = t.length) (h3 : unitsB m us = true) : modB t m us = keepPB t (umul m.toNat) us := by
  rw [modB, h1, decide_eq_true h2, h3, Bool.true_and, Bool.true_and, Bool.true_and]
theorem modB_true (h : modB t m us = true) : 2 ≤ m ∧ m ≤ 12 ∧ us.length = t.length ∧ unitsB m us = true ∧ keepPB t (umul m.toNat) us = true := by
  simp only [modB, Bool.and_eq_true, decide_eq_true_eq] at h
  exact ⟨h.1.1, h.1.2, h.2.1, h.2.2.1, h.2.2.2⟩
theorem units_inR (h : unitsB m us = true) (hm : 0 ≤ m) : InR m.toNat us := fun i hi => by
  have h1 := unitB_iff.1 (unitsB_iff.1 h i hi)
  exact ⟨by omega, by have := h1.2.1; omega⟩
theorem umul_lt {m x y : Nat} (h : x < m) : umul m x y < m := Nat.mod_lt _ (by omega)
end

/-- All that the specification's test reads. -/
structure MdW (W : World) (g h : Nat) (B b o b'' o'' c c'' : Nat) (m : Int) (bb oo C : Nat → Nat) (t : List (List Int)) (us : List Int) : Prop where
  hg : Has W g 29 #[.slice (some ⟨b, o, none⟩) t.length c]
  hh : Has W h 44 #[.int .i64 m, .slice (some ⟨b'', o'', none⟩) us.length c'']
  q : SqT W B b o bb oo C t
  x : ∀ k, k < us.length → W.cell? ⟨b'', o'' + k, none⟩ = some (.int .i64 (nth us k))
  hB : B ≤ W.heap.size
  hx : b'' < W.heap.size

theorem MdW.below {W W' : World} {g h B b o b'' o'' c c'' : Nat} {m : Int} {bb oo C : Nat → Nat} {t : List (List Int)} {us : List Int} (hw : MdW W g h B b o b'' o'' c c'' m bb oo C t us) (hb : Below W.heap.size W W') :
    MdW W' g h B b o b'' o'' c c'' m bb oo C t us :=
  ⟨hw.hg.below hb hw.hg.lt, hw.hh.below hb hw.hh.lt, hw.q.below hb hw.hB, fun k hk => (hb.cell (p := ⟨b'', o'' + k, none⟩) hw.hx).trans (hw.x k hk), Nat.le_trans hw.hB hb.size, Nat.lt_of_lt_of_le hw.hx hb.size⟩

theorem MdW.enter {w : World} {B b o b'' o'' c c'' : Nat} {m : Int} {bb oo C : Nat → Nat} {t : List (List Int)} {us : List Int} (hQ : SqT w B b o bb oo C t) (hX : ∀ k, k < us.length → w.cell? ⟨b'', o'' + k, none⟩ = some (.int .i64 (nth us k)))
    (hB : B ≤ w.heap.size) (hB'' : b'' < w.heap.size) :
    MdW ((w.alloc (.cells #[.slice (some ⟨b, o, none⟩) t.length c] 29)).alloc (.cells #[.int .i64 m, .slice (some ⟨b'', o'', none⟩) us.length c''] 44)) w.heap.size (w.heap.size + 1) B b o b'' o'' c c'' m bb oo C t us := by
  have hb0 : Below w.heap.size w ((w.alloc (.cells #[.slice (some ⟨b, o, none⟩) t.length c] 29)).alloc (.cells #[.int .i64 m, .slice (some ⟨b'', o'', none⟩) us.length c''] 44)) := ((Below.refl _ _).alloc (Nat.le_refl _) _).alloc (by simp) _
  exact ⟨(Has.new w 29 #[.slice (some ⟨b, o, none⟩) t.length c]).alloc _, Has.newAt (by simp), hQ.below hb0 hB, fun k hk => (hb0.cell (p := ⟨b'', o'' + k, none⟩) hB'').trans (hX k hk), Nat.le_trans hB hb0.size, Nat.lt_of_lt_of_le hB'' hb0.size⟩

/-- The greatest common divisor, the other way round. -/
theorem gcd_unit {m u : Int} (h1 : 1 ≤ u) (h2 : u < m) : unitB m u = (Nat.gcd u.toNat m.toNat == 1) := by
  unfold unitB
  rw [decide_eq_true h1, decide_eq_true h2, Bool.true_and, Bool.true_and, Nat.gcd_comm]

set_option maxHeartbeats 1000000 in
/-- The test of the specification, where there are units to look at. -/
theorem l02IsSome_any (t : List (List Int)) (m : Int) (us : List Int) (c c'' B b o b'' o'' : Nat) (bb oo C : Nat → Nat) (w : World) (hQ : SqT w B b o bb oo C t) (hX : ∀ k, k < us.length → w.cell? ⟨b'', o'' + k, none⟩ = some (.int .i64 (nth us k)))
    (hB : B ≤ w.heap.size) (hB'' : b'' < w.heap.size) (hg : IsGrp t) (h2 : 2 ≤ m) (h12 : m ≤ 12) (hl : us.length = t.length) :
    Calls Tryd.prog 124 #[.agg #[.slice (some ⟨b, o, none⟩) t.length c], .agg #[.int .i64 m, .slice (some ⟨b'', o'', none⟩) us.length c'']] w fun e w' => e = .returned (.bool (unitsB m us && keepPB t (umul m.toNat) us)) ∧ Below w.heap.size w w' := by
  have hb0 : Below w.heap.size w ((w.alloc (.cells #[.slice (some ⟨b, o, none⟩) t.length c] 29)).alloc (.cells #[.int .i64 m, .slice (some ⟨b'', o'', none⟩) us.length c''] 44)) := ((Below.refl _ _).alloc (Nat.le_refl _) _).alloc (by simp) _
  have hW := MdW.enter (c := c) (c'' := c'') (m := m) hQ hX hB hB''
  have hn8 := hg.n8
  have HG := Lib.hid hg
  have HW := Lib.hid hW
  have HL := Lib.hid hl
  have hne : ((us.length : Int) != (t.length : Int)) = false := by simp [hl]
  have hus8 : us.length ≤ 8 := by omega
  have hc0 := hW.hg.cell 0
  have hc1 := hW.hh.cell 0
  have hc2 := hW.hh.cell 1
  clear hQ hX hg hW hl
  go_enter Tryd.func124, Tryd.ntmps124
  go_wp2_with fail
  refine (l01In_yes _ _ _ _ h2 h12).mono ?_
  rintro e w' ⟨rfl, rfl⟩
  go_wp2_with fail
  generalize ((w.alloc (.cells #[.slice (some ⟨b, o, none⟩) t.length c] 29)).alloc (.cells #[.int .i64 m, .slice (some ⟨b'', o'', none⟩) us.length c''] 44)) = W at *
  clear hc0 hc1 hc2
  have hmod : ∃ M : Nat, m = (M : Int) := ⟨m.toNat, by omega⟩
  obtain ⟨M, rfl⟩ := hmod
  have hM2 : 2 ≤ M := by omega
  have hM12 : M ≤ 12 := by omega
  clear h2 h12
  go_loopw [5] (fun i wr => ∃ k : Nat, k ≤ us.length ∧ i = .int .i64 k ∧ Drawn W wr ∧ Hid (∀ i, i < k → unitB (M : Int) (nth us i) = true)) (fun i _ => us.length - (intOf i).toNat)
  case atStart => exact ⟨0, by omega, rfl, Drawn.refl _, Lib.hid fun i hi => absurd hi (by omega)⟩
  case round =>
    obtain ⟨k, hk, rfl, hd, HS⟩ := hrel
    have HD := Lib.hid hd
    have hwr := HW.out.below (hd.below _)
    have hc1 := hwr.hh.cell 0
    have hc2 := hwr.hh.cell 1
    clear hd
    by_cases hlt : k < us.length
    · have hxk := hwr.x k hlt
      clear hwr
      obtain ⟨u, hu⟩ : ∃ u, nth us k = u := ⟨_, rfl⟩
      have HU := Lib.hid hu
      rw [hu] at hxk
      clear hu
      by_cases hr : 1 ≤ u ∧ u ≤ (M : Int) - 1
      · obtain ⟨hr1, hr2⟩ := hr
        obtain ⟨U, rfl⟩ := Int.eq_ofNat_of_zero_le (show 0 ≤ u by omega)
        have hgu := gcd_unit (m := (M : Int)) (u := (U : Int)) hr1 (by omega)
        simp only [Int.toNat_natCast] at hgu
        have HGU := Lib.hid hgu
        clear hgu
        have HIN := Lib.hid (fun W' => (l01In_yes (U : Int) 1 ((M : Int) - 1) W' hr1 hr2).mono (fun _ _ h => And.intro h.1 h.2.symm))
        have hgc := fun W' => l01Gcd_any U M W' (by omega) (by omega)
        obtain ⟨dd, hdd0⟩ : ∃ dd, Nat.gcd U M = dd := ⟨_, rfl⟩
        rw [hdd0] at hgc
        have HGC := Lib.hid hgc
        have HDD0 := Lib.hid hdd0
        clear hgc hdd0
        by_cases hdd : dd = 1
        · have hq : ((dd : Int) != 1) = false := by simp [hdd]
          have HDD := Lib.hid hdd
          clear hdd
          go_wp2_with fail
          go_quiet ((first | (go_at_call 59; exact Calls.quiet_of_same (HIN.out _)) | (go_at_call 162; exact Calls.quiet_of_same (HGC.out _))))
          go_wp2_with fail
          go_roundw
          case rel => exact ⟨k + 1, by omega, by go_num, HD.out.more _, Lib.hid fun i hi => by
            rcases Nat.lt_or_ge i k with h | h
            · exact HS.out i h
            · obtain rfl : i = k := by omega
              rw [HU.out, HGU.out, HDD0.out, HDD.out]
              rfl⟩
          case measure => simp [intOf]; omega
        · have hq : ((dd : Int) != 1) = true := by simp; omega
          have HDD := Lib.hid hdd
          clear hdd
          go_wp2_with fail
          go_quiet ((first | (go_at_call 59; exact Calls.quiet_of_same (HIN.out _)) | (go_at_call 162; exact Calls.quiet_of_same (HGC.out _))))
          go_wp2_with fail
          go_ret
          exact ⟨by rw [unitsB_false hlt (by rw [HU.out, HGU.out, HDD0.out]; simp [HDD.out]), Bool.false_and]; rfl, hb0.trans ((HD.out.more _).below _)⟩
      · have hr' : u < 1 ∨ (M : Int) - 1 < u := by omega
        have HR := Lib.hid hr
        have HIN := Lib.hid (fun W' => (l01In_no u 1 ((M : Int) - 1) W' hr').mono (fun _ _ h => And.intro h.1 h.2.symm))
        clear hr hr'
        go_wp2_with fail
        go_quiet ((go_at_call 59; exact Calls.quiet_of_same (HIN.out _)))
        go_wp2_with fail
        go_ret
        exact ⟨by rw [unitsB_false hlt (unitB_false (by rw [HU.out]; have := HR.out; omega)), Bool.false_and]; rfl, hb0.trans ((HD.out.more _).below _)⟩
    · have hkk : k = us.length := by omega
      subst hkk
      have HUN := Lib.hid (unitsB_iff.2 HS.out)
      have HX := Lib.hid (units_inR HUN.out (by omega))
      clear HS hwr
      go_wp2_with fail
      go_loopw [6] (fun i wr => ∃ k : Nat, k ≤ us.length ∧ i = .int .i64 k ∧ Drawn W wr ∧ Hid (∀ i, i < k → ∀ j, j < t.length → KeepAtP t (umul M) us i j)) (fun i _ => us.length - (intOf i).toNat)
      case atStart => exact ⟨0, by omega, rfl, HD.out, Lib.hid fun i hi => absurd hi (by omega)⟩
      case round =>
        obtain ⟨k, hk, rfl, hd, HS⟩ := hrel
        have HD := Lib.hid hd
        have hwr := HW.out.below (hd.below _)
        have hc1 := hwr.hh.cell 0
        have hc2 := hwr.hh.cell 1
        clear hd
        by_cases hlt : k < us.length
        · obtain ⟨ek, rk⟩ := im_eq HX.out hlt
          have hxk := hwr.x k hlt
          rw [ek] at hxk
          clear ek hwr
          simp only [Int.toNat_natCast] at rk
          generalize hpk : im us k = p at *
          have HPK := Lib.hid hpk
          clear hpk
          go_wp2_with fail
          clear hxk
          go_loopw [7] (fun i wr => ∃ j : Nat, j ≤ us.length ∧ i = .int .i64 j ∧ Drawn W wr ∧ Hid (∀ j', j' < j → KeepAtP t (umul M) us k j')) (fun i _ => us.length - (intOf i).toNat)
          case atStart => exact ⟨0, by omega, rfl, HD.out, Lib.hid fun i hi => absurd hi (by omega)⟩
          case round =>
            obtain ⟨j, hj, rfl, hd, HS2⟩ := hrel
            have HD2 := Lib.hid hd
            have hwr := HW.out.below (hd.below _)
            have hc1 := hwr.hh.cell 0
            have hc2 := hwr.hh.cell 1
            clear hd
            by_cases hlt2 : j < us.length
            · obtain ⟨ej, rj⟩ := im_eq HX.out hlt2
              simp only [Int.toNat_natCast] at rj
              have hxk := hwr.x k hlt
              rw [(im_eq HX.out hlt).1, HPK.out] at hxk
              have hxj := hwr.x j hlt2
              rw [ej] at hxj
              have hc0 := hwr.hg.cell 0
              have hkt : k < t.length := by rw [← HL.out]; exact hlt
              have hjt : j < t.length := by rw [← HL.out]; exact hlt2
              have hrow := hwr.q.row_ hkt
              have hent := hwr.q.mul_ HG.out hkt hjt
              have hm := HG.out.mul_lt hkt hjt
              have hml : mul t k j < us.length := by rw [HL.out]; exact hm
              obtain ⟨em, rm⟩ := im_eq HX.out hml
              have hxm := hwr.x _ hml
              rw [em] at hxm
              have hat : KeepAtP t (umul M) us k j ↔ im us (mul t k j) = p * im us j % M := by unfold KeepAtP umul; rw [HPK.out]
              have HAT := Lib.hid hat
              have h1 : p * im us j ≤ 144 := Nat.le_trans (Nat.mul_le_mul (show p ≤ 12 by omega) (show im us j ≤ 12 by omega)) (by omega)
              have hp : (p : Int) * (im us j : Int) = ((p * im us j : Nat) : Int) := by simp
              have ht := tmod_nat (p * im us j) M
              have hne0 : ((M : Int) != 0) = true := by simp; omega
              clear hwr ej em hat
              generalize p * im us j = z0 at *
              generalize z0 % M = z at *
              generalize im us (mul t k j) = v at *
              generalize im us j = q at *
              generalize mul t k j = mm at *
              by_cases hq : v = z
              · have hq' : ((v : Int) != (z : Int)) = false := by simp [hq]
                have HQQ := Lib.hid hq
                clear hq
                go_wp2_with fail
                go_quiet (fail)
                go_wp2_with fail
                go_roundw
                case rel => exact ⟨j + 1, by omega, by go_num, HD2.out.more _, Lib.hid fun i hi => by
                  rcases Nat.lt_or_ge i j with h | h
                  · exact HS2.out i h
                  · obtain rfl : i = j := by omega
                    exact HAT.out.2 HQQ.out⟩
                case measure => simp [intOf]; omega
              · have hq' : ((v : Int) != (z : Int)) = true := by simp; omega
                have HQQ := Lib.hid hq
                clear hq
                go_wp2_with fail
                go_quiet (fail)
                go_wp2_with fail
                go_ret
                exact ⟨by rw [HUN.out, Bool.true_and, Int.toNat_natCast, keepPB_false hkt hjt (fun h => HQQ.out (HAT.out.1 h))]; rfl, hb0.trans ((HD2.out.more _).below _)⟩
            · have hjj : j = us.length := by omega
              subst hjj
              clear hwr
              go_wp2_with fail
              go_roundw
              case rel => exact ⟨k + 1, by omega, by go_num, HD2.out, Lib.hid fun i hi j' hj' => by
                rcases Nat.lt_or_ge i k with h | h
                · exact HS.out i h j' hj'
                · obtain rfl : i = k := by omega
                  exact HS2.out j' (by rw [HL.out]; exact hj')⟩
              case measure => simp [intOf]; omega
        · have hkk : k = us.length := by omega
          subst hkk
          clear hwr
          go_wp2_with fail
          go_ret
          exact ⟨by rw [HUN.out, Bool.true_and, Int.toNat_natCast, keepPB_true (fun i hi => HS.out i (by rw [HL.out]; exact hi))]; rfl, hb0.trans (HD.out.below _)⟩

end Go.Proofs.YtdehalkebneaoaaDoor
