/- Kp Mi Mj Mc Ut in one text. -/
import Derived.Deep.RegionHeld3
import Derived.RangeFuncBox
import Derived.Test.YtcdijeeabgmgmaaGreatDoorCel
import Derived.Test.YtcdijeeabgmgmaaGreatDoorOgr
import Derived.Test.YtcdijeeabgmgmaaGreatDoorBa
/- Products kept by a list of images: towards a group, and towards units. -/
namespace Go.Proofs.YtcdijeeabgmgmaaGreatDoor
open Go.RowKit

/-- The image of an element. -/
def im (xs : List Int) (k : Nat) : Nat := (nth xs k).toNat
theorem im_eq {n : Nat} {xs : List Int} (h : InR n xs) {k : Nat} (hk : k < xs.length) : nth xs k = (im xs k : Int) ∧ im xs k < n := by
  have h1 := h k hk
  unfold im
  omega

/-- Do the images agree with this product? -/
def KeepAtP (t : List (List Int)) (P : Nat → Nat → Nat) (xs : List Int) (i j : Nat) : Prop := im xs (mul t i j) = P (im xs i) (im xs j)
open Classical in
noncomputable def keepPB (t : List (List Int)) (P : Nat → Nat → Nat) (xs : List Int) : Bool := decide (∀ i, i < t.length → ∀ j, j < t.length → KeepAtP t P xs i j)

section
variable {t : List (List Int)} {P : Nat → Nat → Nat} {xs : List Int}
theorem keepPB_iff : keepPB t P xs = true ↔ ∀ i, i < t.length → ∀ j, j < t.length → KeepAtP t P xs i j := by
  simp only [keepPB, decide_eq_true_eq]
theorem keepPB_true (h : ∀ i, i < t.length → ∀ j, j < t.length → KeepAtP t P xs i j) : keepPB t P xs = true := keepPB_iff.2 h
theorem keepPB_false {i j : Nat} (hi : i < t.length) (hj : j < t.length) (h : ¬ KeepAtP t P xs i j) : keepPB t P xs = false := by
  simp only [keepPB, decide_eq_false_iff_not]
  exact fun hk => h (hk i hi j hj)
end

/-- All that a round of the tests reads. -/
structure KpW (W : World) (g h : Nat) (B b o b'' o'' c : Nat) (V F : Value) (bb oo C : Nat → Nat) (t : List (List Int)) (xs : List Int) : Prop where
  hg : Has W g 32 #[.slice (some ⟨b, o, none⟩) t.length c]
  hh : Has W h 161 #[V, F]
  q : SqT W B b o bb oo C t
  x : ∀ k, k < xs.length → W.cell? ⟨b'', o'' + k, none⟩ = some (.int .i64 (nth xs k))
  hB : B ≤ W.heap.size
  hx : b'' < W.heap.size

theorem KpW.below {W W' : World} {g h B b o b'' o'' c : Nat} {V F : Value} {bb oo C : Nat → Nat} {t : List (List Int)} {xs : List Int} (hw : KpW W g h B b o b'' o'' c V F bb oo C t xs) (hb : Below W.heap.size W W') :
    KpW W' g h B b o b'' o'' c V F bb oo C t xs :=
  ⟨hw.hg.below hb hw.hg.lt, hw.hh.below hb hw.hh.lt, hw.q.below hb hw.hB, fun k hk => (hb.cell (p := ⟨b'', o'' + k, none⟩) hw.hx).trans (hw.x k hk), Nat.le_trans hw.hB hb.size, Nat.lt_of_lt_of_le hw.hx hb.size⟩

theorem KpW.enter {w : World} {B b o b'' o'' c : Nat} {V F : Value} {bb oo C : Nat → Nat} {t : List (List Int)} {xs : List Int} (hQ : SqT w B b o bb oo C t) (hX : ∀ k, k < xs.length → w.cell? ⟨b'', o'' + k, none⟩ = some (.int .i64 (nth xs k)))
    (hB : B ≤ w.heap.size) (hB'' : b'' < w.heap.size) :
    KpW ((w.alloc (.cells #[.slice (some ⟨b, o, none⟩) t.length c] 32)).alloc (.cells #[V, F] 161)) w.heap.size (w.heap.size + 1) B b o b'' o'' c V F bb oo C t xs := by
  have hb0 : Below w.heap.size w ((w.alloc (.cells #[.slice (some ⟨b, o, none⟩) t.length c] 32)).alloc (.cells #[V, F] 161)) := ((Below.refl _ _).alloc (Nat.le_refl _) _).alloc (by simp) _
  exact ⟨(Has.new w 32 #[.slice (some ⟨b, o, none⟩) t.length c]).alloc _, Has.newAt (by simp), hQ.below hb0 hB, fun k hk => (hb0.cell (p := ⟨b'', o'' + k, none⟩) hB'').trans (hX k hk), Nat.le_trans hB hb0.size, Nat.lt_of_lt_of_le hB'' hb0.size⟩

/-- The product of units. -/
def umul (m x y : Nat) : Nat := x * y % m

set_option maxHeartbeats 400000 in
theorem unitProd_any (m x y Bx : Nat) (w : World) (hbox : w.cell? ⟨Bx, 0, none⟩ = some (.int .i64 (m : Int))) (hm : m ≤ 12) (hx : x < m) (hy : y < m) :
    Calls Tryz.prog 153 #[.int .i64 (x : Int), .int .i64 (y : Int), .pointer (some ⟨Bx, 0, none⟩)] w fun e w' => e = .returned (.int .i64 (umul m x y : Int)) ∧ w' = w := by
  have h1 : x * y ≤ 144 := Nat.le_trans (Nat.mul_le_mul (show x ≤ 12 by omega) (show y ≤ 12 by omega)) (by omega)
  have hp : (x : Int) * (y : Int) = ((x * y : Nat) : Int) := by simp
  have HU : Hid (umul m x y = x * y % m) := Lib.hid rfl
  have ht := tmod_nat (x * y) m
  generalize x * y = z at *
  have hm0 : 0 < m := by omega
  have hne : ((m : Int) != 0) = true := by simp; omega
  have hlt : z % m < m := Nat.mod_lt _ hm0
  go_enter Tryz.func153, Tryz.ntmps153
  go_wp2
  go_ret
  exact ⟨by rw [HU.out]; rfl, rfl⟩

set_option maxHeartbeats 1000000 in
theorem keepsProductsU_any (t : List (List Int)) (P : Nat → Nat → Nat) (n : Nat) (V ptr : Value) (xs : List Int) (c c'' B b o b'' o'' : Nat) (bb oo C : Nat → Nat) (w : World) (hQ : SqT w B b o bb oo C t) (hX : ∀ k, k < xs.length → w.cell? ⟨b'', o'' + k, none⟩ = some (.int .i64 (nth xs k)))
    (hB : B ≤ w.heap.size) (hB'' : b'' < w.heap.size) (hg : IsGrp t) (_ : n ≤ 12) (hx : InR n xs) (hl : xs.length = t.length)
    (hP : ∀ W', Below w.heap.size w W' → ∀ x y : Nat, x < n → y < n → Calls Tryz.prog 153 #[.int .i64 (x : Int), .int .i64 (y : Int), ptr] W' fun e w' => e = .returned (.int .i64 (P x y : Int)) ∧ w' = W') (hPn : ∀ x y : Nat, x < n → y < n → P x y < n) :
    Calls Tryz.prog 145 #[.agg #[.slice (some ⟨b, o, none⟩) t.length c], .agg #[V, .func (.func 153) #[] #[ptr]], .slice (some ⟨b'', o'', none⟩) xs.length c''] w fun e w' => e = .returned (.bool (keepPB t P xs)) ∧ Below w.heap.size w w' := by
  have hb0 : Below w.heap.size w ((w.alloc (.cells #[.slice (some ⟨b, o, none⟩) t.length c] 32)).alloc (.cells #[V, .func (.func 153) #[] #[ptr]] 161)) := ((Below.refl _ _).alloc (Nat.le_refl _) _).alloc (by simp) _
  have hW := KpW.enter (c := c) (V := V) (F := .func (.func 153) #[] #[ptr]) hQ hX hB hB''
  have hn8 := hg.n8
  have hx8 : xs.length ≤ 8 := by omega
  have HG := Lib.hid hg
  have HX := Lib.hid hx
  have HW := Lib.hid hW
  have HL := Lib.hid hl
  have HP := Lib.hid hP
  have HPN := Lib.hid hPn
  have hz0 := hb0.size
  clear hQ hX hg hx hW hP hPn hl
  go_enter Tryz.func145, Tryz.ntmps145
  go_wp2_with fail
  generalize ((w.alloc (.cells #[.slice (some ⟨b, o, none⟩) t.length c] 32)).alloc (.cells #[V, .func (.func 153) #[] #[ptr]] 161)) = W at *
  go_loopw [14] (fun i wr => ∃ k : Nat, k ≤ xs.length ∧ i = .int .i64 k ∧ Drawn W wr ∧ ∀ i, i < k → ∀ j, j < t.length → KeepAtP t P xs i j) (fun i _ => xs.length - (intOf i).toNat)
  case atStart => exact ⟨0, by omega, rfl, Drawn.refl _, fun i hi => absurd hi (by omega)⟩
  case round =>
    obtain ⟨k, hk, rfl, hd, hs⟩ := hrel
    have HS := Lib.hid hs
    have HD := Lib.hid hd
    clear hs
    by_cases hlt : k < xs.length
    · obtain ⟨ek, rk⟩ := im_eq HX.out hlt
      have hxk := ((HW.out.below (hd.below _)).x k hlt)
      rw [ek] at hxk
      clear ek hd
      generalize hpk : im xs k = p at *
      have HPK := Lib.hid hpk
      clear hpk
      go_wp2_with fail
      obtain ⟨wo, rfl⟩ : ∃ wo, wo = wr := ⟨_, rfl⟩
      clear hxk
      go_loopw [21] (fun i wr => ∃ j : Nat, j ≤ xs.length ∧ i = .int .i64 j ∧ Drawn W wr ∧ ∀ j', j' < j → KeepAtP t P xs k j') (fun i _ => xs.length - (intOf i).toNat)
      case atStart => exact ⟨0, by omega, rfl, HD.out, fun i hi => absurd hi (by omega)⟩
      case round =>
        obtain ⟨j, hj, rfl, hd, hs2⟩ := hrel
        have HS2 := Lib.hid hs2
        have HD2 := Lib.hid hd
        clear hs2
        by_cases hlt2 : j < xs.length
        · have hbl := hd.below W.heap.size
          have hwr := HW.out.below hbl
          obtain ⟨ej, rj⟩ := im_eq HX.out hlt2
          have hxj := hwr.x j hlt2
          rw [ej] at hxj
          have hbg := hwr.hg.cell 0
          have hbh0 := hwr.hh.cell 0
          have hbh := hwr.hh.cell 1
          have hkt : k < t.length := by rw [← HL.out]; exact hlt
          have hjt : j < t.length := by rw [← HL.out]; exact hlt2
          have hrow := hwr.q.row_ hkt
          have hent := hwr.q.mul_ HG.out hkt hjt
          have hm := HG.out.mul_lt hkt hjt
          have hml : mul t k j < xs.length := by rw [HL.out]; exact hm
          obtain ⟨em, rm⟩ := im_eq HX.out hml
          have hxm := hwr.x _ hml
          rw [em] at hxm
          have hpn := HPN.out p (im xs j) rk rj
          have HCC := Lib.hid (fun i : Nat => HP.out (wr.drewN i) (below_drewN (hb0.trans (hbl.mono hz0)) i) p (im xs j) rk rj)
          have hat : KeepAtP t P xs k j ↔ im xs (mul t k j) = P p (im xs j) := by unfold KeepAtP; rw [HPK.out]
          have HAT := Lib.hid hat
          clear hwr hd ej em hat hbl
          generalize im xs (mul t k j) = v at *
          generalize P p (im xs j) = z at *
          generalize im xs j = q at *
          generalize mul t k j = m at *
          have hlm : decide ((m : Int) < (xs.length : Int)) = true := by simp; omega
          by_cases hq : v = z
          · have hq' : ((v : Int) != (z : Int)) = false := by simp [hq]
            have HQQ := Lib.hid hq
            clear hq
            go_wp2_with fail
            go_quiet ((go_at_call 153; exact Calls.quiet_of_same (HCC.out _)))
            go_wp2_with fail
            go_roundw
            case rel => exact ⟨j + 1, by omega, by go_num, HD2.out.more _, fun i hi => by
              rcases Nat.lt_or_ge i j with h | h
              · exact HS2.out i h
              · obtain rfl : i = j := by omega
                exact HAT.out.2 HQQ.out⟩
            case measure => simp [intOf]; omega
          · have hq' : ((v : Int) != (z : Int)) = true := by simp; omega
            have HQQ := Lib.hid hq
            clear hq
            go_wp2_with fail
            go_quiet ((go_at_call 153; exact Calls.quiet_of_same (HCC.out _)))
            go_wp2_with fail
            go_ret
            exact ⟨by rw [keepPB_false hkt hjt (fun h => HQQ.out (HAT.out.1 h))]; rfl, hb0.trans ((HD2.out.more _).below _)⟩
        · have hjj : j = xs.length := by omega
          subst hjj
          clear hd
          go_wp2_with fail
          go_roundw
          case rel => exact ⟨k + 1, by omega, by go_num, HD2.out, fun i hi j' hj' => by
            rcases Nat.lt_or_ge i k with h | h
            · exact HS.out i h j' hj'
            · obtain rfl : i = k := by omega
              exact HS2.out j' (by rw [HL.out]; exact hj')⟩
          case measure => simp [intOf]; omega
    · have hkk : k = xs.length := by omega
      subst hkk
      go_wp2_with fail
      go_ret
      exact ⟨by rw [keepPB_true (fun i hi => HS.out i (by rw [HL.out]; exact hi))]; rfl, hb0.trans (HD.out.below _)⟩

end Go.Proofs.YtcdijeeabgmgmaaGreatDoor

/- Is it a module? The specification. -/
namespace Go.Proofs.YtcdijeeabgmgmaaGreatDoor
open Go.RowKit

/-- Is it a module of the group with the table t? -/
noncomputable def modB (t : List (List Int)) (m : Int) (us : List Int) : Bool :=
  (decide (2 ≤ m) && decide (m ≤ 12)) && (decide (us.length = t.length) && (unitsB m us && keepPB t (umul m.toNat) us))

section
variable {t : List (List Int)} {m : Int} {us : List Int}
theorem modB_range (h : (decide (2 ≤ m) && decide (m ≤ 12)) = false) : modB t m us = false := by rw [modB, h, Bool.false_and]
theorem modB_len (h : ¬ us.length = t.length) : modB t m us = false := by rw [modB, decide_eq_false h, Bool.false_and, Bool.and_false]
theorem modB_units (h : unitsB m us = false) : modB t m us = false := by rw [modB, h, Bool.false_and, Bool.and_false, Bool.and_false]
theorem modB_keep (h1 : (decide (2 ≤ m) && decide (m ≤ 12)) = true) (h2 : us.length = t.length) (h3 : unitsB m us = true) : modB t m us = keepPB t (umul m.toNat) us := by
  rw [modB, h1, decide_eq_true h2, h3, Bool.true_and, Bool.true_and, Bool.true_and]
theorem modB_true (h : modB t m us = true) : 2 ≤ m ∧ m ≤ 12 ∧ us.length = t.length ∧ unitsB m us = true ∧ keepPB t (umul m.toNat) us = true := by
  simp only [modB, Bool.and_eq_true, decide_eq_true_eq] at h
  exact ⟨h.1.1, h.1.2, h.2.1, h.2.2.1, h.2.2.2⟩
theorem units_inR (h : unitsB m us = true) (hm : 0 ≤ m) : InR m.toNat us := fun i hi => by
  have h1 := unitB_iff.1 (unitsB_iff.1 h i hi)
  exact ⟨by omega, by have := h1.2.1; omega⟩
theorem umul_lt {m x y : Nat} (h : x < m) : umul m x y < m := Nat.mod_lt _ (by omega)
end

/-- All that the specification's test reads. -/
structure MdW (W : World) (g h : Nat) (B b o b'' o'' c c'' : Nat) (m : Int) (bb oo C : Nat → Nat) (t : List (List Int)) (us : List Int) : Prop where
  hg : Has W g 32 #[.slice (some ⟨b, o, none⟩) t.length c]
  hh : Has W h 52 #[.int .i64 m, .slice (some ⟨b'', o'', none⟩) us.length c'']
  q : SqT W B b o bb oo C t
  x : ∀ k, k < us.length → W.cell? ⟨b'', o'' + k, none⟩ = some (.int .i64 (nth us k))
  hB : B ≤ W.heap.size
  hx : b'' < W.heap.size

theorem MdW.below {W W' : World} {g h B b o b'' o'' c c'' : Nat} {m : Int} {bb oo C : Nat → Nat} {t : List (List Int)} {us : List Int} (hw : MdW W g h B b o b'' o'' c c'' m bb oo C t us) (hb : Below W.heap.size W W') :
    MdW W' g h B b o b'' o'' c c'' m bb oo C t us :=
  ⟨hw.hg.below hb hw.hg.lt, hw.hh.below hb hw.hh.lt, hw.q.below hb hw.hB, fun k hk => (hb.cell (p := ⟨b'', o'' + k, none⟩) hw.hx).trans (hw.x k hk), Nat.le_trans hw.hB hb.size, Nat.lt_of_lt_of_le hw.hx hb.size⟩

theorem MdW.enter {w : World} {B b o b'' o'' c c'' : Nat} {m : Int} {bb oo C : Nat → Nat} {t : List (List Int)} {us : List Int} (hQ : SqT w B b o bb oo C t) (hX : ∀ k, k < us.length → w.cell? ⟨b'', o'' + k, none⟩ = some (.int .i64 (nth us k)))
    (hB : B ≤ w.heap.size) (hB'' : b'' < w.heap.size) :
    MdW ((w.alloc (.cells #[.slice (some ⟨b, o, none⟩) t.length c] 32)).alloc (.cells #[.int .i64 m, .slice (some ⟨b'', o'', none⟩) us.length c''] 52)) w.heap.size (w.heap.size + 1) B b o b'' o'' c c'' m bb oo C t us := by
  have hb0 : Below w.heap.size w ((w.alloc (.cells #[.slice (some ⟨b, o, none⟩) t.length c] 32)).alloc (.cells #[.int .i64 m, .slice (some ⟨b'', o'', none⟩) us.length c''] 52)) := ((Below.refl _ _).alloc (Nat.le_refl _) _).alloc (by simp) _
  exact ⟨(Has.new w 32 #[.slice (some ⟨b, o, none⟩) t.length c]).alloc _, Has.newAt (by simp), hQ.below hb0 hB, fun k hk => (hb0.cell (p := ⟨b'', o'' + k, none⟩) hB'').trans (hX k hk), Nat.le_trans hB hb0.size, Nat.lt_of_lt_of_le hB'' hb0.size⟩

/-- The greatest common divisor, the other way round. -/
theorem gcd_unit {m u : Int} (h1 : 1 ≤ u) (h2 : u < m) : unitB m u = (Nat.gcd u.toNat m.toNat == 1) := by
  unfold unitB
  rw [decide_eq_true h1, decide_eq_true h2, Bool.true_and, Bool.true_and, Nat.gcd_comm]

set_option maxHeartbeats 1000000 in
/-- The test of the specification, where there are units to look at. -/
theorem l02IsSome_any (t : List (List Int)) (m : Int) (us : List Int) (c c'' B b o b'' o'' : Nat) (bb oo C : Nat → Nat) (w : World) (hQ : SqT w B b o bb oo C t) (hX : ∀ k, k < us.length → w.cell? ⟨b'', o'' + k, none⟩ = some (.int .i64 (nth us k)))
    (hB : B ≤ w.heap.size) (hB'' : b'' < w.heap.size) (hg : IsGrp t) (h2 : 2 ≤ m) (h12 : m ≤ 12) (hl : us.length = t.length) :
    Calls Tryz.prog 82 #[.agg #[.slice (some ⟨b, o, none⟩) t.length c], .agg #[.int .i64 m, .slice (some ⟨b'', o'', none⟩) us.length c'']] w fun e w' => e = .returned (.bool (unitsB m us && keepPB t (umul m.toNat) us)) ∧ Below w.heap.size w w' := by
  have hb0 : Below w.heap.size w ((w.alloc (.cells #[.slice (some ⟨b, o, none⟩) t.length c] 32)).alloc (.cells #[.int .i64 m, .slice (some ⟨b'', o'', none⟩) us.length c''] 52)) := ((Below.refl _ _).alloc (Nat.le_refl _) _).alloc (by simp) _
  have hW := MdW.enter (c := c) (c'' := c'') (m := m) hQ hX hB hB''
  have hn8 := hg.n8
  have HG := Lib.hid hg
  have HW := Lib.hid hW
  have HL := Lib.hid hl
  have hne : ((us.length : Int) != (t.length : Int)) = false := by simp [hl]
  have hus8 : us.length ≤ 8 := by omega
  have hc0 := hW.hg.cell 0
  have hc1 := hW.hh.cell 0
  have hc2 := hW.hh.cell 1
  clear hQ hX hg hW hl
  go_enter Tryz.func82, Tryz.ntmps82
  go_wp2_with fail
  refine (l01In_yes _ _ _ _ h2 h12).mono ?_
  rintro e w' ⟨rfl, rfl⟩
  go_wp2_with fail
  generalize ((w.alloc (.cells #[.slice (some ⟨b, o, none⟩) t.length c] 32)).alloc (.cells #[.int .i64 m, .slice (some ⟨b'', o'', none⟩) us.length c''] 52)) = W at *
  clear hc0 hc1 hc2
  have hmod : ∃ M : Nat, m = (M : Int) := ⟨m.toNat, by omega⟩
  obtain ⟨M, rfl⟩ := hmod
  have hM2 : 2 ≤ M := by omega
  have hM12 : M ≤ 12 := by omega
  clear h2 h12
  go_loopw [5] (fun i wr => ∃ k : Nat, k ≤ us.length ∧ i = .int .i64 k ∧ Drawn W wr ∧ Hid (∀ i, i < k → unitB (M : Int) (nth us i) = true)) (fun i _ => us.length - (intOf i).toNat)
  case atStart => exact ⟨0, by omega, rfl, Drawn.refl _, Lib.hid fun i hi => absurd hi (by omega)⟩
  case round =>
    obtain ⟨k, hk, rfl, hd, HS⟩ := hrel
    have HD := Lib.hid hd
    have hwr := HW.out.below (hd.below _)
    have hc1 := hwr.hh.cell 0
    have hc2 := hwr.hh.cell 1
    clear hd
    by_cases hlt : k < us.length
    · have hxk := hwr.x k hlt
      clear hwr
      obtain ⟨u, hu⟩ : ∃ u, nth us k = u := ⟨_, rfl⟩
      have HU := Lib.hid hu
      rw [hu] at hxk
      clear hu
      by_cases hr : 1 ≤ u ∧ u ≤ (M : Int) - 1
      · obtain ⟨hr1, hr2⟩ := hr
        obtain ⟨U, rfl⟩ := Int.eq_ofNat_of_zero_le (show 0 ≤ u by omega)
        have hgu := gcd_unit (m := (M : Int)) (u := (U : Int)) hr1 (by omega)
        simp only [Int.toNat_natCast] at hgu
        have HGU := Lib.hid hgu
        clear hgu
        have HIN := Lib.hid (fun W' => (l01In_yes (U : Int) 1 ((M : Int) - 1) W' hr1 hr2).mono (fun _ _ h => And.intro h.1 h.2.symm))
        have hgc := fun W' => l01Gcd_any U M W' (by omega) (by omega)
        obtain ⟨dd, hdd0⟩ : ∃ dd, Nat.gcd U M = dd := ⟨_, rfl⟩
        rw [hdd0] at hgc
        have HGC := Lib.hid hgc
        have HDD0 := Lib.hid hdd0
        clear hgc hdd0
        by_cases hdd : dd = 1
        · have hq : ((dd : Int) != 1) = false := by simp [hdd]
          have HDD := Lib.hid hdd
          clear hdd
          go_wp2_with fail
          go_quiet ((first | (go_at_call 66; exact Calls.quiet_of_same (HIN.out _)) | (go_at_call 119; exact Calls.quiet_of_same (HGC.out _))))
          go_wp2_with fail
          go_roundw
          case rel => exact ⟨k + 1, by omega, by go_num, HD.out.more _, Lib.hid fun i hi => by
            rcases Nat.lt_or_ge i k with h | h
            · exact HS.out i h
            · obtain rfl : i = k := by omega
              rw [HU.out, HGU.out, HDD0.out, HDD.out]
              rfl⟩
          case measure => simp [intOf]; omega
        · have hq : ((dd : Int) != 1) = true := by simp; omega
          have HDD := Lib.hid hdd
          clear hdd
          go_wp2_with fail
          go_quiet ((first | (go_at_call 66; exact Calls.quiet_of_same (HIN.out _)) | (go_at_call 119; exact Calls.quiet_of_same (HGC.out _))))
          go_wp2_with fail
          go_ret
          exact ⟨by rw [unitsB_false hlt (by rw [HU.out, HGU.out, HDD0.out]; simp [HDD.out]), Bool.false_and]; rfl, hb0.trans ((HD.out.more _).below _)⟩
      · have hr' : u < 1 ∨ (M : Int) - 1 < u := by omega
        have HR := Lib.hid hr
        have HIN := Lib.hid (fun W' => (l01In_no u 1 ((M : Int) - 1) W' hr').mono (fun _ _ h => And.intro h.1 h.2.symm))
        clear hr hr'
        go_wp2_with fail
        go_quiet ((go_at_call 66; exact Calls.quiet_of_same (HIN.out _)))
        go_wp2_with fail
        go_ret
        exact ⟨by rw [unitsB_false hlt (unitB_false (by rw [HU.out]; have := HR.out; omega)), Bool.false_and]; rfl, hb0.trans ((HD.out.more _).below _)⟩
    · have hkk : k = us.length := by omega
      subst hkk
      have HUN := Lib.hid (unitsB_iff.2 HS.out)
      have HX := Lib.hid (units_inR HUN.out (by omega))
      clear HS hwr
      go_wp2_with fail
      go_loopw [6] (fun i wr => ∃ k : Nat, k ≤ us.length ∧ i = .int .i64 k ∧ Drawn W wr ∧ Hid (∀ i, i < k → ∀ j, j < t.length → KeepAtP t (umul M) us i j)) (fun i _ => us.length - (intOf i).toNat)
      case atStart => exact ⟨0, by omega, rfl, HD.out, Lib.hid fun i hi => absurd hi (by omega)⟩
      case round =>
        obtain ⟨k, hk, rfl, hd, HS⟩ := hrel
        have HD := Lib.hid hd
        have hwr := HW.out.below (hd.below _)
        have hc1 := hwr.hh.cell 0
        have hc2 := hwr.hh.cell 1
        clear hd
        by_cases hlt : k < us.length
        · obtain ⟨ek, rk⟩ := im_eq HX.out hlt
          have hxk := hwr.x k hlt
          rw [ek] at hxk
          clear ek hwr
          simp only [Int.toNat_natCast] at rk
          generalize hpk : im us k = p at *
          have HPK := Lib.hid hpk
          clear hpk
          go_wp2_with fail
          clear hxk
          go_loopw [7] (fun i wr => ∃ j : Nat, j ≤ us.length ∧ i = .int .i64 j ∧ Drawn W wr ∧ Hid (∀ j', j' < j → KeepAtP t (umul M) us k j')) (fun i _ => us.length - (intOf i).toNat)
          case atStart => exact ⟨0, by omega, rfl, HD.out, Lib.hid fun i hi => absurd hi (by omega)⟩
          case round =>
            obtain ⟨j, hj, rfl, hd, HS2⟩ := hrel
            have HD2 := Lib.hid hd
            have hwr := HW.out.below (hd.below _)
            have hc1 := hwr.hh.cell 0
            have hc2 := hwr.hh.cell 1
            clear hd
            by_cases hlt2 : j < us.length
            · obtain ⟨ej, rj⟩ := im_eq HX.out hlt2
              simp only [Int.toNat_natCast] at rj
              have hxk := hwr.x k hlt
              rw [(im_eq HX.out hlt).1, HPK.out] at hxk
              have hxj := hwr.x j hlt2
              rw [ej] at hxj
              have hc0 := hwr.hg.cell 0
              have hkt : k < t.length := by rw [← HL.out]; exact hlt
              have hjt : j < t.length := by rw [← HL.out]; exact hlt2
              have hrow := hwr.q.row_ hkt
              have hent := hwr.q.mul_ HG.out hkt hjt
              have hm := HG.out.mul_lt hkt hjt
              have hml : mul t k j < us.length := by rw [HL.out]; exact hm
              obtain ⟨em, rm⟩ := im_eq HX.out hml
              have hxm := hwr.x _ hml
              rw [em] at hxm
              have hat : KeepAtP t (umul M) us k j ↔ im us (mul t k j) = p * im us j % M := by unfold KeepAtP umul; rw [HPK.out]
              have HAT := Lib.hid hat
              have h1 : p * im us j ≤ 144 := Nat.le_trans (Nat.mul_le_mul (show p ≤ 12 by omega) (show im us j ≤ 12 by omega)) (by omega)
              have hp : (p : Int) * (im us j : Int) = ((p * im us j : Nat) : Int) := by simp
              have ht := tmod_nat (p * im us j) M
              have hne0 : ((M : Int) != 0) = true := by simp; omega
              clear hwr ej em hat
              generalize p * im us j = z0 at *
              generalize z0 % M = z at *
              generalize im us (mul t k j) = v at *
              generalize im us j = q at *
              generalize mul t k j = mm at *
              by_cases hq : v = z
              · have hq' : ((v : Int) != (z : Int)) = false := by simp [hq]
                have HQQ := Lib.hid hq
                clear hq
                go_wp2_with fail
                go_quiet (fail)
                go_wp2_with fail
                go_roundw
                case rel => exact ⟨j + 1, by omega, by go_num, HD2.out.more _, Lib.hid fun i hi => by
                  rcases Nat.lt_or_ge i j with h | h
                  · exact HS2.out i h
                  · obtain rfl : i = j := by omega
                    exact HAT.out.2 HQQ.out⟩
                case measure => simp [intOf]; omega
              · have hq' : ((v : Int) != (z : Int)) = true := by simp; omega
                have HQQ := Lib.hid hq
                clear hq
                go_wp2_with fail
                go_quiet (fail)
                go_wp2_with fail
                go_ret
                exact ⟨by rw [HUN.out, Bool.true_and, Int.toNat_natCast, keepPB_false hkt hjt (fun h => HQQ.out (HAT.out.1 h))]; rfl, hb0.trans ((HD2.out.more _).below _)⟩
            · have hjj : j = us.length := by omega
              subst hjj
              clear hwr
              go_wp2_with fail
              go_roundw
              case rel => exact ⟨k + 1, by omega, by go_num, HD2.out, Lib.hid fun i hi j' hj' => by
                rcases Nat.lt_or_ge i k with h | h
                · exact HS.out i h j' hj'
                · obtain rfl : i = k := by omega
                  exact HS2.out j' (by rw [HL.out]; exact hj')⟩
              case measure => simp [intOf]; omega
        · have hkk : k = us.length := by omega
          subst hkk
          clear hwr
          go_wp2_with fail
          go_ret
          exact ⟨by rw [HUN.out, Bool.true_and, Int.toNat_natCast, keepPB_true (fun i hi => HS.out i (by rw [HL.out]; exact hi))]; rfl, hb0.trans (HD.out.below _)⟩

end Go.Proofs.YtcdijeeabgmgmaaGreatDoor

/- Is it a module? The specification's test at whatever module value, and IsModule. -/
namespace Go.Proofs.YtcdijeeabgmgmaaGreatDoor
open Go.RowKit

set_option maxHeartbeats 1000000 in
theorem l02Is_any (A L : Option Addr) (t : List (List Int)) (m : Int) (us : List Int) (c c'' B B' : Nat) (w : World) (hR : Rws w B A t) (hX : Ints w B' L us) (hB : B ≤ w.heap.size) (hB' : B' ≤ w.heap.size) (hg : IsGrp t) (hx : us.length ≤ 1048576) :
    Calls Tryz.prog 82 #[.agg #[.slice A t.length c], .agg #[.int .i64 m, .slice L us.length c'']] w fun e w' => e = .returned (.bool (modB t m us)) ∧ Below w.heap.size w w' := by
  by_cases hm : 2 ≤ m ∧ m ≤ 12
  · have h1 : (decide (2 ≤ m) && decide (m ≤ 12)) = true := by simp [hm]
    obtain ⟨hm2, hm12⟩ := hm
    by_cases hl : us.length = t.length
    · have hlen : 0 < us.length := by rw [hl]; exact hg.n1
      obtain ⟨bt, ot, bb, oo, C, rfl, hQ⟩ := hR.sq hg.n1 hg.sq
      rcases hX with hX | ⟨bx, ox, rfl, hbx, hcx⟩
      · subst hX
        exact absurd hlen (by simp)
      refine (l02IsSome_any t m us c c'' B bt ot bx ox bb oo C w hQ hcx hB (by omega) hg hm2 hm12 hl).mono ?_
      rintro e w' ⟨rfl, hb⟩
      refine ⟨?_, hb⟩
      rw [modB, h1, decide_eq_true hl, Bool.true_and, Bool.true_and]
    · have HP := Lib.hid (modB_len (m := m) hl)
      have hb0 : Below w.heap.size w ((w.alloc (.cells #[.slice A t.length c] 32)).alloc (.cells #[.int .i64 m, .slice L us.length c''] 52)) := ((Below.refl _ _).alloc (Nat.le_refl _) _).alloc (by simp) _
      have hne : ((us.length : Int) != (t.length : Int)) = true := by simp; omega
      have hn8 := hg.n8
      clear hl hR hX hg h1
      go_enter Tryz.func82, Tryz.ntmps82
      go_wp2_with fail
      refine (l01In_yes _ _ _ _ hm2 hm12).mono ?_
      rintro e w' ⟨rfl, rfl⟩
      go_wp2_with fail
      go_ret
      exact ⟨by rw [HP.out]; rfl, hb0⟩
  · have h1 : (decide (2 ≤ m) && decide (m ≤ 12)) = false := by
      rw [Bool.and_eq_false_iff]
      by_cases h : 2 ≤ m
      · exact .inr (decide_eq_false fun h' => hm ⟨h, h'⟩)
      · exact .inl (decide_eq_false h)
    have HP := Lib.hid (modB_range (t := t) (us := us) h1)
    have hb0 : Below w.heap.size w ((w.alloc (.cells #[.slice A t.length c] 32)).alloc (.cells #[.int .i64 m, .slice L us.length c''] 52)) := ((Below.refl _ _).alloc (Nat.le_refl _) _).alloc (by simp) _
    have hr : m < 2 ∨ 12 < m := by omega
    clear h1 hm hR hX hg
    go_enter Tryz.func82, Tryz.ntmps82
    go_wp2_with fail
    refine (l01In_no _ _ _ _ hr).mono ?_
    rintro e w' ⟨rfl, rfl⟩
    go_wp2_with fail
    go_ret
    exact ⟨by rw [HP.out]; rfl, hb0⟩

/-- Is it a module, and the code. -/
noncomputable def isModR (t : List (List Int)) (m : Int) (us : List Int) : Bool × Int := if grpB t = true then (modB t m us, 0) else (false, 1)

end Go.Proofs.YtcdijeeabgmgmaaGreatDoor

/- The code for a group and one module: the specification's l02Code. -/
namespace Go.Proofs.YtcdijeeabgmgmaaGreatDoor
open Go.RowKit

/-- Is it a group, and a module of it? -/
noncomputable def gmB (t : List (List Int)) (m : Int) (us : List Int) : Bool := grpB t && modB t m us
noncomputable def gmC (t : List (List Int)) (m : Int) (us : List Int) : Int := if gmB t m us = true then 0 else 1
theorem gmC_no {t : List (List Int)} {m : Int} {us : List Int} (h : gmB t m us = false) : gmC t m us = 1 := by rw [gmC, h]; rfl
theorem gmC_yes {t : List (List Int)} {m : Int} {us : List Int} (h : gmB t m us = true) : gmC t m us = 0 := by rw [gmC, h]; rfl

end Go.Proofs.YtcdijeeabgmgmaaGreatDoor

/- The units that homomorphisms lead to. -/
namespace Go.Proofs.YtcdijeeabgmgmaaGreatDoor
open Go.RowKit

theorem Has.grown {W W' : World} {row : Option Nat} {B : Nat} {e : TypeId} {cs : Array Value} (h : Has W B e cs) (hg : W.grownBy W' row) (hne : ∀ k, row = some k → B ≠ k) : Has W' B e cs :=
  (hg.block B h.lt (fun e' => hne B e'.symm rfl)).trans h

set_option maxRecDepth 100000 in
set_option maxHeartbeats 1000000 in
theorem unitTarget_any (M : Nat) (w : World) (h1 : 2 ≤ M) (h12 : M ≤ 12) :
    Calls Tryz.prog 146 #[.int .i64 (M : Int)] w fun e w' => ∃ A' N c', e = .returned (.agg #[.slice A' N c', .func (.func 153) #[] #[.pointer (some ⟨w.heap.size, 0, none⟩)]]) ∧ Below w.heap.size w w' ∧ Has w' w.heap.size 2 #[.int .i64 (M : Int)] := by
  have hmf : ∀ (fn : Fn) (first cap : Array Value) (w : World), (Instr.makeFunc fn first cap).run Tryz.prog w = .ok (.func fn first cap) w := fun _ _ _ _ => rfl
  have hsf := fun (a : Addr) (c : Array Value) (w : World) => run_store Tryz.prog w a (.func (.func 153) #[] c) .plain rfl
  obtain ⟨i0, hi, hi0, hi1, hi2⟩ := info_parts infoI
  have h0 := ((Has.new w 2 #[.int .i64 (M : Int)]).alloc (.cells #[.slice none 0 0, .nilFunc] 161)).alloc (.cells #[.slice none 0 0, .func (.func 153) #[] #[.pointer (some ⟨w.heap.size, 0, none⟩)]] 161)
  have h1' := (Has.newAt (w := w.alloc (.cells #[.int .i64 (M : Int)] 2)) (e := 161) (cs := #[.slice none 0 0, .nilFunc]) (k := w.heap.size + 1) (by simp)).alloc (.cells #[.slice none 0 0, .func (.func 153) #[] #[.pointer (some ⟨w.heap.size, 0, none⟩)]] 161)
  have h2' := Has.newAt (w := (w.alloc (.cells #[.int .i64 (M : Int)] 2)).alloc (.cells #[.slice none 0 0, .nilFunc] 161)) (e := 161) (cs := #[.slice none 0 0, .func (.func 153) #[] #[.pointer (some ⟨w.heap.size, 0, none⟩)]]) (k := w.heap.size + 1 + 1) (by simp)
  have hb0 : Below w.heap.size w (((w.alloc (.cells #[.int .i64 (M : Int)] 2)).alloc (.cells #[.slice none 0 0, .nilFunc] 161)).alloc (.cells #[.slice none 0 0, .func (.func 153) #[] #[.pointer (some ⟨w.heap.size, 0, none⟩)]] 161)) := (((Below.refl _ _).alloc (Nat.le_refl _) _).alloc (by simp) _).alloc (by simp; omega) _
  have hz0 : ((((w.alloc (.cells #[.int .i64 (M : Int)] 2)).alloc (.cells #[.slice none 0 0, .nilFunc] 161)).alloc (.cells #[.slice none 0 0, .func (.func 153) #[] #[.pointer (some ⟨w.heap.size, 0, none⟩)]] 161))).heap.size = w.heap.size + 1 + 1 + 1 := by simp
  go_enter Tryz.func146, Tryz.ntmps146
  go_wp2_with fail
  generalize (((w.alloc (.cells #[.int .i64 (M : Int)] 2)).alloc (.cells #[.slice none 0 0, .nilFunc] 161)).alloc (.cells #[.slice none 0 0, .func (.func 153) #[] #[.pointer (some ⟨w.heap.size, 0, none⟩)]] 161)) = W at *
  have H0 := Lib.hid h0
  have H1 := Lib.hid h1'
  have H2 := Lib.hid h2'
  have HB0 := Lib.hid hb0
  have HZ0 := Lib.hid hz0
  clear h0 h1' h2' hb0 hz0
  go_loopw [8] (fun i wr => ∃ k : Nat, k ≤ M ∧ i = .int .i64 k ∧ ∃ A' N c' xs, N ≤ k ∧ Hid (Has wr w.heap.size 2 #[.int .i64 (M : Int)]) ∧ Hid (Has wr (w.heap.size + 1) 161 #[.slice none 0 0, .nilFunc]) ∧ Hid (Has wr (w.heap.size + 1 + 1) 161 #[.slice A' N c', .func (.func 153) #[] #[.pointer (some ⟨w.heap.size, 0, none⟩)]]) ∧
    Hid (wr.ownsRow (w.heap.size + 1 + 1 + 1) 2 1 (.slice A' N c') N xs) ∧ Hid (Below w.heap.size w wr) ∧ Hid (w.heap.size + 1 + 1 + 1 ≤ wr.heap.size)) (fun i _ => M - (intOf i).toNat)
  case atStart => exact ⟨0, by omega, rfl, none, 0, 0, [], by omega, H0, H1, H2, Lib.hid ⟨rfl, .inl ⟨rfl, rfl⟩⟩, HB0, Lib.hid (by rw [HZ0.out]; exact Nat.le_refl _)⟩
  case round =>
    obtain ⟨k, hk, rfl, A', N, c', xs, hN, G0, G1, G2, GO, GB, GZ⟩ := hrel
    have hc0 := G0.out.cell 0
    by_cases hlt : k < M
    · obtain ⟨bu, hbu⟩ : ∃ b, unitB (M : Int) (k : Int) = b := ⟨_, rfl⟩
      have hcon := isUnit_any (M : Int) (k : Int) wr (by omega) (by omega)
      rw [hbu] at hcon
      have HCON := Lib.hid hcon
      clear hcon hbu
      go_wp2_with fail
      refine HCON.out.mono ?_
      rintro e w1 ⟨rfl, hd1⟩
      have hb1 := hd1.below wr.heap.size
      have hz1 := hd1.size
      have K0 := Lib.hid (G0.out.below hb1 G0.out.lt)
      have K1 := Lib.hid (G1.out.below hb1 G1.out.lt)
      have K2 := Lib.hid (G2.out.below hb1 G2.out.lt)
      have KO := Lib.hid (own_below GO.out hb1)
      have KB := Lib.hid (GB.out.trans (hb1.mono GB.out.size))
      have KZ := Lib.hid (show w.heap.size + 1 + 1 + 1 ≤ w1.heap.size by rw [hz1]; exact GZ.out)
      clear hd1 hb1 hz1 hc0
      cases bu with
      | false =>
        go_wp2_with fail
        go_roundw
        case rel => exact ⟨k + 1, by omega, by go_num, A', N, c', xs, by omega, K0, K1, K2, KO, KB, KZ⟩
        case measure => simp [intOf]; omega
      | true =>
        have hc2 := K2.out.cell 0
        have hle := KZ.out
        have hlk := KO.out.lt
        have HLK := Lib.hid hlk
        clear hlk
        go_wp2_with (at_builtin; refine wpList_append_own _ rfl _ _ 25 rfl (w.heap.size + 1 + 1 + 1) 2 i0 (.int .i64 0) 1 8 Tryz.underlying25 hi hi0 hi1 hi2 rfl (by decide) _ _ _ rfl (KO.out.alloc _) ⟨w1.heap.size, 0, none⟩ 1 1 [.int .i64 (k : Int)] rfl rfl (cell_one_new _ _ _) (by simp [Value.oneCell']) (by unfold maxLen; omega) (by omega) (by simp; omega) ?_; intro v' w3 hown3 hgrow3 _; have q2 := (K2.out.alloc (.cells #[.int .i64 (k : Int)] 2)).grown hgrow3 (fun k' hk' => by have := (HLK.out k' hk').1; omega); have q2c := q2.cell 0; have q2f := q2.free 0; obtain ⟨g3, cap3, rfl⟩ := ownsRow_succ hown3)
        have r0 := ((K0.out.alloc (.cells #[.int .i64 (k : Int)] 2)).grown hgrow3 (fun k' hk' => by have := (HLK.out k' hk').1; omega)).far (p := ⟨w.heap.size + 1 + 1, 0, none⟩) (by show w.heap.size ≠ w.heap.size + 1 + 1; omega) (.slice (some ⟨g3, 0, none⟩) (N + 1) cap3)
        have r1 := ((K1.out.alloc (.cells #[.int .i64 (k : Int)] 2)).grown hgrow3 (fun k' hk' => by have := (HLK.out k' hk').1; omega)).far (p := ⟨w.heap.size + 1 + 1, 0, none⟩) (by show w.heap.size + 1 ≠ w.heap.size + 1 + 1; omega) (.slice (some ⟨g3, 0, none⟩) (N + 1) cap3)
        have r2 : Has (w3.setCell ⟨w.heap.size + 1 + 1, 0, none⟩ (.slice (some ⟨g3, 0, none⟩) (N + 1) cap3)) (w.heap.size + 1 + 1) 161 #[.slice (some ⟨g3, 0, none⟩) (N + 1) cap3, .func (.func 153) #[] #[.pointer (some ⟨w.heap.size, 0, none⟩)]] := q2.put 0 (.slice (some ⟨g3, 0, none⟩) (N + 1) cap3)
        have rO := hown3.kept (grownBy_setCell' w3 (w.heap.size + 1 + 1) (.slice (some ⟨g3, 0, none⟩) (N + 1) cap3)) (.inr fun e => by have := (hown3.lt _ e).1; omega)
        have rB := ((KB.out.alloc (by omega) (.cells #[.int .i64 (k : Int)] 2)).grown hgrow3 (by simp; omega) (fun k' hk' => by have := (HLK.out k' hk').1; omega)).setCell (p := ⟨w.heap.size + 1 + 1, 0, none⟩) (by show w.heap.size ≤ w.heap.size + 1 + 1; omega) (.slice (some ⟨g3, 0, none⟩) (N + 1) cap3)
        refine ⟨?rel, ?measure⟩
        case rel => exact ⟨k + 1, by omega, by go_num, some ⟨g3, 0, none⟩, N + 1, cap3, _, by omega, r0, r1, r2, rO, rB, r2.lt⟩
        case measure => simp [intOf]; omega
    · have hkk : k = M := by omega
      subst hkk
      have hc2 := G2.out.cell 0
      have hc2' := G2.out.cell 1
      have hc1 := G1.out.cell 0
      have hc1' := G1.out.cell 1
      have hf1 := G1.out.free 0
      have hf1' := G1.out.free 1
      go_wp2_with fail
      have H4 := (G1.out.put 0 (.slice A' N c')).put 1 (.func (.func 153) #[] #[.pointer (some ⟨w.heap.size, 0, none⟩)])
      have c4 := H4.cell 0
      have c4' := H4.cell 1
      refine bodyPost_ret (v := .agg #[.slice A' N c', .func (.func 153) #[] #[.pointer (some ⟨w.heap.size, 0, none⟩)]]) (by simp [results, Tryz.results146, go_sem, c4, c4']) rfl ⟨A', N, c', rfl, ?_, ?_⟩
      · exact (GB.out.setCell (by show w.heap.size ≤ w.heap.size + 1; omega) _).setCell (by show w.heap.size ≤ w.heap.size + 1; omega) _
      · exact (G0.out.far (by show w.heap.size ≠ w.heap.size + 1; omega) _).far (by show w.heap.size ≠ w.heap.size + 1; omega) _

end Go.Proofs.YtcdijeeabgmgmaaGreatDoor
