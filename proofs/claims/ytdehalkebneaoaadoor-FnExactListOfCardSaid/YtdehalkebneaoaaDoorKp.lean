/- Products kept by a list of images: towards a group, and towards units. -/
import Derived.Test.YtdehalkebneaoaaDoorCol
import Derived.Test.YtdehalkebneaoaaDoorOrd
import Derived.Test.YtdehalkebneaoaaDoorGcd
namespace Go.Proofs.YtdehalkebneaoaaDoor
open Go.RowKit

/-- The image of an element. -/
def im (xs : List Int) (k : Nat) : Nat := (nth xs k).toNat
theorem im_eq {n : Nat} {xs : List Int} (h : InR n xs) {k : Nat} (hk : k < xs.length) : nth xs k = (im xs k : Int) ∧ im xs k < n := by
  have h1 := h k hk
  unfold im
  omega

/-- Do the images agree with this product? -/
def KeepAtP (t : List (List Int)) (P : Nat → Nat → Nat) (xs : List Int) (i j : Nat) : Prop := im xs (mul t i j) = P (im xs i) (im xs j)
open Classical in
noncomputable def keepPB (t : List (List Int)) (P : Nat → Nat → Nat) (xs : List Int) : Bool := decide (∀ i, i < t.length → ∀ j, j < t.length → KeepAtP t P xs i j)

section
variable {t : List (List Int)} {P : Nat → Nat → Nat} {xs : List Int}
theorem keepPB_iff : keepPB t P xs = true ↔ ∀ i, i < t.length → ∀ j, j < t.length → KeepAtP t P xs i j := by
  simp only [keepPB, decide_eq_true_eq]
theorem keepPB_true (h : ∀ i, i < t.length → ∀ j, j < t.length → KeepAtP t P xs i j) : keepPB t P xs = true := keepPB_iff.2 h
theorem keepPB_false {i j : Nat} (hi : i < t.length) (hj : j < t.length) (h : ¬ KeepAtP t P xs i j) : keepPB t P xs = false := by
  simp only [keepPB, decide_eq_false_iff_not]
  exact fun hk => h (hk i hi j hj)
end

/-- All that a round of the tests reads. -/
structure KpW (W : World) (g h : Nat) (B b o b'' o'' c : Nat) (V F : Value) (bb oo C : Nat → Nat) (t : List (List Int)) (xs : List Int) : Prop where
  hg : Has W g 29 #[.slice (some ⟨b, o, none⟩) t.length c]
  hh : Has W h 153 #[V, F]
  q : SqT W B b o bb oo C t
  x : ∀ k, k < xs.length → W.cell? ⟨b'', o'' + k, none⟩ = some (.int .i64 (nth xs k))
  hB : B ≤ W.heap.size
  hx : b'' < W.heap.size

theorem KpW.below {W W' : World} {g h B b o b'' o'' c : Nat} {V F : Value} {bb oo C : Nat → Nat} {t : List (List Int)} {xs : List Int} (hw : KpW W g h B b o b'' o'' c V F bb oo C t xs) (hb : Below W.heap.size W W') :
    KpW W' g h B b o b'' o'' c V F bb oo C t xs :=
  ⟨hw.hg.below hb hw.hg.lt, hw.hh.below hb hw.hh.lt, hw.q.below hb hw.hB, fun k hk => (hb.cell (p := ⟨b'', o'' + k, none⟩) hw.hx).trans (hw.x k hk), Nat.le_trans hw.hB hb.size, Nat.lt_of_lt_of_le hw.hx hb.size⟩

theorem KpW.enter {w : World} {B b o b'' o'' c : Nat} {V F : Value} {bb oo C : Nat → Nat} {t : List (List Int)} {xs : List Int} (hQ : SqT w B b o bb oo C t) (hX : ∀ k, k < xs.length → w.cell? ⟨b'', o'' + k, none⟩ = some (.int .i64 (nth xs k)))
    (hB : B ≤ w.heap.size) (hB'' : b'' < w.heap.size) :
    KpW ((w.alloc (.cells #[.slice (some ⟨b, o, none⟩) t.length c] 29)).alloc (.cells #[V, F] 153)) w.heap.size (w.heap.size + 1) B b o b'' o'' c V F bb oo C t xs := by
  have hb0 : Below w.heap.size w ((w.alloc (.cells #[.slice (some ⟨b, o, none⟩) t.length c] 29)).alloc (.cells #[V, F] 153)) := ((Below.refl _ _).alloc (Nat.le_refl _) _).alloc (by simp) _
  exact ⟨(Has.new w 29 #[.slice (some ⟨b, o, none⟩) t.length c]).alloc _, Has.newAt (by simp), hQ.below hb0 hB, fun k hk => (hb0.cell (p := ⟨b'', o'' + k, none⟩) hB'').trans (hX k hk), Nat.le_trans hB hb0.size, Nat.lt_of_lt_of_le hB'' hb0.size⟩

set_option maxHeartbeats 400000 in
theorem groupProd_any (u : List (List Int)) (x y Bx c B b o : Nat) (bb oo C : Nat → Nat) (w : World) (hbox : w.cell? ⟨Bx, 0, none⟩ = some (.slice (some ⟨b, o, none⟩) u.length c)) (hQ : SqT w B b o bb oo C u) (hg : IsGrp u) (hx : x < u.length) (hy : y < u.length) :
    Calls Tryd.prog 167 #[.int .i64 (x : Int), .int .i64 (y : Int), .pointer (some ⟨Bx, 0, none⟩)] w fun e w' => e = .returned (.int .i64 (mul u x y : Int)) ∧ w' = w := by
  have hrow := hQ.row_ hx
  have hent := hQ.mul_ hg hx hy
  have hn8 := hg.n8
  clear hQ hg
  go_enter Tryd.func167, Tryd.ntmps167
  go_wp2
  go_ret
  exact ⟨rfl, rfl⟩

/-- The product of units. -/
def umul (m x y : Nat) : Nat := x * y % m

set_option maxHeartbeats 400000 in
theorem unitProd_any (m x y Bx : Nat) (w : World) (hbox : w.cell? ⟨Bx, 0, none⟩ = some (.int .i64 (m : Int))) (hm : m ≤ 12) (hx : x < m) (hy : y < m) :
    Calls Tryd.prog 169 #[.int .i64 (x : Int), .int .i64 (y : Int), .pointer (some ⟨Bx, 0, none⟩)] w fun e w' => e = .returned (.int .i64 (umul m x y : Int)) ∧ w' = w := by
  have h1 : x * y ≤ 144 := Nat.le_trans (Nat.mul_le_mul (show x ≤ 12 by omega) (show y ≤ 12 by omega)) (by omega)
  have hp : (x : Int) * (y : Int) = ((x * y : Nat) : Int) := by simp
  have HU : Hid (umul m x y = x * y % m) := Lib.hid rfl
  have ht := tmod_nat (x * y) m
  generalize x * y = z at *
  have hm0 : 0 < m := by omega
  have hne : ((m : Int) != 0) = true := by simp; omega
  have hlt : z % m < m := Nat.mod_lt _ hm0
  go_enter Tryd.func169, Tryd.ntmps169
  go_wp2
  go_ret
  exact ⟨by rw [HU.out]; rfl, rfl⟩

set_option maxHeartbeats 1000000 in
theorem keepsProductsG_any (t : List (List Int)) (P : Nat → Nat → Nat) (n : Nat) (V ptr : Value) (xs : List Int) (c c'' B b o b'' o'' : Nat) (bb oo C : Nat → Nat) (w : World) (hQ : SqT w B b o bb oo C t) (hX : ∀ k, k < xs.length → w.cell? ⟨b'', o'' + k, none⟩ = some (.int .i64 (nth xs k)))
    (hB : B ≤ w.heap.size) (hB'' : b'' < w.heap.size) (hg : IsGrp t) (_ : n ≤ 12) (hx : InR n xs) (hl : xs.length = t.length)
    (hP : ∀ W', Below w.heap.size w W' → ∀ x y : Nat, x < n → y < n → Calls Tryd.prog 167 #[.int .i64 (x : Int), .int .i64 (y : Int), ptr] W' fun e w' => e = .returned (.int .i64 (P x y : Int)) ∧ w' = W') (hPn : ∀ x y : Nat, x < n → y < n → P x y < n) :
    Calls Tryd.prog 137 #[.agg #[.slice (some ⟨b, o, none⟩) t.length c], .agg #[V, .func (.func 167) #[] #[ptr]], .slice (some ⟨b'', o'', none⟩) xs.length c''] w fun e w' => e = .returned (.bool (keepPB t P xs)) ∧ Below w.heap.size w w' := by
  have hb0 : Below w.heap.size w ((w.alloc (.cells #[.slice (some ⟨b, o, none⟩) t.length c] 29)).alloc (.cells #[V, .func (.func 167) #[] #[ptr]] 153)) := ((Below.refl _ _).alloc (Nat.le_refl _) _).alloc (by simp) _
  have hW := KpW.enter (c := c) (V := V) (F := .func (.func 167) #[] #[ptr]) hQ hX hB hB''
  have hn8 := hg.n8
  have hx8 : xs.length ≤ 8 := by omega
  have HG := Lib.hid hg
  have HX := Lib.hid hx
  have HW := Lib.hid hW
  have HL := Lib.hid hl
  have HP := Lib.hid hP
  have HPN := Lib.hid hPn
  have hz0 := hb0.size
  clear hQ hX hg hx hW hP hPn hl
  go_enter Tryd.func137, Tryd.ntmps137
  go_wp2_with fail
  generalize ((w.alloc (.cells #[.slice (some ⟨b, o, none⟩) t.length c] 29)).alloc (.cells #[V, .func (.func 167) #[] #[ptr]] 153)) = W at *
  go_loopw [14] (fun i wr => ∃ k : Nat, k ≤ xs.length ∧ i = .int .i64 k ∧ Drawn W wr ∧ ∀ i, i < k → ∀ j, j < t.length → KeepAtP t P xs i j) (fun i _ => xs.length - (intOf i).toNat)
  case atStart => exact ⟨0, by omega, rfl, Drawn.refl _, fun i hi => absurd hi (by omega)⟩
  case round =>
    obtain ⟨k, hk, rfl, hd, hs⟩ := hrel
    have HS := Lib.hid hs
    have HD := Lib.hid hd
    clear hs
    by_cases hlt : k < xs.length
    · obtain ⟨ek, rk⟩ := im_eq HX.out hlt
      have hxk := ((HW.out.below (hd.below _)).x k hlt)
      rw [ek] at hxk
      clear ek hd
      generalize hpk : im xs k = p at *
      have HPK := Lib.hid hpk
      clear hpk
      go_wp2_with fail
      obtain ⟨wo, rfl⟩ : ∃ wo, wo = wr := ⟨_, rfl⟩
      clear hxk
      go_loopw [21] (fun i wr => ∃ j : Nat, j ≤ xs.length ∧ i = .int .i64 j ∧ Drawn W wr ∧ ∀ j', j' < j → KeepAtP t P xs k j') (fun i _ => xs.length - (intOf i).toNat)
      case atStart => exact ⟨0, by omega, rfl, HD.out, fun i hi => absurd hi (by omega)⟩
      case round =>
        obtain ⟨j, hj, rfl, hd, hs2⟩ := hrel
        have HS2 := Lib.hid hs2
        have HD2 := Lib.hid hd
        clear hs2
        by_cases hlt2 : j < xs.length
        · have hbl := hd.below W.heap.size
          have hwr := HW.out.below hbl
          obtain ⟨ej, rj⟩ := im_eq HX.out hlt2
          have hxj := hwr.x j hlt2
          rw [ej] at hxj
          have hbg := hwr.hg.cell 0
          have hbh0 := hwr.hh.cell 0
          have hbh := hwr.hh.cell 1
          have hkt : k < t.length := by rw [← HL.out]; exact hlt
          have hjt : j < t.length := by rw [← HL.out]; exact hlt2
          have hrow := hwr.q.row_ hkt
          have hent := hwr.q.mul_ HG.out hkt hjt
          have hm := HG.out.mul_lt hkt hjt
          have hml : mul t k j < xs.length := by rw [HL.out]; exact hm
          obtain ⟨em, rm⟩ := im_eq HX.out hml
          have hxm := hwr.x _ hml
          rw [em] at hxm
          have hpn := HPN.out p (im xs j) rk rj
          have HCC := Lib.hid (fun i : Nat => HP.out (wr.drewN i) (below_drewN (hb0.trans (hbl.mono hz0)) i) p (im xs j) rk rj)
          have hat : KeepAtP t P xs k j ↔ im xs (mul t k j) = P p (im xs j) := by unfold KeepAtP; rw [HPK.out]
          have HAT := Lib.hid hat
          clear hwr hd ej em hat hbl
          generalize im xs (mul t k j) = v at *
          generalize P p (im xs j) = z at *
          generalize im xs j = q at *
          generalize mul t k j = m at *
          have hlm : decide ((m : Int) < (xs.length : Int)) = true := by simp; omega
          by_cases hq : v = z
          · have hq' : ((v : Int) != (z : Int)) = false := by simp [hq]
            have HQQ := Lib.hid hq
            clear hq
            go_wp2_with fail
            go_quiet ((go_at_call 167; exact Calls.quiet_of_same (HCC.out _)))
            go_wp2_with fail
            go_roundw
            case rel => exact ⟨j + 1, by omega, by go_num, HD2.out.more _, fun i hi => by
              rcases Nat.lt_or_ge i j with h | h
              · exact HS2.out i h
              · obtain rfl : i = j := by omega
                exact HAT.out.2 HQQ.out⟩
            case measure => simp [intOf]; omega
          · have hq' : ((v : Int) != (z : Int)) = true := by simp; omega
            have HQQ := Lib.hid hq
            clear hq
            go_wp2_with fail
            go_quiet ((go_at_call 167; exact Calls.quiet_of_same (HCC.out _)))
            go_wp2_with fail
            go_ret
            exact ⟨by rw [keepPB_false hkt hjt (fun h => HQQ.out (HAT.out.1 h))]; rfl, hb0.trans ((HD2.out.more _).below _)⟩
        · have hjj : j = xs.length := by omega
          subst hjj
          clear hd
          go_wp2_with fail
          go_roundw
          case rel => exact ⟨k + 1, by omega, by go_num, HD2.out, fun i hi j' hj' => by
            rcases Nat.lt_or_ge i k with h | h
            · exact HS.out i h j' hj'
            · obtain rfl : i = k := by omega
              exact HS2.out j' (by rw [HL.out]; exact hj')⟩
          case measure => simp [intOf]; omega
    · have hkk : k = xs.length := by omega
      subst hkk
      go_wp2_with fail
      go_ret
      exact ⟨by rw [keepPB_true (fun i hi => HS.out i (by rw [HL.out]; exact hi))]; rfl, hb0.trans (HD.out.below _)⟩

set_option maxHeartbeats 1000000 in
theorem keepsProductsU_any (t : List (List Int)) (P : Nat → Nat → Nat) (n : Nat) (V ptr : Value) (xs : List Int) (c c'' B b o b'' o'' : Nat) (bb oo C : Nat → Nat) (w : World) (hQ : SqT w B b o bb oo C t) (hX : ∀ k, k < xs.length → w.cell? ⟨b'', o'' + k, none⟩ = some (.int .i64 (nth xs k)))
    (hB : B ≤ w.heap.size) (hB'' : b'' < w.heap.size) (hg : IsGrp t) (_ : n ≤ 12) (hx : InR n xs) (hl : xs.length = t.length)
    (hP : ∀ W', Below w.heap.size w W' → ∀ x y : Nat, x < n → y < n → Calls Tryd.prog 169 #[.int .i64 (x : Int), .int .i64 (y : Int), ptr] W' fun e w' => e = .returned (.int .i64 (P x y : Int)) ∧ w' = W') (hPn : ∀ x y : Nat, x < n → y < n → P x y < n) :
    Calls Tryd.prog 137 #[.agg #[.slice (some ⟨b, o, none⟩) t.length c], .agg #[V, .func (.func 169) #[] #[ptr]], .slice (some ⟨b'', o'', none⟩) xs.length c''] w fun e w' => e = .returned (.bool (keepPB t P xs)) ∧ Below w.heap.size w w' := by
  have hb0 : Below w.heap.size w ((w.alloc (.cells #[.slice (some ⟨b, o, none⟩) t.length c] 29)).alloc (.cells #[V, .func (.func 169) #[] #[ptr]] 153)) := ((Below.refl _ _).alloc (Nat.le_refl _) _).alloc (by simp) _
  have hW := KpW.enter (c := c) (V := V) (F := .func (.func 169) #[] #[ptr]) hQ hX hB hB''
  have hn8 := hg.n8
  have hx8 : xs.length ≤ 8 := by omega
  have HG := Lib.hid hg
  have HX := Lib.hid hx
  have HW := Lib.hid hW
  have HL := Lib.hid hl
  have HP := Lib.hid hP
  have HPN := Lib.hid hPn
  have hz0 := hb0.size
  clear hQ hX hg hx hW hP hPn hl
  go_enter Tryd.func137, Tryd.ntmps137
  go_wp2_with fail
  generalize ((w.alloc (.cells #[.slice (some ⟨b, o, none⟩) t.length c] 29)).alloc (.cells #[V, .func (.func 169) #[] #[ptr]] 153)) = W at *
  go_loopw [14] (fun i wr => ∃ k : Nat, k ≤ xs.length ∧ i = .int .i64 k ∧ Drawn W wr ∧ ∀ i, i < k → ∀ j, j < t.length → KeepAtP t P xs i j) (fun i _ => xs.length - (intOf i).toNat)
  case atStart => exact ⟨0, by omega, rfl, Drawn.refl _, fun i hi => absurd hi (by omega)⟩
  case round =>
    obtain ⟨k, hk, rfl, hd, hs⟩ := hrel
    have HS := Lib.hid hs
    have HD := Lib.hid hd
    clear hs
    by_cases hlt : k < xs.length
    · obtain ⟨ek, rk⟩ := im_eq HX.out hlt
      have hxk := ((HW.out.below (hd.below _)).x k hlt)
      rw [ek] at hxk
      clear ek hd
      generalize hpk : im xs k = p at *
      have HPK := Lib.hid hpk
      clear hpk
      go_wp2_with fail
      obtain ⟨wo, rfl⟩ : ∃ wo, wo = wr := ⟨_, rfl⟩
      clear hxk
      go_loopw [21] (fun i wr => ∃ j : Nat, j ≤ xs.length ∧ i = .int .i64 j ∧ Drawn W wr ∧ ∀ j', j' < j → KeepAtP t P xs k j') (fun i _ => xs.length - (intOf i).toNat)
      case atStart => exact ⟨0, by omega, rfl, HD.out, fun i hi => absurd hi (by omega)⟩
      case round =>
        obtain ⟨j, hj, rfl, hd, hs2⟩ := hrel
        have HS2 := Lib.hid hs2
        have HD2 := Lib.hid hd
        clear hs2
        by_cases hlt2 : j < xs.length
        · have hbl := hd.below W.heap.size
          have hwr := HW.out.below hbl
          obtain ⟨ej, rj⟩ := im_eq HX.out hlt2
          have hxj := hwr.x j hlt2
          rw [ej] at hxj
          have hbg := hwr.hg.cell 0
          have hbh0 := hwr.hh.cell 0
          have hbh := hwr.hh.cell 1
          have hkt : k < t.length := by rw [← HL.out]; exact hlt
          have hjt : j < t.length := by rw [← HL.out]; exact hlt2
          have hrow := hwr.q.row_ hkt
          have hent := hwr.q.mul_ HG.out hkt hjt
          have hm := HG.out.mul_lt hkt hjt
          have hml : mul t k j < xs.length := by rw [HL.out]; exact hm
          obtain ⟨em, rm⟩ := im_eq HX.out hml
          have hxm := hwr.x _ hml
          rw [em] at hxm
          have hpn := HPN.out p (im xs j) rk rj
          have HCC := Lib.hid (fun i : Nat => HP.out (wr.drewN i) (below_drewN (hb0.trans (hbl.mono hz0)) i) p (im xs j) rk rj)
          have hat : KeepAtP t P xs k j ↔ im xs (mul t k j) = P p (im xs j) := by unfold KeepAtP; rw [HPK.out]
          have HAT := Lib.hid hat
          clear hwr hd ej em hat hbl
          generalize im xs (mul t k j) = v at *
          generalize P p (im xs j) = z at *
          generalize im xs j = q at *
          generalize mul t k j = m at *
          have hlm : decide ((m : Int) < (xs.length : Int)) = true := by simp; omega
          by_cases hq : v = z
          · have hq' : ((v : Int) != (z : Int)) = false := by simp [hq]
            have HQQ := Lib.hid hq
            clear hq
            go_wp2_with fail
            go_quiet ((go_at_call 169; exact Calls.quiet_of_same (HCC.out _)))
            go_wp2_with fail
            go_roundw
            case rel => exact ⟨j + 1, by omega, by go_num, HD2.out.more _, fun i hi => by
              rcases Nat.lt_or_ge i j with h | h
              · exact HS2.out i h
              · obtain rfl : i = j := by omega
                exact HAT.out.2 HQQ.out⟩
            case measure => simp [intOf]; omega
          · have hq' : ((v : Int) != (z : Int)) = true := by simp; omega
            have HQQ := Lib.hid hq
            clear hq
            go_wp2_with fail
            go_quiet ((go_at_call 169; exact Calls.quiet_of_same (HCC.out _)))
            go_wp2_with fail
            go_ret
            exact ⟨by rw [keepPB_false hkt hjt (fun h => HQQ.out (HAT.out.1 h))]; rfl, hb0.trans ((HD2.out.more _).below _)⟩
        · have hjj : j = xs.length := by omega
          subst hjj
          clear hd
          go_wp2_with fail
          go_roundw
          case rel => exact ⟨k + 1, by omega, by go_num, HD2.out, fun i hi j' hj' => by
            rcases Nat.lt_or_ge i k with h | h
            · exact HS.out i h j' hj'
            · obtain rfl : i = k := by omega
              exact HS2.out j' (by rw [HL.out]; exact hj')⟩
          case measure => simp [intOf]; omega
    · have hkk : k = xs.length := by omega
      subst hkk
      go_wp2_with fail
      go_ret
      exact ⟨by rw [keepPB_true (fun i hi => HS.out i (by rw [HL.out]; exact hi))]; rfl, hb0.trans (HD.out.below _)⟩

end Go.Proofs.YtdehalkebneaoaaDoor
