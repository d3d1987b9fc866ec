/- Homomorphisms: the tests of the program and of the specification. -/
import Derived.Deep.RegionHeld3
import Derived.Test.YtalejhbdbclfaaaDoorMdl
import Derived.Test.YtalejhbdbclfaaaDoorOgr
import Derived.Test.YtalejhbdbclfaaaDoorCel
namespace Go.Proofs.YtalejhbdbclfaaaDoor
open Go.RowKit

/-- Do the images agree with this product? -/
def HomAt (t u : List (List Int)) (xs : List Int) (i j : Nat) : Prop := im xs (mul t i j) = mul u (im xs i) (im xs j)
open Classical in
noncomputable def homB (t u : List (List Int)) (xs : List Int) : Bool := decide (∀ i, i < t.length → ∀ j, j < t.length → HomAt t u xs i j)

theorem homB_true {t u : List (List Int)} {xs : List Int} (h : ∀ i, i < t.length → ∀ j, j < t.length → HomAt t u xs i j) : homB t u xs = true := by
  simp only [homB, decide_eq_true_eq]
  exact h
theorem homB_false {t u : List (List Int)} {xs : List Int} {i j : Nat} (hi : i < t.length) (hj : j < t.length) (h : ¬ HomAt t u xs i j) : homB t u xs = false := by
  simp only [homB, decide_eq_false_iff_not]
  exact fun hk => h (hk i hi j hj)

/-- All that a round of the tests reads. -/
structure HomW (W : World) (g h : Nat) (B b o b' o' b'' o'' c c' : Nat) (bb oo C bb' oo' C' : Nat → Nat) (t u : List (List Int)) (xs : List Int) : Prop where
  hg : Has W g 27 #[.slice (some ⟨b, o, none⟩) t.length c]
  hh : Has W h 27 #[.slice (some ⟨b', o', none⟩) u.length c']
  q : SqT W B b o bb oo C t
  q' : SqT W B b' o' bb' oo' C' u
  x : ∀ k, k < xs.length → W.cell? ⟨b'', o'' + k, none⟩ = some (.int .i64 (nth xs k))
  hB : B ≤ W.heap.size
  hx : b'' < W.heap.size

theorem HomW.below {W W' : World} {g h B b o b' o' b'' o'' c c' : Nat} {bb oo C bb' oo' C' : Nat → Nat} {t u : List (List Int)} {xs : List Int} (hw : HomW W g h B b o b' o' b'' o'' c c' bb oo C bb' oo' C' t u xs) (hb : Below W.heap.size W W') :
    HomW W' g h B b o b' o' b'' o'' c c' bb oo C bb' oo' C' t u xs :=
  ⟨hw.hg.below hb hw.hg.lt, hw.hh.below hb hw.hh.lt, hw.q.below hb hw.hB, hw.q'.below hb hw.hB, fun k hk => (hb.cell (p := ⟨b'', o'' + k, none⟩) hw.hx).trans (hw.x k hk), Nat.le_trans hw.hB hb.size, Nat.lt_of_lt_of_le hw.hx hb.size⟩

theorem HomW.enter {w : World} {B b o b' o' b'' o'' c c' : Nat} {bb oo C bb' oo' C' : Nat → Nat} {t u : List (List Int)} {xs : List Int} (hQ : SqT w B b o bb oo C t) (hQ' : SqT w B b' o' bb' oo' C' u) (hX : ∀ k, k < xs.length → w.cell? ⟨b'', o'' + k, none⟩ = some (.int .i64 (nth xs k)))
    (hB : B ≤ w.heap.size) (hB'' : b'' < w.heap.size) :
    HomW ((w.alloc (.cells #[.slice (some ⟨b, o, none⟩) t.length c] 27)).alloc (.cells #[.slice (some ⟨b', o', none⟩) u.length c'] 27)) w.heap.size (w.heap.size + 1) B b o b' o' b'' o'' c c' bb oo C bb' oo' C' t u xs := by
  have hb0 : Below w.heap.size w ((w.alloc (.cells #[.slice (some ⟨b, o, none⟩) t.length c] 27)).alloc (.cells #[.slice (some ⟨b', o', none⟩) u.length c'] 27)) := ((Below.refl _ _).alloc (Nat.le_refl _) _).alloc (by simp) _
  exact ⟨(Has.new w 27 #[.slice (some ⟨b, o, none⟩) t.length c]).alloc _, Has.newAt (by simp), hQ.below hb0 hB, hQ'.below hb0 hB, fun k hk => (hb0.cell (p := ⟨b'', o'' + k, none⟩) hB'').trans (hX k hk), Nat.le_trans hB hb0.size, Nat.lt_of_lt_of_le hB'' hb0.size⟩

theorem keep_hom (t u : List (List Int)) (xs : List Int) : keepPB t (mul u) xs = homB t u xs := by
  cases h : homB t u xs
  · cases k : keepPB t (mul u) xs
    · rfl
    · have := homB_true (t := t) (u := u) (xs := xs) (keepPB_iff.1 k)
      rw [h] at this
      cases this
  · refine keepPB_true fun i hi j hj => ?_
    simp only [homB, decide_eq_true_eq] at h
    exact h i hi j hj

set_option maxHeartbeats 1000000 in
theorem l01Hom_any (t u : List (List Int)) (xs : List Int) (c c' c'' B b o b' o' b'' o'' : Nat) (bb oo C bb' oo' C' : Nat → Nat) (w : World) (hQ : SqT w B b o bb oo C t) (hQ' : SqT w B b' o' bb' oo' C' u) (hX : ∀ k, k < xs.length → w.cell? ⟨b'', o'' + k, none⟩ = some (.int .i64 (nth xs k)))
    (hB : B ≤ w.heap.size) (hB'' : b'' < w.heap.size) (hg : IsGrp t) (hg' : IsGrp u) (hx : InR u.length xs) (hl : xs.length = t.length) :
    Calls Tryd.prog 93 #[.agg #[.slice (some ⟨b, o, none⟩) t.length c], .agg #[.slice (some ⟨b', o', none⟩) u.length c'], .slice (some ⟨b'', o'', none⟩) xs.length c''] w fun e w' => e = .returned (.bool (homB t u xs)) ∧ Below w.heap.size w w' := by
  have hb0 : Below w.heap.size w ((w.alloc (.cells #[.slice (some ⟨b, o, none⟩) t.length c] 27)).alloc (.cells #[.slice (some ⟨b', o', none⟩) u.length c'] 27)) := ((Below.refl _ _).alloc (Nat.le_refl _) _).alloc (by simp) _
  have hW := HomW.enter (c := c) (c' := c') hQ hQ' hX hB hB''
  have hn8 := hg.n8
  have hn8' := hg'.n8
  have HG := Lib.hid hg
  have HG' := Lib.hid hg'
  have HX := Lib.hid hx
  have HW := Lib.hid hW
  have HL := Lib.hid hl
  clear hQ hQ' hX hg hg' hx hW hl
  go_enter Tryd.func93, Tryd.ntmps93
  go_wp2
  generalize ((w.alloc (.cells #[.slice (some ⟨b, o, none⟩) t.length c] 27)).alloc (.cells #[.slice (some ⟨b', o', none⟩) u.length c'] 27)) = W at *
  go_loopw [7] (fun i wr => ∃ k : Nat, k ≤ t.length ∧ i = .int .i64 k ∧ Below W.heap.size W wr ∧ ∀ i, i < k → ∀ j, j < t.length → HomAt t u xs i j) (fun i _ => t.length - (intOf i).toNat)
  case atStart => exact ⟨0, by omega, rfl, Below.refl _ _, fun i hi => absurd hi (by omega)⟩
  case round =>
    obtain ⟨k, hk, rfl, hd, hs⟩ := hrel
    have HS := Lib.hid hs
    have HD := Lib.hid hd
    have hz := hd.size
    have hbg := (HW.out.below hd).hg.cell 0
    clear hs hd
    go_wp2_with fail
    refine (l01N_any _ t.length c _ (by omega)).mono ?_
    rintro e w1 ⟨rfl, hw1⟩
    have hd1 : Below W.heap.size W w1 := by rw [hw1]; exact HD.out.alloc hz _
    have HD1 := Lib.hid hd1
    clear hd1 hw1 hbg
    by_cases hlt : k < t.length
    · have hkx : k < xs.length := by rw [HL.out]; exact hlt
      obtain ⟨ek, rk⟩ := im_eq HX.out hkx
      have HEK := Lib.hid ek
      clear ek
      go_wp2
      obtain ⟨wo, rfl⟩ : ∃ wo, wo = wr := ⟨_, rfl⟩
      go_loopw [8] (fun i wr => ∃ j : Nat, j ≤ t.length ∧ i = .int .i64 j ∧ Below W.heap.size W wr ∧ ∀ j', j' < j → HomAt t u xs k j') (fun i _ => t.length - (intOf i).toNat)
      case atStart => exact ⟨0, by omega, rfl, HD1.out, fun i hi => absurd hi (by omega)⟩
      case round =>
        obtain ⟨j, hj, rfl, hd, hs2⟩ := hrel
        have HS2 := Lib.hid hs2
        have HD2 := Lib.hid hd
        have hz2 := hd.size
        have hbg := (HW.out.below hd).hg.cell 0
        clear hs2 hd
        go_wp2_with fail
        refine (l01N_any _ t.length c _ (by omega)).mono ?_
        rintro e w2 ⟨rfl, hw2⟩
        have hd : Below W.heap.size W w2 := by rw [hw2]; exact HD2.out.alloc hz2 _
        clear hw2 hbg
        by_cases hlt2 : j < t.length
        · have hwr := HW.out.below hd
          have HD3 := Lib.hid hd
          have hjx : j < xs.length := by rw [HL.out]; exact hlt2
          obtain ⟨ej, rj⟩ := im_eq HX.out hjx
          have hxk := hwr.x k hkx
          rw [HEK.out] at hxk
          have hxj := hwr.x j hjx
          rw [ej] at hxj
          have hbg := hwr.hg.cell 0
          have hbh := hwr.hh.cell 0
          have hrow := hwr.q.row_ hlt
          have hent := hwr.q.mul_ HG.out hlt hlt2
          have hm := HG.out.mul_lt hlt hlt2
          have hml : mul t k j < xs.length := by rw [HL.out]; exact hm
          obtain ⟨em, rm⟩ := im_eq HX.out hml
          have hxm := hwr.x _ hml
          rw [em] at hxm
          have hrow' := hwr.q'.row_ rk
          have hent' := hwr.q'.mul_ HG'.out rk rj
          have hat : HomAt t u xs k j ↔ im xs (mul t k j) = mul u (im xs k) (im xs j) := Iff.rfl
          have HAT := Lib.hid hat
          clear hwr hd ej em hat
          generalize im xs (mul t k j) = v at *
          generalize mul u (im xs k) (im xs j) = z at *
          generalize im xs j = q at *
          generalize im xs k = p at *
          generalize mul t k j = m at *
          by_cases hq : v = z
          · have hq' : ((v : Int) != (z : Int)) = false := by simp [hq]
            have HQQ := Lib.hid hq
            clear hq
            go_wp2
            go_quiet (fail)
            go_wp2
            go_roundw
            case rel => exact ⟨j + 1, by omega, by go_num, below_drewN HD3.out _, fun i hi => by
              rcases Nat.lt_or_ge i j with h | h
              · exact HS2.out i h
              · obtain rfl : i = j := by omega
                exact HAT.out.2 HQQ.out⟩
            case measure => simp [intOf]; omega
          · have hq' : ((v : Int) != (z : Int)) = true := by simp; omega
            have HQQ := Lib.hid hq
            clear hq
            go_wp2
            go_quiet (fail)
            go_wp2
            go_ret
            exact ⟨by rw [homB_false hlt hlt2 (fun h => HQQ.out (HAT.out.1 h))]; rfl, hb0.trans ((below_drewN HD3.out _).mono hb0.size)⟩
        · have hjj : j = t.length := by omega
          subst hjj
          have HD3 := Lib.hid hd
          clear hd
          go_wp2
          go_roundw
          case rel => exact ⟨k + 1, by omega, by go_num, HD3.out, fun i hi j' hj' => by
            rcases Nat.lt_or_ge i k with h | h
            · exact HS.out i h j' hj'
            · obtain rfl : i = k := by omega
              exact HS2.out j' (by omega)⟩
          case measure => simp [intOf]; omega
    · have hkk : k = t.length := by omega
      subst hkk
      go_wp2
      go_ret
      exact ⟨by rw [homB_true (fun i hi => HS.out i (by omega))]; rfl, hb0.trans (HD1.out.mono hb0.size)⟩

open Classical in
/-- Are all numbers of the list elements? -/
noncomputable def inRB (n : Nat) (xs : List Int) : Bool := decide (InR n xs)

theorem belowB_inRB (n : Nat) (xs : List Int) : belowB (n : Int) xs = inRB n xs := by
  cases hb : belowB (n : Int) xs
  · have : ¬ InR n xs := fun h => by
      have h2 : belowB (n : Int) xs = true := belowB_iff.2 fun i hi => inB_of (h i hi).1 (by have := (h i hi).2; omega)
      rw [h2] at hb
      cases hb
    simp [inRB, this]
  · simp [inRB, belowB_inR hb]

theorem isElementList_any (A L : Option Addr) (n c c' B' : Nat) (xs : List Int) (w : World) (hX : Ints w B' L xs) (hB' : B' ≤ w.heap.size) (hn : n ≤ 1048576) (hx : xs.length ≤ 1048576) :
    Calls Tryd.prog 119 #[.agg #[.slice A n c], .slice L xs.length c'] w fun e w' => e = .returned (.bool (inRB n xs)) ∧ Below w.heap.size w w' := by
  have e0 := Ex.new w (.cells #[.slice A n c] 27)
  have HX := Lib.hid ((IntsW.of hX hB').ex e0)
  have HQ := Lib.hid (belowB_inRB n xs)
  clear hX
  go_enter Tryd.func119, Tryd.ntmps119
  go_wp2_with fail
  generalize (w.alloc (.cells #[.slice A n c] 27)) = W0 at *
  refine (groupOrder_ex A n c W0 hn).mono ?_
  rintro e W1 ⟨rfl, he1⟩
  obtain ⟨bv, hbv⟩ : ∃ b, belowB (n : Int) xs = b := ⟨_, rfl⟩
  have HBV := Lib.hid hbv
  clear hbv
  go_wp2_with (go_at_call 184; refine (areBelow_any L (n : Int) xs c' _ (HX.out.ex he1) hx (by omega) (by omega)).mono ?_; rw [HBV.out]; rintro e w' ⟨rfl, he2⟩)
  go_ret
  exact ⟨by rw [← HQ.out, HBV.out]; rfl, e0.trans (he1.trans he2)⟩

set_option maxHeartbeats 1000000 in
theorem isImageList_any (A A' L : Option Addr) (n m c c' c'' B' : Nat) (xs : List Int) (w : World) (hX : Ints w B' L xs) (hB' : B' ≤ w.heap.size) (hn : n ≤ 1048576) (hm : m ≤ 1048576) (hx : xs.length ≤ 1048576) :
    Calls Tryd.prog 146 #[.agg #[.slice A n c], .agg #[.slice A' m c'], .slice L xs.length c''] w fun e w' => e = .returned (.bool (decide (xs.length = n) && inRB m xs)) ∧ Below w.heap.size w w' := by
  have hb0 : Below w.heap.size w ((w.alloc (.cells #[.slice A n c] 27)).alloc (.cells #[.slice A' m c'] 27)) := ((Below.refl _ _).alloc (Nat.le_refl _) _).alloc (by simp) _
  have h0 := Has.newAt (w := w.alloc (.cells #[.slice A n c] 27)) (e := 27) (cs := #[.slice A' m c']) (k := w.heap.size + 1) (by simp)
  have hX0 := hX.below hb0 hB'
  have HX0 := Lib.hid hX0
  have hz0 : ((w.alloc (.cells #[.slice A n c] 27)).alloc (.cells #[.slice A' m c'] 27)).heap.size = w.heap.size + 1 + 1 := by simp
  have c0 := ((Has.new w 27 #[.slice A n c]).alloc (.cells #[.slice A' m c'] 27)).cell 0
  have hz0' := hb0.size
  have C0 : Hid (((w.alloc (.cells #[.slice A n c] 27)).alloc (.cells #[.slice A' m c'] 27)).cell? ⟨w.heap.size, 0, none⟩ = some (.slice A n c)) := c0
  clear hX hX0
  by_cases he : xs.length = n
  · have he' : ((xs.length : Int) == (n : Int)) = true := by simp [he]
    have HE := Lib.hid he
    clear he c0
    have c0 := C0.out
    go_enter Tryd.func146, Tryd.ntmps146
    go_wp2_with fail
    refine (groupOrder_any A n c _ hn).mono ?_
    rintro e W1 ⟨rfl, hW1⟩
    have hb1 : Below ((w.alloc (.cells #[.slice A n c] 27)).alloc (.cells #[.slice A' m c'] 27)).heap.size ((w.alloc (.cells #[.slice A n c] 27)).alloc (.cells #[.slice A' m c'] 27)) W1 := by rw [hW1]; exact (Below.refl _ _).alloc (Nat.le_refl _) _
    have c1 := (h0.below hb1 h0.lt).cell 0
    have HX1 := Lib.hid (HX0.out.below hb1 (by omega))
    have hbw := hb0.trans (hb1.mono hz0')
    clear hW1 h0 c0 hb0 hb1 hz0
    go_wp2_with fail
    refine (isElementList_any A' L m c' c'' B' xs W1 HX1.out (by have := hbw.size; omega) hm hx).mono ?_
    rintro e W2 ⟨rfl, hb2⟩
    go_wp2
    go_ret
    refine ⟨?_, hbw.trans (hb2.mono hbw.size)⟩
    rw [decide_eq_true HE.out, Bool.true_and]
    rfl
  · have he' : ((xs.length : Int) == (n : Int)) = false := by simp; omega
    have HE := Lib.hid he
    clear he c0
    have c0 := C0.out
    go_enter Tryd.func146, Tryd.ntmps146
    go_wp2_with fail
    refine (groupOrder_any A n c _ hn).mono ?_
    rintro e W1 ⟨rfl, hW1⟩
    have hb1 : Below ((w.alloc (.cells #[.slice A n c] 27)).alloc (.cells #[.slice A' m c'] 27)).heap.size ((w.alloc (.cells #[.slice A n c] 27)).alloc (.cells #[.slice A' m c'] 27)) W1 := by rw [hW1]; exact (Below.refl _ _).alloc (Nat.le_refl _) _
    have hbw := hb0.trans (hb1.mono hz0')
    clear hW1 h0 c0 hb0 hb1 hz0
    go_wp2
    go_ret
    refine ⟨?_, hbw⟩
    rw [decide_eq_false HE.out, Bool.false_and]
    rfl

open Classical in
/-- Is the list a homomorphism, and the code. -/
noncomputable def homR (t u : List (List Int)) (xs : List Int) : Bool × Int :=
  if IsGrp t ∧ IsGrp u then (if xs.length = t.length ∧ InR u.length xs then (homB t u xs, 0) else (false, 2)) else (false, 1)

theorem SqT.more {w : World} {B B' b o : Nat} {bb oo C : Nat → Nat} {t : List (List Int)} (h : SqT w B b o bb oo C t) (hB : B ≤ B') : SqT w B' b o bb oo C t :=
  ⟨Nat.lt_of_lt_of_le h.1 hB, fun i hi => ⟨(h.2 i hi).1, Nat.lt_of_lt_of_le (h.2 i hi).2.1 hB, (h.2 i hi).2.2⟩⟩

theorem not_grp {t : List (List Int)} (h : grpB t = false) : ¬ IsGrp t := fun hg => by have := grpB_true hg; rw [h] at this; cases this

end Go.Proofs.YtalejhbdbclfaaaDoor
