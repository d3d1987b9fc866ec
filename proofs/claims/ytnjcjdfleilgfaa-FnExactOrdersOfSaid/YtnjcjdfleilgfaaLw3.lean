/- The law of OrdersOf: the walk. -/
import Derived.Test.YtnjcjdfleilgfaaLw1
import Derived.Test.YtnjcjdfleilgfaaMg
import Derived.Test.YtnjcjdfleilgfaaOri
namespace Go.Proofs.Ytnjcjdfleilgfaa
open Go.RowKit

theorem OwnI.same {w w' : World} {lo : Nat} {A : Option Addr} {xs : List Int} (h : OwnI w lo A xs) (hs : w.heap.size ≤ w'.heap.size) (he : ∀ b, lo ≤ b → b < w.heap.size → w'.heap[b]? = w.heap[b]?) : OwnI w' lo A xs := by
  obtain ⟨b, o, h1, h2, h3, h4⟩ := h
  have hb := he b h2 h3
  exact ⟨b, o, h1, h2, by omega, fun j hj => ⟨(cell_of_block hb _).trans (h4 j hj).1, (frozen_of_block hb _).trans (h4 j hj).2⟩⟩

theorem ordersR_small (t : List (List Int)) : (ordersR t).length ≤ 8 := by
  unfold ordersR
  cases h : grpB t with
  | false => simp
  | true => simpa using (grpB_iff.1 h).n8

set_option maxRecDepth 100000 in
set_option maxHeartbeats 2000000 in
theorem lawOrdersOf_any (A : Option Addr) (t : List (List Int)) (c : Nat) (w : World) (hR : Rws w w.heap.size A t) (hn : t.length ≤ maxLen) (hl : ∀ i, i < t.length → (row t i).length ≤ maxLen) :
    Calls Try.prog 6 #[.agg #[.slice A t.length c]] w fun e w' => e = .returned (.bool true) ∧ Below w.heap.size w w' := by
  have hb0 : Below w.heap.size w (w.alloc (.cells #[.slice A t.length c] 24)) := (Below.refl _ _).alloc (Nat.le_refl _) _
  have hR0 := hR.below hb0 (Nat.le_refl _)
  have h0 := Has.new w 24 #[.slice A t.length c]
  have hz0 : (w.alloc (.cells #[.slice A t.length c] 24)).heap.size = w.heap.size + 1 := by simp
  have HN := Lib.hid hn
  have HL := Lib.hid hl
  have HR := Lib.hid hR0
  clear hn hl hR hR0
  go_enter Try.func6, Try.ntmps6
  go_wp2_with fail
  generalize (w.alloc (.cells #[.slice A t.length c] 24)) = W0 at *
  refine (szGroup_any A t c 1048576 W0 (HR.out.more (by omega)) HN.out HL.out (by omega) (by omega)).mono ?_
  rintro e W1 ⟨⟨r, rfl, hr⟩, rfl⟩
  have hb1 : Below W0.heap.size W0 (W0.alloc (.cells #[.slice A t.length c] 24)) := (Below.refl _ _).alloc (Nat.le_refl _) _
  have h1 := h0.below hb1 h0.lt
  have c1 := h1.cell 0
  have hz1 := hb1.size
  have hz1' : (W0.alloc (.cells #[.slice A t.length c] 24)).heap.size = W0.heap.size + 1 := by simp
  generalize (W0.alloc (.cells #[.slice A t.length c] 24)) = W1 at *
  rcases hr with rfl | ⟨hr0, hr1, hs⟩
  · go_wp2
    go_ret
    exact ⟨rfl, hb0.trans (hb1.mono (by omega))⟩
  obtain ⟨hs1, hs2⟩ := small_of hs
  have hR1 := HR.out.below hb1 (by omega)
  have HS2 := Lib.hid hs2
  have HR1 := Lib.hid hR1
  clear HN HL HR hs hs2 hR1
  go_wp2_with fail
  -- w0 := spec.OrdersOf(toGroup(aG))
  refine (toGroup_any A t c w.heap.size W1 HR1.out (by omega) hs1 HS2.out).mono ?_
  rintro e W2 ⟨G2, rfl, hG2, hb2, hz2, hf2⟩
  have HF2 := Lib.hid hf2
  clear hf2
  have c2 := (h1.below hb2 h1.lt).cell 0
  clear c1
  go_wp2_with fail
  refine (specOrdersOf_any (some ⟨G2, 0, none⟩) t t.length (G2 + 1 + t.length) W2 HF2.out.rws hz2 hs1 HS2.out).mono ?_
  rintro e W3 ⟨A3, n3, rfl, hb3, ho3⟩
  have HO3 := Lib.hid ho3
  have hb13 := hb2.trans (hb3.mono hb2.size)
  have c3 := (h1.below hb13 h1.lt).cell 0
  clear c2 ho3
  go_wp2_with fail
  -- x0 := toGroup(aG)
  refine (toGroup_any A t c w.heap.size W3 (HR1.out.below hb13 (by omega)) (by have := hb13.size; omega) hs1 HS2.out).mono ?_
  rintro e W4 ⟨G4, rfl, hG4, hb4, hz4, hf4⟩
  have hb14 := hb13.trans (hb4.mono hb13.size)
  have c4 := (h1.below hb14 h1.lt).cell 0
  have HO4 := Lib.hid (HO3.out.below hb4 (Nat.le_refl _))
  clear c3
  have HF4 := Lib.hid hf4
  clear hf4
  go_wp2_with fail
  -- g0, g1 := impl.OrdersOf(x0)
  have hb5 : Below W4.heap.size W4 (W4.alloc (.cells #[.slice (some ⟨G4, 0, none⟩) t.length t.length] 27)) := (Below.refl _ _).alloc (Nat.le_refl _) _
  have x5 := Has.new W4 27 #[.slice (some ⟨G4, 0, none⟩) t.length t.length]
  have hz5 : (W4.alloc (.cells #[.slice (some ⟨G4, 0, none⟩) t.length t.length] 27)).heap.size = W4.heap.size + 1 := by simp
  generalize (W4.alloc (.cells #[.slice (some ⟨G4, 0, none⟩) t.length t.length] 27)) = W5 at *
  have HF5 := Lib.hid (HF4.out.below hb5 hz4)
  have HO5 := Lib.hid (HO4.out.below hb5 (Nat.le_refl _))
  have hb15 := hb14.trans (hb5.mono hb14.size)
  refine (implOrdersOf_any (some ⟨G4, 0, none⟩) t t.length (G4 + 1 + t.length) W5 HF5.out.rws (by omega) hs1 HS2.out).mono ?_
  rintro e W6 ⟨A6, n6, rfl, hb6, ho6⟩
  have hx8 := ordersR_small t
  have HX6 := Lib.hid ho6
  have HX3 := Lib.hid (HO5.out.below hb6 (Nat.le_refl _))
  have HF6 := Lib.hid (HF5.out.below hb6 (by omega))
  have hb16 := hb15.trans (hb6.mono hb15.size)
  have c6 := (h1.below hb16 h1.lt).cell 0
  have x6 := (x5.below hb6 x5.lt).cell 0
  have hb36 : Below W3.heap.size W3 W6 := (hb4.trans (hb5.mono hb4.size)).trans (hb6.mono (by have := hb4.size; have := hb5.size; omega))
  have hz13 := hb13.size
  clear c4 ho6 HO4 HO5 HF4 HF5
  generalize hxs : ordersR t = xs at *
  generalize hqs : codeR t = q at *
  have HXS := Lib.hid hxs
  have HQS := Lib.hid hqs
  clear hxs hqs
  have heq : decide (xs = xs) = true := by simp
  have hqq : (q != q) = false := by simp
  go_wp2_with fail
  refine (eqInt64S_any A6 A3 xs xs n6 n3 _ _ W6 HX6.out.ints HX3.out.ints (by omega) (by omega)).mono ?_
  rintro e W7 ⟨rfl, hd7⟩
  have hz6 : G4 + 1 + t.length ≤ W6.heap.size := by have := hb6.size; omega
  have hb67 : Below W6.heap.size W6 W7 := hd7.below _
  have hz67 := hb67.size
  have hb17 := hb16.trans (hb67.mono hb16.size)
  have x66 := x5.below hb6 x5.lt
  have x77' := x66.below hb67 x66.lt
  have c7 := (h1.below hb17 h1.lt).cell 0
  have x7 := x77'.cell 0
  have HF7 := Lib.hid (HF6.out.below hb67 hz6)
  have HX67 := Lib.hid (HX6.out.below hb67 (Nat.le_refl _))
  have HX37 := Lib.hid (HX3.out.below hb67 (Nat.le_refl _))
  have hR7' := HR1.out.below hb17 (by omega)
  have hR7 : Rws W7.drew w.heap.size A t := hR7'
  have HR7 := Lib.hid hR7
  have h17 : Has W7.drew w.heap.size 24 #[.slice A t.length c] := h1.below hb17.drew h1.lt
  have x77 : Has W7.drew W4.heap.size 27 #[.slice (some ⟨G4, 0, none⟩) t.length t.length] := x77'
  have hz7 : G4 + 1 + t.length ≤ W7.heap.size := by omega
  have hle7 : w.heap.size ≤ W7.drew.heap.size := by show w.heap.size ≤ W7.heap.size; have := hb17.size; omega
  have H1 := Lib.hid h1
  clear hR7 hR7' c6 x6 hd7 x66 x77' HX6 HX3 HF6 h1 h0 hb2 hb3 hb4 hb5 hb6 HF2 x5
  go_wp2_with fail
  go_region_held3 (fun w' => w'.cell? ⟨w.heap.size, 0, none⟩ = some (.slice A t.length c) ∧ w'.cell? ⟨W4.heap.size, 0, none⟩ = some (.slice (some ⟨G4, 0, none⟩) t.length t.length))
    (first | go_keep | exact ⟨(h17.below hb8 h17.lt).cell 0, (x77.below hb8 x77.lt).cell 0⟩ | exact ⟨(h17.below (hb8.trans (hb9.mono hb8.size)) h17.lt).cell 0, (x77.below (hb8.trans (hb9.mono hb8.size)) x77.lt).cell 0⟩)
    (first
      | (go_at_call 17; refine (toGroup_any A t c w.heap.size W7.drew HR7.out hle7 hs1 HS2.out).mono ?_; rintro e W8 ⟨G8, rfl, hG8, hb8, hz8, hf8⟩)
      | (go_at_call 19; refine (eqGroup_any (some ⟨G4, 0, none⟩) (some ⟨G8, 0, none⟩) t t t.length t.length (G4 + 1 + t.length) (G8 + 1 + t.length) _ (HF7.out.drew.below hb8 hz7).rws hf8.rws (Nat.le_trans hz7 hb8.size) hz8 hs1 hs1 HS2.out HS2.out).mono ?_; rintro e W9 ⟨rfl, hb9⟩))
  have hb79 : Below W7.heap.size W7 W9 := by
    have h8 : Below W7.drew.heap.size W7.drew W9 := hb8.trans (hb9.mono hb8.size)
    exact (Below.refl _ W7).drew.trans h8
  have h19 := h17.below (hb8.trans (hb9.mono hb8.size)) h17.lt
  have x9 := x77.below (hb8.trans (hb9.mono hb8.size)) x77.lt
  have c9 := h19.cell 0
  have y9 := x9.cell 0
  clear h17 x77 c7 x7
  go_wp2_with fail
  have hz79 := hb79.size
  have B19 : Below W1.heap.size W1 W9 := hb17.trans (hb79.mono (by omega))
  have B39 : Below W3.heap.size W3 W9 := (hb36.trans (hb67.mono hb36.size)).trans (hb79.mono (by have := hb36.size; omega))
  have X9 := Lib.hid (HX67.out.below hb79 (Nat.le_refl _))
  refine (markGroup_any G4 t W9 _ _ (HF7.out.below hb79 hz7) (by omega) hs1 HS2.out).mono ?_
  rintro e W10 ⟨k, rfl, hb10, hm10⟩
  have hz10 := hb10.size
  have X10 := Lib.hid (X9.out.same hz10 (fun b hl hlt => hm10 b (by omega) hlt))
  have B1x : Below W1.heap.size W1 W10 := B19.trans (hb10.mono (by omega))
  have B3x : Below W3.heap.size W3 W10 := B39.trans (hb10.mono hG4)
  have hk0 : decide ((k : Int) < 0) = false := by simp
  have hk1 : ¬ ((k : Int) < 0) := by omega
  have Y10 := Lib.hid (HO3.out.below B3x (Nat.le_refl _))
  clear hm10 X9 HX67 HX37 c9 y9 h19 x9 hf8
  go_wp2_with fail
  refine (eqInt64S_any A6 A3 xs xs n6 n3 _ _ W10 X10.out.ints Y10.out.ints (by omega) (by omega)).mono ?_
  rintro e W11 ⟨rfl, hd11⟩
  have hb11 : Below W10.heap.size W10 W11 := hd11.below _
  have hz11 := hb11.size
  have X11 := X10.out.below hb11 (Nat.le_refl _)
  obtain ⟨b6, o6, e6, l6, t6, v6⟩ := X11
  have V6 := Lib.hid v6
  have E6 := Lib.hid e6
  have B1y : Below W1.heap.size W1 W11 := B1x.trans (hb11.mono B1x.size)
  have B3y : Below W3.heap.size W3 W11 := B3x.trans (hb11.mono B3x.size)
  clear hk0 hk1 hd11 v6 e6
  go_wp2_with fail
  refine (markInt64S_any A6 b6 o6 xs.length n6 1 W11 E6.out (fun j hj => ⟨⟨_, (V6.out j hj).1⟩, (V6.out j hj).2⟩) (by omega) (by omega)).mono ?_
  rintro e W12 ⟨rfl, hu12, hm12⟩
  have hb12 : Below b6 W11 W12 := hu12.below fun b o h => by have : b = b6 := h.1; omega
  have hz12 : W12.heap.size = W11.heap.size := hu12.size
  have B1z : Below W1.heap.size W1 W12 := B1y.trans (hb12.mono (by omega))
  have B3z : Below W3.heap.size W3 W12 := B3y.trans (hb12.mono (by omega))
  have M12 := Lib.hid hm12
  have c12 := (H1.out.below B1z H1.out.lt).cell 0
  clear hu12 hm12
  obtain ⟨mm, hmm⟩ : ∃ mm : Int, ((1 + xs.length : Nat) : Int) = mm := ⟨_, rfl⟩
  have h120 : decide (mm < 0) = false := by simp only [decide_eq_false_iff_not]; omega
  have h121 : ¬ mm < 0 := by omega
  have h122 : (mm != mm) = false := by simp
  have HMM := Lib.hid hmm
  rw [hmm]
  clear hmm
  go_wp2_with fail
  refine (heldInt64S_any A6 b6 o6 xs.length n6 1 W12 E6.out M12.out (by omega) (by omega)).mono ?_
  rintro e W12' ⟨rfl, rfl⟩
  rw [HMM.out]
  go_wp2_with fail
  refine (toGroup_any A t c w.heap.size W12 (HR1.out.below B1z (by omega)) (by have := B1z.size; omega) hs1 HS2.out).mono ?_
  rintro e W13 ⟨G13, rfl, hG13, hb13', hz13', hf13⟩
  have HF13 := Lib.hid hf13
  clear hf13
  go_wp2_with fail
  have himpl := implOrdersOf_any (some ⟨G13, 0, none⟩) t t.length (G13 + 1 + t.length) W13 HF13.out.rws hz13' hs1 HS2.out
  rw [HXS.out, HQS.out] at himpl
  refine himpl.mono ?_
  clear himpl
  rintro e W14 ⟨A14, n14, rfl, hb14', ho14⟩
  have hb24 : Below W12.heap.size W12 W14 := hb13'.trans (hb14'.mono hb13'.size)
  have hz24 := hb24.size
  have X14 := Lib.hid ho14
  have B1w := B1z.trans (hb24.mono B1z.size)
  have B3w := B3z.trans (hb24.mono B3z.size)
  have Y14 := Lib.hid (HO3.out.below B3w (Nat.le_refl _))
  have M14 := Lib.hid (M12.out.below hb24 (by omega))
  clear ho14
  go_wp2_with fail
  refine (eqInt64S_any A14 A3 xs xs n14 n3 _ _ W14 X14.out.ints Y14.out.ints (by omega) (by omega)).mono ?_
  rintro e W15 ⟨rfl, hd15⟩
  have hb15' : Below W14.heap.size W14 W15 := hd15.below _
  have M15 := Lib.hid (M14.out.below hb15' (by omega))
  clear hd15
  go_wp2_with fail
  refine (heldInt64S_any A6 b6 o6 xs.length n6 1 W15 E6.out M15.out (by omega) (by omega)).mono ?_
  rintro e W15' ⟨rfl, rfl⟩
  rw [HMM.out]
  go_wp2
  go_ret
  exact ⟨rfl, (hb0.trans (hb1.mono (by omega))).trans ((B1w.trans (hb15'.mono B1w.size)).mono (by omega))⟩

end Go.Proofs.Ytnjcjdfleilgfaa
