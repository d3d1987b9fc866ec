/- The law of LeadNumber: the walk. -/
import Derived.Test.YtahilkhnlobaoaaLw1
import Derived.Test.YtahilkhnlobaoaaMd
import Derived.Test.YtahilkhnlobaoaaLd
namespace Go.Proofs.Ytahilkhnlobaoaa
open Go.RowKit

set_option maxRecDepth 100000 in
set_option maxHeartbeats 8000000 in
theorem lawLeadNumber_any (A L : Option Addr) (t : List (List Int)) (m : Int) (us : List Int) (c d : Nat) (el x : Int) (w : World) (hR : Rws w w.heap.size A t) (hX : Ints w w.heap.size L us)
    (hn : t.length ≤ maxLen) (hl : ∀ i, i < t.length → (row t i).length ≤ maxLen) (hm : us.length ≤ maxLen) :
    Calls Try.prog 10 #[.agg #[.slice A t.length c], .agg #[.int .i64 m, .slice L us.length d], .int .i64 el, .int .i64 x] w fun e w' => e = .returned (.bool true) ∧ Below w.heap.size w w' := by
  have hb0 : Below w.heap.size w ((w.alloc (.cells #[.slice A t.length c] 43)).alloc (.cells #[.int .i64 m, .slice L us.length d] 59)) := ((Below.refl _ _).alloc (Nat.le_refl _) _).alloc (by simp) _
  have h0 := (Has.new w 43 #[.slice A t.length c]).alloc (.cells #[.int .i64 m, .slice L us.length d] 59)
  have h0' := Has.newAt (w := w.alloc (.cells #[.slice A t.length c] 43)) (e := 59) (cs := #[.int .i64 m, .slice L us.length d]) (k := w.heap.size + 1) (by simp)
  have hz0 : ((w.alloc (.cells #[.slice A t.length c] 43)).alloc (.cells #[.int .i64 m, .slice L us.length d] 59)).heap.size = w.heap.size + 1 + 1 := by simp
  have HN := Lib.hid hn
  have HL := Lib.hid hl
  have HM := Lib.hid hm
  have HR := Lib.hid (hR.below hb0 (Nat.le_refl _))
  have HX := Lib.hid (hX.below hb0 (Nat.le_refl _))
  have c0 : ((w.alloc (.cells #[.slice A t.length c] 43)).alloc (.cells #[.int .i64 m, .slice L us.length d] 59)).cell? ⟨w.heap.size, 0, none⟩ = some (.slice A t.length c) := h0.cell 0
  clear hn hl hm hR hX
  go_enter Try.func10, Try.ntmps10
  go_wp2_with fail
  generalize ((w.alloc (.cells #[.slice A t.length c] 43)).alloc (.cells #[.int .i64 m, .slice L us.length d] 59)) = W0 at *
  refine (szGroup_any A t c 1048576 W0 (HR.out.more (by omega)) HN.out HL.out (by omega) (by omega)).mono ?_
  rintro e W1 ⟨⟨r, rfl, hr⟩, hW1⟩
  have hb1 : Below W0.heap.size W0 W1 := by rw [← hW1]; exact (Below.refl _ _).alloc (Nat.le_refl _) _
  have c1' := (h0'.below hb1 h0'.lt).cell 0
  have c1'' := (h0'.below hb1 h0'.lt).cell 1
  have hz1 := hb1.size
  clear hW1 c0
  rcases hr with rfl | ⟨hr0, hr1, hs⟩
  · go_wp2
    go_ret
    exact ⟨rfl, hb0.trans (hb1.mono (by omega))⟩
  obtain ⟨hs1, hs2⟩ := small_of hs
  have HS2 := Lib.hid hs2
  clear hs hs2 HN HL
  have hneg : decide (r < 0) = false := by simp; omega
  go_wp2_with fail
  refine (szModule_any L m us.length d r W1 HM.out hr0 hr1).mono ?_
  rintro e W2 ⟨⟨r', rfl, hr'⟩, hW2⟩
  have hb2 : Below W1.heap.size W1 W2 := by rw [hW2]; exact (Below.refl _ _).alloc (Nat.le_refl _) _
  have hb02 := hb1.trans (hb2.mono hz1)
  have hz02 := hb02.size
  have hbw2 := hb0.trans (hb02.mono (by omega))
  clear hW2 hneg c1' c1''
  rcases hr' with rfl | ⟨hr0', hr1', hs'⟩
  · go_wp2
    go_ret
    exact ⟨rfl, hbw2⟩
  have hxs : us.length ≤ 1048576 := by omega
  clear hs' HM
  have hneg : decide (r' < 0) = false := by simp; omega
  have c2 := (h0.below hb02 h0.lt).cell 0
  have HR2 := Lib.hid (HR.out.below hb02 (by omega))
  have HX2 := Lib.hid (HX.out.below hb02 (by omega))
  have H2 := Lib.hid (h0.below hb02 h0.lt)
  have H2' := Lib.hid (h0'.below hb02 h0'.lt)
  have hz2 : w.heap.size + 1 < W2.heap.size := by omega
  clear HR HX h0 h0' hb1 hb2 hb0 hb02
  -- w0, w1 := spec.LeadNumber(toGroup(aG), toModule(aA), ..)
  have hS2 : ∀ W', Below W2.drew.heap.size W2.drew W' → W'.cell? ⟨w.heap.size, 0, none⟩ = some (.slice A t.length c) ∧ W'.cell? ⟨w.heap.size + 1, 0, none⟩ = some (.int .i64 m) ∧ W'.cell? ⟨w.heap.size + 1, 1, none⟩ = some (.slice L us.length d) := fun W' hb =>
    ⟨(Has.below (w := W2.drew) H2.out hb (show _ < W2.heap.size by omega)).cell 0, (Has.below (w := W2.drew) H2'.out hb hz2).cell 0, (Has.below (w := W2.drew) H2'.out hb hz2).cell 1⟩
  have HSK := Lib.hid hS2
  have hle2 : w.heap.size ≤ W2.drew.heap.size := show w.heap.size ≤ W2.heap.size by omega
  have hR2 : Rws W2.drew w.heap.size A t := HR2.out
  have hX2 : Ints W2.drew w.heap.size L us := HX2.out
  have HR2d := Lib.hid hR2
  have HX2d := Lib.hid hX2
  clear hS2 hR2 hX2
  go_wp2_with fail
  go_region_held3 (fun w' => w'.cell? ⟨w.heap.size, 0, none⟩ = some (.slice A t.length c) ∧ w'.cell? ⟨w.heap.size + 1, 0, none⟩ = some (.int .i64 m) ∧ w'.cell? ⟨w.heap.size + 1, 1, none⟩ = some (.slice L us.length d))
    (first
      | exact HSK.out _ (Below.refl _ _)
      | exact HSK.out _ hb3
      | exact HSK.out _ (hb3.trans (hb4.mono hb3.size))
      | exact HSK.out _ ((hb3.trans (hb4.mono hb3.size)).trans (hb5.mono (Nat.le_trans hb3.size hb4.size))))
    (first
      | (go_at_call 32; refine (toGroup_any A t c w.heap.size W2.drew HR2d.out hle2 hs1 HS2.out).mono ?_; rintro e W3 ⟨G3, rfl, hG3, hb3, hz3, hf3⟩)
      | (go_at_call 49; refine (toModule_any L m us d w.heap.size W3 (HX2d.out.below hb3 hle2) (Nat.le_trans hle2 hb3.size) hxs).mono ?_; rintro e W4 ⟨G4, rfl, hG4, hb4, hz4, hh4⟩)
      | (go_at_call 60; refine (specLeadNumber_any (some ⟨G3, 0, none⟩) (some ⟨G4, 0, none⟩) t m us t.length us.length el x (G3 + 1 + t.length) (G4 + 1) W4 (hf3.below hb4 hz3).rws (Ints.of_has hh4 rfl) (Nat.le_trans hz3 hb4.size) (Nat.succ_le_of_lt hz4) hs1 HS2.out hxs).mono ?_; rintro e W5 ⟨rfl, hb5⟩))
  have hb26 : Below W2.heap.size W2 W5 := (Below.refl _ W2).drew.trans ((hb3.trans (hb4.mono hb3.size)).trans (hb5.mono (Nat.le_trans hb3.size hb4.size)))
  have hz26 := hb26.size
  have c6 := (H2.out.below hb26 H2.out.lt).cell 0
  clear hb3 hb4 hb5 hz3 hz4 hG3 hG4 hf3 hh4 hneg c2 HSK
  go_wp2_with fail
  -- x0 := toGroup(aG); x1 := toModule(aA)
  refine (toGroup_any A t c w.heap.size W5 (HR2.out.below hb26 (by omega)) (by omega) hs1 HS2.out).mono ?_
  rintro e W7 ⟨G7, rfl, hG7, hb7, hz7, hf7⟩
  have HF7 := Lib.hid hf7
  have hb27 := hb26.trans (hb7.mono hz26)
  have hb8 : Below W7.heap.size W7 (W7.alloc (.cells #[.slice (some ⟨G7, 0, none⟩) t.length t.length] 26)) := (Below.refl _ _).alloc (Nat.le_refl _) _
  have x8 := Has.new W7 26 #[.slice (some ⟨G7, 0, none⟩) t.length t.length]
  have hz8 : (W7.alloc (.cells #[.slice (some ⟨G7, 0, none⟩) t.length t.length] 26)).heap.size = W7.heap.size + 1 := by simp
  have HF8 := Lib.hid (HF7.out.below hb8 hz7)
  have hb28 := hb27.trans (hb8.mono hb27.size)
  have hz28 := hb28.size
  have c8' := (H2'.out.below hb28 H2'.out.lt).cell 0
  have c8'' := (H2'.out.below hb28 H2'.out.lt).cell 1
  clear hf7 c6 hb7 hb8 HF7 hb26
  go_wp2_with fail
  generalize (W7.alloc (.cells #[.slice (some ⟨G7, 0, none⟩) t.length t.length] 26)) = W8 at *
  refine (toModule_any L m us d w.heap.size W8 (HX2.out.below hb28 (by omega)) (by omega) hxs).mono ?_
  rintro e W9 ⟨G9, rfl, hG9, hb9, hz9, hh9⟩
  have HF9 := Lib.hid hh9
  have hb10 : Below W9.heap.size W9 (W9.alloc (.cells #[.int .i64 m, .slice (some ⟨G9, 0, none⟩) us.length us.length] 29)) := (Below.refl _ _).alloc (Nat.le_refl _) _
  have y10 := Has.new W9 29 #[.int .i64 m, .slice (some ⟨G9, 0, none⟩) us.length us.length]
  have hz10 : (W9.alloc (.cells #[.int .i64 m, .slice (some ⟨G9, 0, none⟩) us.length us.length] 29)).heap.size = W9.heap.size + 1 := by simp
  have hz89 := hb9.size
  have HF10 := Lib.hid (HF9.out.below hb10 hz9)
  have HE10 := Lib.hid ((HF8.out.below hb9 (by omega)).below hb10 (by omega))
  have x10 := (x8.below hb9 x8.lt).below hb10 (by omega)
  have hb2a := hb28.trans ((hb9.trans (hb10.mono hz89)).mono hz28)
  have hz2a := hb2a.size
  have cx := x10.cell 0
  have cy := y10.cell 0
  have cy' := y10.cell 1
  clear hh9 c8' c8'' HF9 HF8 hb10 hb9 x8 hb28
  go_wp2_with fail
  generalize (W9.alloc (.cells #[.int .i64 m, .slice (some ⟨G9, 0, none⟩) us.length us.length] 29)) = Wb at *
  refine (implLeadNumber_any (some ⟨G7, 0, none⟩) (some ⟨G9, 0, none⟩) t m us t.length us.length el x (G7 + 1 + t.length) (G9 + 1) Wb HE10.out.rws (Ints.of_has HF10.out rfl) (by omega) (by omega) hs1 HS2.out hxs).mono ?_
  rintro e Wc ⟨rfl, hbc⟩
  have HFc := Lib.hid (HF10.out.below hbc (by omega))
  have HEc := Lib.hid (HE10.out.below hbc (by omega))
  have xc := x10.below hbc x10.lt
  have yc := y10.below hbc y10.lt
  have hb2c := hb2a.trans (hbc.mono hz2a)
  have hz2c := hb2c.size
  have hzbc := hbc.size
  clear cx cy cy' HF10 HE10 x10 y10 hb2a hbc
  generalize leadR t m us el x = pr at *
  obtain ⟨p1, p2⟩ := pr
  have he1 : (p1 != p1) = false := by simp
  have he2 : (p2 != p2) = false := by simp
  have hle : w.heap.size ≤ Wc.drew.heap.size := show w.heap.size ≤ Wc.heap.size by omega
  have hRc' := HR2.out.below hb2c (show w.heap.size ≤ W2.heap.size by omega)
  have hRc : Rws Wc.drew w.heap.size A t := hRc'
  have HRc := Lib.hid hRc
  have hSc : ∀ W', Below Wc.drew.heap.size Wc.drew W' → W'.cell? ⟨w.heap.size, 0, none⟩ = some (.slice A t.length c) ∧ W'.cell? ⟨W7.heap.size, 0, none⟩ = some (.slice (some ⟨G7, 0, none⟩) t.length t.length) := fun W' hb =>
    ⟨(Has.below (w := Wc.drew) (H2.out.below hb2c.drew H2.out.lt) hb (show _ < Wc.heap.size by omega)).cell 0, (Has.below (w := Wc.drew) xc hb xc.lt).cell 0⟩
  have HSC := Lib.hid hSc
  have hzc7 : G7 + 1 + t.length ≤ Wc.heap.size := by omega
  have hzc9 : G9 + 1 ≤ Wc.heap.size := by omega
  clear hRc hRc' hSc
  go_wp2_with fail
  go_region_held3 (fun w' => w'.cell? ⟨w.heap.size, 0, none⟩ = some (.slice A t.length c) ∧ w'.cell? ⟨W7.heap.size, 0, none⟩ = some (.slice (some ⟨G7, 0, none⟩) t.length t.length))
    (first
      | exact HSC.out _ (Below.refl _ _)
      | exact HSC.out _ hbd
      | exact HSC.out _ (hbd.trans (hbe.mono hbd.size)))
    (first
      | (go_at_call 32; refine (toGroup_any A t c w.heap.size Wc.drew HRc.out hle hs1 HS2.out).mono ?_; rintro e Wd ⟨Gd, rfl, hGd, hbd, hzd, hfd⟩)
      | (go_at_call 35; refine (eqGroup_any (some ⟨G7, 0, none⟩) (some ⟨Gd, 0, none⟩) t t t.length t.length (G7 + 1 + t.length) (Gd + 1 + t.length) _ (HEc.out.drew.below hbd hzc7).rws hfd.rws (Nat.le_trans hzc7 hbd.size) hzd hs1 hs1 HS2.out HS2.out).mono ?_; rintro e We ⟨rfl, hbe⟩))
  have hbce : Below Wc.heap.size Wc We := (Below.refl _ Wc).drew.trans (hbd.trans (hbe.mono hbd.size))
  have hb2e := hb2c.trans (hbce.mono hz2c)
  have hzce := hbce.size
  have HFe := Lib.hid (HFc.out.below hbce hzc9)
  have ye := yc.below hbce yc.lt
  have hle2 : w.heap.size ≤ We.drew.heap.size := show w.heap.size ≤ We.heap.size by omega
  have hXe' := HX2.out.below hb2e (show w.heap.size ≤ W2.heap.size by omega)
  have hXe : Ints We.drew w.heap.size L us := hXe'
  have HXe := Lib.hid hXe
  have hSe : ∀ W', Below We.drew.heap.size We.drew W' → W'.cell? ⟨w.heap.size + 1, 0, none⟩ = some (.int .i64 m) ∧ W'.cell? ⟨w.heap.size + 1, 1, none⟩ = some (.slice L us.length d) ∧ W'.cell? ⟨W9.heap.size, 0, none⟩ = some (.int .i64 m) ∧ W'.cell? ⟨W9.heap.size, 1, none⟩ = some (.slice (some ⟨G9, 0, none⟩) us.length us.length) := fun W' hb =>
    ⟨(Has.below (w := We.drew) (H2'.out.below hb2e.drew H2'.out.lt) hb (show _ < We.heap.size by omega)).cell 0, (Has.below (w := We.drew) (H2'.out.below hb2e.drew H2'.out.lt) hb (show _ < We.heap.size by omega)).cell 1, (Has.below (w := We.drew) ye hb ye.lt).cell 0, (Has.below (w := We.drew) ye hb ye.lt).cell 1⟩
  have HSE := Lib.hid hSe
  have hze9 : G9 + 1 ≤ We.heap.size := by omega
  have hIe : Ints We.drew (G9 + 1) (some ⟨G9, 0, none⟩) us := Ints.of_has (w := We.drew) HFe.out rfl
  have HIe := Lib.hid hIe
  clear hXe hXe' hSe HRc HSC hbd hbe hfd HEc xc yc HFc hIe
  go_wp2_with fail
  go_region_held3 (fun w' => w'.cell? ⟨w.heap.size + 1, 0, none⟩ = some (.int .i64 m) ∧ w'.cell? ⟨w.heap.size + 1, 1, none⟩ = some (.slice L us.length d) ∧ w'.cell? ⟨W9.heap.size, 0, none⟩ = some (.int .i64 m) ∧ w'.cell? ⟨W9.heap.size, 1, none⟩ = some (.slice (some ⟨G9, 0, none⟩) us.length us.length))
    (first
      | exact HSE.out _ (Below.refl _ _)
      | exact HSE.out _ hbf
      | exact HSE.out _ (hbf.trans (hbg.mono hbf.size)))
    (first
      | (go_at_call 49; refine (toModule_any L m us d w.heap.size We.drew HXe.out hle2 hxs).mono ?_; rintro e Wf ⟨Gf, rfl, hGf, hbf, hzf, hff⟩)
      | (go_at_call 50; refine (eqModule_same (some ⟨G9, 0, none⟩) (some ⟨Gf, 0, none⟩) m us us.length us.length (G9 + 1) (Gf + 1) _ (HIe.out.below hbf hze9) (Ints.of_has hff rfl) (Nat.le_trans hze9 hbf.size) (Nat.succ_le_of_lt hzf) hxs).mono ?_; rintro e Wg ⟨rfl, hbg⟩))
  have hbeg : Below We.heap.size We Wg := (Below.refl _ We).drew.trans (hbf.trans (hbg.mono hbf.size))
  have hb2g := hb2e.trans (hbeg.mono (by omega))
  clear HSE HXe hbf hbg hff HFe ye HIe
  go_wp2_with fail
  go_ret
  exact ⟨rfl, hbw2.trans (hb2g.mono hbw2.size)⟩

end Go.Proofs.Ytahilkhnlobaoaa
